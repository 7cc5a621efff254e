/- Texts put together. -/
import Derived.Test.YtlkhjekakbckmaaYc
import Derived.Shelf.SlMaps.Clone
import Derived.Laws.Externs
/- Package disk: keep and put: a sector holds this; bytes are laid from a sector on. -/
namespace Go.Proofs.Ytlkhjekakbckmaa.D
open Go.RowKit Go.Maps
set_option linter.unusedVariables false
set_option linter.unusedSimpArgs false
set_option maxRecDepth 100000
/-- a slice of n bytes that is read, and lies in no block of F -/
def ReadsF (F : Nat → Prop) (w : World) (v : Value) (n : Nat) (f : Nat → Nat) : Prop :=
  (n = 0 ∧ ∃ a cap, cap ≤ 9223372036854775807 ∧ v = .slice a 0 cap) ∨ ∃ b off cap, v = .slice (some ⟨b, off, none⟩) n cap ∧ ¬ F b ∧ n ≤ cap ∧ cap ≤ 9223372036854775807 ∧ ∀ i, i < n → w.cell? ⟨b, off + i, none⟩ = some (.int .u8 (f i : Nat))
theorem ReadsF.cut {F : Nat → Prop} {w : World} {b off cap n m : Nat} {f : Nat → Nat} (hF : ¬ F b) (h1 : n ≤ cap) (h2 : cap ≤ 9223372036854775807) (hm : m ≤ n) (hc : ∀ i, i < n → w.cell? ⟨b, off + i, none⟩ = some (.int .u8 (f i : Nat))) :
    ReadsF F w (.slice (if cap = m then some ⟨b, off, none⟩ else some ⟨b, off + m, none⟩) (n - m) (cap - m)) (n - m) (fun i => f (m + i)) := by
  by_cases h0 : n = m
  · subst h0
    refine .inl ⟨by omega, _, cap - n, by omega, by rw [Nat.sub_self]⟩
  · rw [if_neg (by omega)]
    refine .inr ⟨b, off + m, cap - m, rfl, hF, by omega, by omega, fun i hi => ?_⟩
    rw [Nat.add_assoc]
    exact hc (m + i) (by omega)
theorem ReadsF.two {a b : Nat} {w w' : World} {v : Value} {n : Nat} {f : Nat → Nat} (h : ReadsF (fun k => k = a ∨ k = b) w v n f) (hs : Two a b w w') : ReadsF (fun k => k = a ∨ k = b) w' v n f := by
  rcases h with h | ⟨g, off, cap, hv, hb, h1, h2, hc⟩
  · exact .inl h
  · exact .inr ⟨g, off, cap, hv, hb, h1, h2, fun i hi => hs.cell (hc i hi) (fun e => hb (.inl e)) (fun e => hb (.inr e))⟩
theorem ReadsF.form {F : Nat → Prop} {w : World} {v : Value} {n : Nat} {f : Nat → Nat} (h : ReadsF F w v n f) : ∃ a cap, v = .slice a n cap ∧ n ≤ 9223372036854775807 := by
  rcases h with ⟨rfl, a, cap, _, rfl⟩ | ⟨b, off, cap, rfl, _, h1, h2, _⟩
  · exact ⟨a, cap, rfl, by omega⟩
  · exact ⟨_, _, rfl, by omega⟩
theorem load63 {w : World} {b : Nat} {f : Nat → Nat} (h : Box 136 w b (secRow f)) : (loadVar 136 ⟨b, 0, none⟩).run Try.prog w = .ok (.agg (secRow f)) w := run_loadVar_row w b 136 136 _ (0, 0) _ h Try.underlying136 rfl (info63 f)
theorem yield63 {w : World} {o : Oper} {a : Act} {b : Nat} {f : Nat → Nat} (hw : Box 136 w b (secRow f)) (x : Operand) (hop : o.op = Op.load 136 x) (hx : a.eval x = .pointer (some ⟨b, 0, none⟩)) : (execOp a.eval o).run Try.prog w = .ok (.value (.agg (secRow f))) w := by
  simp only [execOp, hop, hx, Instr.loadAt, Instr.sureAddr, Sem.run_bind, Sem.run_pure, Result.andThen_ok, load63 hw]
theorem wp_mapUpdate_run {w w' : World} {o : Oper} {a : Act} {KK : Act → World → Prop} {Q : Exit → Act → World → Prop} (m x v : Operand) (hop : o.op = Op.mapUpdate 131 m x v) {mv key val : Value} (hm : a.eval m = mv) (hx : a.eval x = key) (hv : a.eval v = val) (hrun : (Instr.mapUpdate 131 mv key val).run Try.prog w = .ok () w') (h : KK (a.put o.dst undef) w') : o.wp Try.prog a w KK Q := by
  unfold Oper.wp
  simp [execOp, hop, hm, hx, hv, hrun, Result.andThen]
  exact h
def keepK (K : Dk) (n : Nat) (f : Nat → Nat) : Dk := { K with M := setS K.M n f }
theorem keepK_ok {K : Dk} (h : K.Ok) (n : Nat) (f : Nat → Nat) (hn : n < K.count) (hf : ∀ i, f i ≤ 255) : (keepK K n f).Ok := by
  refine ⟨h.cnt, h.req, h.flu, h.fai, fun a => ?_, fun a ha => ?_⟩
  · show setS K.M n f a ≤ 255
    unfold setS
    split
    · exact hf _
    · exact h.le a
  · show setS K.M n f a = 0
    have ha2 : K.count * 512 ≤ a := ha
    unfold setS
    rw [if_neg (by omega)]
    exact h.out a ha
/-- the map is another one, the disk's own cells are as they were -/
theorem DiskAt.map {w w' : World} {db bm n : Nat} {K : Dk} {f : Nat → Nat} {D : DataW Unit} {c : Nat} (h : DiskAt w db bm K) (hn : n < K.count) (hf : ∀ i, f i ≤ 255) (ho : w'.ownsMap Try.prog 23 secElem bm c D) (hp : Sect D (setS K.M n f)) (hg : w.grownBy w' (some bm)) : DiskAt w' db bm (keepK K n f) := by
  have hk := keepK_ok h.2.2 n f hn hf
  refine ⟨(Two.of_grown (a := w.heap.size) hg).box h.1 (by have := h.lt.1; omega) h.ne, ⟨D, ?_, hp⟩, hk⟩
  exact owns_tight ho hp (fun a ha => hk.out a ha)
set_option maxHeartbeats 2000000 in
theorem keep_any {w : World} {db bm : Nat} {K : Dk} (h : DiskAt w db bm K) (n : Nat) (f : Nat → Nat) (hn : n < K.count) (hf : ∀ i, f i ≤ 255) :
    Calls Try.prog 118 #[.pointer (some ⟨db, 0, none⟩), .int .u64 (n : Nat), .agg (secRow f)] w fun e w' => e = .returned (.tuple #[]) ∧ DiskAt w' db bm (keepK K n f) ∧ Two db bm w w' := by
  have hc := h.2.2.cnt
  have h1 : DiskAt (w.alloc (.cells (secRow f) 136)) db bm K := h.step ((Below.refl _ _).alloc (Nat.le_refl _) _)
  have hT : Two db bm w (w.alloc (.cells (secRow f) 136)) := Two.of_below ((Below.refl _ _).alloc (Nat.le_refl _) _)
  have hB : Box 136 (w.alloc (.cells (secRow f) 136)) w.heap.size (secRow f) := Box.new 136 w _
  have hlt := h.lt
  have X : Hid (DiskAt (w.alloc (.cells (secRow f) 136)) db bm K ∧ Two db bm w (w.alloc (.cells (secRow f) 136)) ∧ Box 136 (w.alloc (.cells (secRow f) 136)) w.heap.size (secRow f)) := ⟨h1, hT, hB⟩
  have HF : Hid (∀ i, f i ≤ 255) := hf
  clear h h1 hT hB hf
  cases hz : secEq f (fun _ => 0) with
  | true =>
    obtain ⟨D, ho, hp⟩ := X.out.1.2.1
    obtain ⟨w2, D2, hrun, ho2, hp2, hg2⟩ := sect_del ho hp n f (by omega) hz 0
    have Y : Hid _ := And.intro (X.out.1.map hn HF.out ho2 hp2 hg2) (X.out.2.1.trans (Two.of_grown hg2))
    clear ho hp ho2 hp2 hg2
    have HZ : Hid (secEq f (fun _ => 0) = true) := hz
    clear hz
    go_enter Try.func118, Try.ntmps118
    go_upto_region 0 with fail
    refine wp_region_list ?_
    refine wpList_box63 rfl _ rfl f rfl ?_
    have c2 := X.out.1.c2
    generalize w.alloc (.cells (secRow f) 136) = w1 at *
    go_upto_region 1 with fail
    refine wp_region_list ?_
    refine wpList_load63 rfl _ rfl w.heap.size f rfl X.out.2.2 ?_
    refine wpList_build63 rfl rfl ?_
    refine wpList_eql63 rfl _ _ _ rfl f (fun _ => 0) rfl rfl ?_
    rw [HZ.out]
    go_upto_region 2 with fail
    refine wp_region_list ?_
    (refine wpList_step (fun KK hKK => ?_); go_simp; refine hKK _ _ ?_; clear hKK KK)
    (refine wpList_step (fun KK hKK => ?_); go_simp; refine hKK _ _ ?_; clear hKK KK)
    (refine wpList_step (fun KK hKK => ?_); go_simp; refine hKK _ _ ?_; clear hKK KK)
    (refine wpList_step (fun KK hKK => ?_); go_simp; refine hKK _ _ ?_; clear hKK KK)
    (refine wpList_step (fun KK hKK => ?_); go_simp; refine hKK _ _ ?_; clear hKK KK)
    refine wpList_delete_run rfl _ _ rfl rfl rfl hrun ?_
    go_wp2_with fail
    refine bodyPost_ret (results_none rfl _ _ _) rfl ?_
    exact ⟨rfl, Y.out.1, Y.out.2⟩
  | false =>
    obtain ⟨D, ho, hp⟩ := X.out.1.2.1
    have ho := World.ownsMap.drew ho
    obtain ⟨w2, D2, hrun, ho2, hp2, hg2⟩ := sect_put ho hp n f (by omega) (by unfold maxLen; omega) hz
    have hd : DiskAt (w.alloc (.cells (secRow f) 136)).drew db bm K := X.out.1.step (Below.drew (Below.refl _ _))
    have Y : Hid (DiskAt w2 db bm (keepK K n f) ∧ Two db bm w w2 ∧ Box 136 w2 w.heap.size (secRow f)) := by
      have t2 : Two db bm (w.alloc (.cells (secRow f) 136)).drew w2 := Two.of_grown hg2
      have b2 : Box 136 (w.alloc (.cells (secRow f) 136)).drew w.heap.size (secRow f) := X.out.2.2.drew
      exact ⟨hd.map hn HF.out ho2 hp2 hg2, (X.out.2.1.trans (Two.of_below (Below.drew (Below.refl _ _)))).trans t2, t2.box b2 (by omega) (by omega)⟩
    clear ho hp ho2 hp2 hg2 hd
    have HZ : Hid (secEq f (fun _ => 0) = false) := hz
    clear hz
    go_enter Try.func118, Try.ntmps118
    go_upto_region 0 with fail
    refine wp_region_list ?_
    refine wpList_box63 rfl _ rfl f rfl ?_
    have c2 := X.out.1.c2
    generalize w.alloc (.cells (secRow f) 136) = w1 at *
    go_upto_region 1 with fail
    refine wp_region_list ?_
    refine wpList_load63 rfl _ rfl w.heap.size f rfl X.out.2.2 ?_
    refine wpList_build63 rfl rfl ?_
    refine wpList_eql63 rfl _ _ _ rfl f (fun _ => 0) rfl rfl ?_
    rw [HZ.out]
    go_upto_region 3 with fail
    refine wp_region_held_drew (S := fun V => Box 136 V w.heap.size (secRow f) ∧ V.cell? ⟨db, 2, none⟩ = some (.map (some bm))) (by kernel_rfl) ⟨X.out.2.2.drew, c2⟩ ?_
    intro hS
    refine wpAnyH_take (i := 0) (v := ?_) rfl (by kernel_rfl) (by kernel_rfl) (by kernel_rfl) (fun _ _ _ h => h) (Or.inl ⟨by kernel_rfl, ?_⟩) hS ?_
    rotate_left
    · intro w hSw; (try dsimp only at hSw); go_simp; try (with_reducible rfl)
    (try simp only [Act.put, List.getElem_toArray, List.getElem_cons_succ, List.getElem_cons_zero, List.setIfInBounds_toArray, List.set_cons_zero, List.set_cons_succ])
    refine wpAnyH_take (i := 1) (v := ?_) rfl (by kernel_rfl) (by kernel_rfl) (by kernel_rfl) (fun _ _ _ h => h) (Or.inl ⟨by kernel_rfl, ?_⟩) hS ?_
    rotate_left
    · intro w hSw; (try dsimp only at hSw); go_simp; try (with_reducible rfl)
    (try simp only [Act.put, List.getElem_toArray, List.getElem_cons_succ, List.getElem_cons_zero, List.setIfInBounds_toArray, List.set_cons_zero, List.set_cons_succ])
    refine wpAnyH_take (i := 2) (v := ?_) rfl (by kernel_rfl) (by kernel_rfl) (by kernel_rfl) (fun _ _ _ h => h) (Or.inl ⟨by kernel_rfl, ?_⟩) hS ?_
    rotate_left
    · intro w hSw; (try dsimp only at hSw); go_simp; try (with_reducible rfl)
    (try simp only [Act.put, List.getElem_toArray, List.getElem_cons_succ, List.getElem_cons_zero, List.setIfInBounds_toArray, List.set_cons_zero, List.set_cons_succ])
    refine wpAnyH_take (i := 3) (v := ?_) rfl (by kernel_rfl) (by kernel_rfl) (by kernel_rfl) (fun _ _ _ h => h) (Or.inl ⟨by kernel_rfl, ?_⟩) hS ?_
    rotate_left
    · intro w hSw; (try dsimp only at hSw); go_simp; try (with_reducible rfl)
    (try simp only [Act.put, List.getElem_toArray, List.getElem_cons_succ, List.getElem_cons_zero, List.setIfInBounds_toArray, List.set_cons_zero, List.set_cons_succ])
    refine wpAnyH_take (i := 4) (v := ?_) rfl (by kernel_rfl) (by kernel_rfl) (by kernel_rfl) (fun _ _ _ h => h) (Or.inl ⟨by kernel_rfl, ?_⟩) hS ?_
    rotate_left
    · intro w hSw; (try dsimp only at hSw); go_simp; try (with_reducible rfl)
    (try simp only [Act.put, List.getElem_toArray, List.getElem_cons_succ, List.getElem_cons_zero, List.setIfInBounds_toArray, List.set_cons_zero, List.set_cons_succ])
    refine wpAnyH_take (i := 5) (v := .agg (secRow f)) rfl (by kernel_rfl) (by kernel_rfl) (by kernel_rfl) (fun _ _ _ h => h) (Or.inl ⟨by kernel_rfl, fun V hV => yield63 hV.1 _ rfl rfl⟩) hS ?_
    (try simp only [Act.put, List.getElem_toArray, List.getElem_cons_succ, List.getElem_cons_zero, List.setIfInBounds_toArray, List.set_cons_zero, List.set_cons_succ])
    refine wpAnyH_ready (rs := [6]) (by kernel_rfl) (by simp) ?_
    refine AllReadyH.cons rfl (fun K1 hK1 => ?_) AllReadyH.nil
    rw [if_pos (by kernel_rfl)]
    refine wp_mapUpdate_run _ _ _ rfl rfl rfl rfl hrun ?_
    refine hK1.out _ _ ⟨Y.out.2.2, Y.out.1.c2⟩ (fun hS2 => ?_)
    clear hK1 K1 hS
    (try simp only [Act.put, List.getElem_toArray, List.getElem_cons_succ, List.getElem_cons_zero, List.setIfInBounds_toArray, List.set_cons_zero, List.set_cons_succ])
    refine wpAnyH_done (by kernel_rfl) ?_ _
    clear hS2
    go_wp2_with fail
    go_end0
    exact ⟨rfl, Y.out.1, Y.out.2.1⟩
/-- laid up to a sector, and that one -/
theorem layN_next (M : Nat → Nat) (N x j L : Nat) (f : Nat → Nat) (hN : x * 512 + 512 * j + 512 ≤ N) (m : Nat) (hm : m = min (L - 512 * j) 512) : setS (layN M N (x * 512) (512 * j) L f) (x + j) (fun i => if i < m then f (512 * j + i) else 0) = layN M N (x * 512) (512 * (j + 1)) L f := by
  funext a
  unfold setS layN
  by_cases h1 : (x + j) * 512 ≤ a ∧ a < (x + j) * 512 + 512
  · have g1 : a < N := by omega
    have g2 : x * 512 ≤ a ∧ a < x * 512 + 512 * (j + 1) := by omega
    rw [if_pos h1, if_pos g1, if_pos g2]
    show (if a - (x + j) * 512 < m then f (512 * j + (a - (x + j) * 512)) else 0) = _
    by_cases h2 : a - x * 512 < L
    · have g3 : a - (x + j) * 512 < m := by omega
      rw [if_pos g3, if_pos h2]
      congr 1; omega
    · have g3 : ¬ a - (x + j) * 512 < m := by omega
      rw [if_neg g3, if_neg h2]
  · rw [if_neg h1]
    by_cases h2 : a < N
    · rw [if_pos h2, if_pos h2]
      by_cases h3 : x * 512 ≤ a ∧ a < x * 512 + 512 * j
      · have g2 : x * 512 ≤ a ∧ a < x * 512 + 512 * (j + 1) := by omega
        rw [if_pos h3, if_pos g2]
      · have g2 : ¬ (x * 512 ≤ a ∧ a < x * 512 + 512 * (j + 1)) := by omega
        rw [if_neg h3, if_neg g2]
    · rw [if_neg h2, if_neg h2]
theorem layN_none (M : Nat → Nat) (N x L : Nat) (f : Nat → Nat) (h : ∀ a, N ≤ a → M a = 0) : layN M N x 0 L f = M := by
  funext a
  unfold layN
  by_cases h1 : a < N
  · rw [if_pos h1, if_neg (by omega)]
  · rw [if_neg h1, h a (by omega)]
def partK (K : Dk) (x n L : Nat) (f : Nat → Nat) : Dk := { K with M := layN K.M (K.count * 512) (x * 512) n L f }
theorem partK_next (K : Dk) (x j L m : Nat) (f : Nat → Nat) (hN : x * 512 + 512 * j + 512 ≤ K.count * 512) (hm : m = min (L - 512 * j) 512) : keepK (partK K x (512 * j) L f) (x + j) (fun i => if i < m then f (512 * j + i) else 0) = partK K x (512 * (j + 1)) L f := by
  unfold keepK partK
  simp only [layN_next K.M (K.count * 512) x j L f hN m hm]
theorem reads_cut0 {F : Nat → Prop} {w : World} {v : Value} {n : Nat} {f : Nat → Nat} (h : ReadsF F w v n f) (h0 : 0 < n) : ∃ b off cap, v = .slice (some ⟨b, off, none⟩) n cap ∧ ¬ F b ∧ n ≤ cap ∧ cap ≤ 9223372036854775807 ∧ ∀ i, i < n → w.cell? ⟨b, off + i, none⟩ = some (.int .u8 (f i : Nat)) := by
  rcases h with ⟨h, _⟩ | h
  · omega
  · exact h
set_option maxHeartbeats 4000000 in
theorem put_any {w : World} {db bm : Nat} {K : Dk} (h : DiskAt w db bm K) (x L : Nat) (f : Nat → Nat) (v : Value) (hr : ReadsF (fun k => k = db ∨ k = bm) w v L f) (hf : ∀ i, f i ≤ 255) (hL : x * 512 + L ≤ K.count * 512) :
    Calls Try.prog 82 #[.pointer (some ⟨db, 0, none⟩), .int .u64 (x : Nat), v] w fun e w' => e = .returned (.tuple #[]) ∧ DiskAt w' db bm (putK K x L f) ∧ Two db bm w w' := by
  have hc := h.2.2.cnt
  have hfin : ∀ j, L ≤ 512 * j → 512 * j ≤ up L → partK K x (512 * j) L f = putK K x L f := fun j h1 h2 => by
    unfold partK putK
    rw [show 512 * j = up L from by unfold up at *; omega]
  have H : Hid (DiskAt w db bm K ∧ ReadsF (fun k => k = db ∨ k = bm) w v L f ∧ ∀ j, L ≤ 512 * j → 512 * j ≤ up L → partK K x (512 * j) L f = putK K x L f) := ⟨h, hr, hfin⟩
  clear hfin h hr
  go_enter Try.func82, Try.ntmps82
  go_wp2
  go_loopw [1, 2] (fun a d wr => ∃ j, 512 * j ≤ up L ∧ a = .int .u64 ((x + j : Nat) : Int) ∧ ReadsF (fun k => k = db ∨ k = bm) wr d (L - 512 * j) (fun i => f (512 * j + i)) ∧ DiskAt wr db bm (partK K x (512 * j) L f) ∧ Two db bm w wr) (fun a _ _ => (x + 65537) - (intOf a).toNat)
  case atStart => exact ⟨0, Nat.zero_le _, rfl, by simpa using H.out.2.1, by unfold partK; rw [layN_none _ _ _ _ _ H.out.1.2.2.out]; exact H.out.1, Two.refl _ _ _⟩
  case round =>
    obtain ⟨j, hj, rfl, hrd, hd, ht⟩ := hrel
    by_cases hlt : 512 * j < L
    · obtain ⟨bd, od, cd, rfl, hG, hc1, hc2, hcell⟩ := reads_cut0 hrd (by omega)
      obtain ⟨y, hy⟩ : ∃ y, x + j = y := ⟨_, rfl⟩
      obtain ⟨R, hR⟩ : ∃ R, L - 512 * j = R := ⟨_, rfl⟩
      obtain ⟨m, hm⟩ : ∃ m, m = min R 512 := ⟨_, rfl⟩
      have hy2 : y < 65536 := by unfold up at hj; omega
      rw [hy, hR]
      rw [hR] at hcell hc1 hrd
      have hR0 : 0 < R ∧ R ≤ 33554432 := by omega
      have hm1 : m ≤ R ∧ 0 < m ∧ m ≤ 512 := by omega
      have hnx := partK_next K x j L m f (by omega) (by rw [hR]; exact hm)
      have X : Hid (DiskAt wr db bm (partK K x (512 * j) L f) ∧ Two db bm w wr ∧ ReadsF (fun k => k = db ∨ k = bm) wr (.slice (some ⟨bd, od, none⟩) R cd) R (fun i => f (512 * j + i)) ∧ (∀ i, i < R → wr.cell? ⟨bd, od + i, none⟩ = some (.int .u8 (f (512 * j + i) : Nat))) ∧ keepK (partK K x (512 * j) L f) (x + j) (fun i => if i < m then f (512 * j + i) else 0) = partK K x (512 * (j + 1)) L f ∧ m = min R 512 ∧ L - 512 * j = R ∧ x + j = y) := ⟨hd, ht, hrd, hcell, hnx, hm, hR, hy⟩
      clear hd ht hrd hcell hnx hm hR hy
      go_upto_region 2 with fail
      refine wp_region_list ?_
      refine wpList_alloc63 rfl rfl ?_
      have b1 : Below wr.heap.size wr (wr.alloc (.cells (secRow fun _ => 0) 136)) := (Below.refl _ _).alloc (Nat.le_refl _) _
      have T1 : Hid ((wr.alloc (.cells (secRow fun _ => 0) 136)).heap[wr.heap.size]? = some (.cells (secRow fun _ => 0) 136 (0, 0))) := heap_alloc_new wr _
      have T2 : Hid (m = Nat.min R 512) := X.out.2.2.2.2.2.1
      have T3 : Hid (∀ i v, (rowK .u8 (fun i => f (512 * j + i)) m)[i]? = some v → (wr.alloc (.cells (secRow fun _ => 0) 136)).cell? ((⟨bd, od, none⟩ : Addr).add i) = some v) := by
        intro i v hv
        obtain ⟨hi, rfl⟩ := rowK_at _ _ _ _ _ hv
        rw [addr_add]
        have hb := X.out.2.2.2.1 i (by omega)
        rw [World.cell?_of_block (a := ⟨bd, od + i, none⟩) (b1.block bd (block_lt_of_cell hb))]
        exact hb
      have T4 : Hid (0 + m ≤ (secRow fun _ => 0).size) := by show _ ≤ _; rw [secRow_size]; omega
      have Y : Hid (DiskAt (wr.alloc (.cells (secRow fun _ => 0) 136)) db bm (partK K x (512 * j) L f) ∧ Two db bm w (wr.alloc (.cells (secRow fun _ => 0) 136))) := ⟨X.out.1.step b1, X.out.2.1.trans (Two.of_below b1)⟩
      have hsz : wr.heap.size < (wr.alloc (.cells (secRow fun _ => 0) 136)).heap.size := by simp
      have hdb := X.out.1.lt
      have B1 : Hid (Below wr.heap.size wr (wr.alloc (.cells (secRow fun _ => 0) 136))) := b1
      clear b1
      generalize wr.alloc (.cells (secRow fun _ => 0) 136) = w1 at *
      go_upto_region 3 with fail
      refine wp_region_list ?_
      (refine wpList_step (fun KK hKK => ?_); go_simp; refine hKK _ _ ?_; clear hKK KK)
      refine wpList_slice63 rfl _ rfl wr.heap.size rfl ?_
      (refine wpList_step (fun KK hKK => ?_); go_simp; refine hKK _ _ ?_; clear hKK KK)
      refine wpList_copy_at rfl _ _ 22 22 rfl 5 Try.underlying22 size5 wr.heap.size 0 512 512 ⟨bd, od, none⟩ R cd rfl rfl (secRow fun _ => 0) 136 T1.out (rowK .u8 (fun i => f (512 * j + i)) m) m (rowK_length _ _ _) T2.out T3.out T4.out (rowK_one _ _ _) ?_
      intro w2 hw2
      have hB2 : Box 136 w2 wr.heap.size (secRow (fun i => if i < m then f (512 * j + i) else 0)) := by
        have hh := setRow_heap w1 wr.heap.size _ (List.take 0 (secRow fun _ => 0).toList ++ (rowK .u8 (fun i => f (512 * j + i)) m ++ List.drop (0 + (rowK .u8 (fun i => f (512 * j + i)) m).length) (secRow fun _ => 0).toList)).toArray 136 _ T1.out
        rw [← hw2.out] at hh
        unfold Box
        rw [hh, rowK_length]
        show some (Obj.cells (List.take 0 (rowK .u8 (fun _ => 0) 512) ++ (rowK .u8 (fun i => f (512 * j + i)) m ++ List.drop (0 + m) (rowK .u8 (fun _ => 0) 512))).toArray 136 (0, 0)) = _
        rw [row_copyN 512 _ _ 0 m (by omega)]
        unfold secRow
        rw [rowK_congr .u8 _ (fun i => if i < m then f (512 * j + i) else 0) 512]
        intro i hi
        by_cases hi2 : i < m
        · rw [if_pos (by omega), if_pos hi2, Nat.sub_zero]
        · rw [if_neg (by omega), if_neg hi2]
      have hU2 : Upon wr.heap.size w1 w2 := by rw [hw2.out]; exact upon_row (Upon.refl _ _) _
      have Z : Hid (DiskAt w2 db bm (partK K x (512 * j) L f) ∧ Two db bm w w2 ∧ Box 136 w2 wr.heap.size (secRow (fun i => if i < m then f (512 * j + i) else 0)) ∧ Two db bm wr w2) := by
        have g2 : Below wr.heap.size wr w2 := B1.out.trans (hU2.below (Nat.le_refl _) (by omega))
        exact ⟨X.out.1.step g2, X.out.2.1.trans (Two.of_below g2), hB2, Two.of_below g2⟩
      clear hw2 hB2 hU2 T1 T2 T3 T4 Y
      go_upto_region 4 with fail
      refine wp_region_list ?_
      (refine wpList_step (fun KK hKK => ?_); go_simp; refine hKK _ _ ?_; clear hKK KK)
      (refine wpList_step (fun KK hKK => ?_); go_simp; refine hKK _ _ ?_; clear hKK KK)
      refine wpList_load63 rfl _ rfl wr.heap.size _ rfl Z.out.2.2.1 ?_
      refine wpList_step (fun KK hKK => ?_)
      go_simp
      refine (keep_any Z.out.1 y (fun i => if i < m then f (512 * j + i) else 0) (by show y < K.count; have := X.out.2.2.2.2.2.2.1; have := X.out.2.2.2.2.2.2.2; omega) (fun i => by show (if i < m then f (512 * j + i) else 0) ≤ 255; split; exact hf _; omega)).mono ?_
      rintro e w3 ⟨rfl, hd3, ht3⟩
      have V : Hid (DiskAt w3 db bm (partK K x (512 * (j + 1)) L f) ∧ Two db bm w w3 ∧ Two db bm wr w3) := by
        have e := X.out.2.2.2.2.1
        rw [X.out.2.2.2.2.2.2.2] at e
        rw [e] at hd3
        exact ⟨hd3, Z.out.2.1.trans ht3, Z.out.2.2.2.trans ht3⟩
      clear hd3 ht3
      refine hKK _ _ ?_
      clear hKK KK Z
      go_wp2
      obtain ⟨_, _, hrd, hcell, _, hm, hR, hy⟩ := X.out
      refine ⟨⟨j + 1, by unfold up at *; omega, by rw [← hy]; go_num, ?_, V.out.1, V.out.2.1⟩, by simp [intOf]; omega⟩
      have hc3 : ReadsF (fun k => k = db ∨ k = bm) wr (.slice (if cd = m then some ⟨bd, od, none⟩ else some ⟨bd, od + m, none⟩) (R - m) (cd - m)) (R - m) (fun i => f (512 * j + (m + i))) := ReadsF.cut (f := fun i => f (512 * j + i)) hG hc1 hc2 hm1.1 hcell
      have hc4 := hc3.two V.out.2.2
      rw [show L - 512 * (j + 1) = R - m from by omega]
      by_cases hq : R ≤ 512
      · have hz : R - m = 0 := by omega
        rw [hz] at hc4 ⊢
        rcases hc4 with ⟨_, a, cap, e1, e2⟩ | ⟨_, _, cap, e2, _, _, e3, _⟩
        · exact .inl ⟨rfl, a, cap, e1, e2⟩
        · exact .inl ⟨rfl, _, cap, e3, e2⟩
      · have hm5 : m = 512 := by omega
        have : (fun i => f (512 * j + (m + i))) = (fun i => f (512 * (j + 1) + i)) := by funext i; congr 1; omega
        rw [← this]
        exact hc4
    · have e : L - 512 * j = 0 := by omega
      rw [e] at hrd
      have E := H.out.2.2 j (by omega) hj
      rw [E] at hd
      rcases hrd with ⟨_, a0, c0, _, rfl⟩ | ⟨b0, o0, c0, rfl, _⟩
      all_goals
        go_wp2
        go_end0
        exact ⟨rfl, hd, ht⟩
end Go.Proofs.Ytlkhjekakbckmaa.D

/- Package disk: get: a copy of bytes from a sector on. -/
namespace Go.Proofs.Ytlkhjekakbckmaa.D
open Go.RowKit Go.Maps
set_option linter.unusedVariables false
set_option linter.unusedSimpArgs false
set_option maxRecDepth 100000
theorem piece_cut {g j L cap R C m : Nat} (hR : L - j = R) (hC : cap - j = C) (hm : m ≤ R) (hRC : R ≤ C) :
    (L - (j + m) = 0 ∧ ∃ a c, Value.slice (if C = m then some ⟨g, j, none⟩ else some ⟨g, j + m, none⟩) (R - m) (C - m) = .slice a 0 c) ∨ Value.slice (if C = m then some ⟨g, j, none⟩ else some ⟨g, j + m, none⟩) (R - m) (C - m) = .slice (some ⟨g, j + m, none⟩) (L - (j + m)) (cap - (j + m)) := by
  by_cases h : R = m
  · left
    refine ⟨by omega, _, C - m, by rw [show R - m = 0 from by omega]⟩
  · right
    rw [if_neg (by omega), show R - m = L - (j + m) from by omega, show C - m = cap - (j + m) from by omega]
/-- a row of bytes of its own -/
def RowAt (w : World) (g L : Nat) (f : Nat → Nat) : Prop := w.heap[g]? = some (.cells (rowK .u8 f L).toArray 5 (0, 0))
theorem RowAt.step {w w' : World} {g L : Nat} {f : Nat → Nat} (h : RowAt w g L f) (hb : Below w.heap.size w w') : RowAt w' g L f := below_box h hb
theorem RowAt.lt {w : World} {g L : Nat} {f : Nat → Nat} (h : RowAt w g L f) : g < w.heap.size := (Array.getElem?_eq_some_iff.1 h).1
theorem RowAt.reads {w : World} {g L : Nat} {f : Nat → Nat} (h : RowAt w g L f) : Reads .u8 w (.slice (some ⟨g, 0, none⟩) L L) L f := reads_row h (Nat.le_refl _)
theorem RowAt.readsF {F : Nat → Prop} {w : World} {g L : Nat} {f : Nat → Nat} (h : RowAt w g L f) (hF : ¬ F g) (hL : L ≤ 9223372036854775807) : ReadsF F w (.slice (some ⟨g, 0, none⟩) L L) L f :=
  .inr ⟨g, 0, L, rfl, hF, Nat.le_refl _, hL, fun i hi => by rw [Nat.zero_add]; exact cellOf h i _ (by rw [List.getElem?_toArray]; exact rowK_get _ _ _ _ hi)⟩
theorem RowAt.congr {w : World} {g L : Nat} {f f' : Nat → Nat} (h : RowAt w g L f) (e : ∀ i, i < L → f i = f' i) : RowAt w g L f' := by unfold RowAt at *; rw [h, rowK_congr .u8 f f' L e]
set_option maxHeartbeats 4000000 in
theorem get_any {w : World} {db bm : Nat} {K : Dk} (h : DiskAt w db bm K) (x L : Nat) (h512 : L % 512 = 0) (hL : x * 512 + L ≤ K.count * 512) :
    Calls Try.prog 139 #[.pointer (some ⟨db, 0, none⟩), .int .u64 (x : Nat), .int .u64 (L : Nat)] w fun e w' => e = .returned (.slice (some ⟨w.heap.size, 0, none⟩) L L) ∧ RowAt w' w.heap.size L (fun i => K.M (x * 512 + i)) ∧ Below w.heap.size w w' := by
  obtain ⟨i0, hi, hz0, hz1, hz2⟩ := info_parts Try.info5
  have hc := h.2.2.cnt
  have H : Hid (DiskAt w db bm K) := h
  have hlt := h.lt
  clear h
  go_enter Try.func139, Try.ntmps139
  go_wp2_with (first | (at_make; refine wpList_make_full _ rfl _ _ 22 rfl w.heap.size 5 i0 (.int .u8 0) 1 Try.underlying22 hi hz0 hz1 _ _ _ _ L rfl rfl ?m1 ?m2 ?m3 ?m4 ?m5 ?_))
  case m1 => rfl
  case m2 => rfl
  case m3 => rw [hz2]; omega
  case m4 => unfold maxLen; omega
  case m5 => omega
  intro w1 hown0 hgrow0
  have hb0 : Below w.heap.size w w1 := Below.grown (Below.refl _ _) hgrow0 (Nat.le_refl _) (by simp)
  rw [toList_madeCells_one, rowK_zero] at hown0
  have hrow := whole_row hown0
  have hnew := hown0.lt w.heap.size rfl
  have X : Hid (RowAt w1 w.heap.size L (fun _ => 0) ∧ Below w.heap.size w w1) := ⟨hrow, hb0⟩
  clear hown0 hgrow0 hb0 hrow hnew
  go_wp2
  go_loopw [1, 8] (fun a d wr => ∃ j, 512 * j ≤ L ∧ a = .int .u64 ((x + j : Nat) : Int) ∧ ((L - 512 * j = 0 ∧ ∃ a c, d = .slice a 0 c) ∨ d = .slice (some ⟨w.heap.size, 512 * j, none⟩) (L - 512 * j) (L - 512 * j)) ∧ RowAt wr w.heap.size L (fun i => if i < 512 * j then K.M (x * 512 + i) else 0) ∧ Below w.heap.size w wr) (fun a _ _ => (x + 65537) - (intOf a).toNat)
  case atStart => exact ⟨0, Nat.zero_le _, rfl, .inr (by simp), by simpa using X.out.1, X.out.2⟩
  case round =>
    obtain ⟨j, hj, rfl, hd, hrw, hb⟩ := hrel
    clear X
    by_cases hlt2 : 512 * j < L
    · rcases hd with ⟨h0, _⟩ | rfl
      · omega
      obtain ⟨y, hy⟩ : ∃ y, x + j = y := ⟨_, rfl⟩
      obtain ⟨R, hR⟩ : ∃ R, L - 512 * j = R := ⟨_, rfl⟩
      obtain ⟨J, hJ⟩ : ∃ J, 512 * j = J := ⟨_, rfl⟩
      have hD := H.out.step hb
      have c2 := hD.c2
      have hlk : (Instr.lookup 131 (.map (some bm)) (.int .u64 (y : Nat)) false).run Try.prog wr = .ok (.agg (secRow (secF K.M y))) wr := by
        obtain ⟨D, ho, hp⟩ := hD.2.1
        exact sect_look ho hp y (by omega)
      have hy2 : y < 65536 := by omega
      have hR0 : 512 ≤ R ∧ R ≤ 33554432 ∧ J + 512 ≤ L ∧ J ≤ 33554432 := by omega
      rw [hy, hR, hJ]
      have hrw2 : RowAt wr w.heap.size L (fun i => if i < J then K.M (x * 512 + i) else 0) := by rw [← hJ]; exact hrw
      have X : Hid (RowAt wr w.heap.size L (fun i => if i < J then K.M (x * 512 + i) else 0) ∧ Below w.heap.size w wr ∧ x + j = y ∧ L - 512 * j = R ∧ 512 * j = J) := ⟨hrw2, hb, hy, hR, hJ⟩
      clear hrw hrw2 hb hy hR hJ hD
      go_upto_region 5 with fail
      refine wp_region_list ?_
      (refine wpList_step (fun KK hKK => ?_); go_simp; refine hKK _ _ ?_; clear hKK KK)
      (refine wpList_step (fun KK hKK => ?_); go_simp; refine hKK _ _ ?_; clear hKK KK)
      (refine wpList_step (fun KK hKK => ?_); go_simp; refine hKK _ _ ?_; clear hKK KK)
      (refine wpList_step (fun KK hKK => ?_); go_simp; refine hKK _ _ ?_; clear hKK KK)
      (refine wpList_step (fun KK hKK => ?_); go_simp; refine hKK _ _ ?_; clear hKK KK)
      refine wpList_look_run rfl _ _ 131 false rfl rfl rfl hlk ?_
      refine wpList_alloc63 rfl rfl ?_
      refine wpList_store63 rfl _ _ rfl wr.heap.size (secF K.M y) (secRow fun _ => 0) rfl rfl (Box.new 136 wr _) (by rw [secRow_size, secRow_size]) ?_
      intro w2 B2 U2
      have g2 : Below wr.heap.size wr w2 := (((Below.refl _ _).alloc (Nat.le_refl _) _ : Below wr.heap.size wr (wr.alloc (.cells (secRow fun _ => 0) 136)))).trans (U2.below (Nat.le_refl _) (by simp))
      have T1 : Hid (w2.heap[w.heap.size]? = some (.cells (rowK .u8 (fun i => if i < J then K.M (x * 512 + i) else 0) L).toArray 5 (0, 0))) := X.out.1.step g2
      have T2 : Hid (512 = Nat.min 512 R) := by show 512 = min 512 R; omega
      have T3 : Hid (∀ i v, (rowK .u8 (secF K.M y) 512)[i]? = some v → w2.cell? ((⟨wr.heap.size, 0, none⟩ : Addr).add i) = some v) := by
        intro i v hv
        obtain ⟨hi, rfl⟩ := rowK_at _ _ _ _ _ hv
        rw [addr_add, Nat.zero_add]
        exact B2.cell i _ (secRow_get _ _ hi)
      have T4 : Hid (J + 512 ≤ ((rowK .u8 (fun i => if i < J then K.M (x * 512 + i) else 0) L).toArray).size) := by show _ ≤ _; rw [List.size_toArray, rowK_length]; omega
      have Y : Hid (Below w.heap.size w w2) := X.out.2.1.trans (g2.mono X.out.2.1.size)
      clear g2 U2 B2
      go_upto_region 6 with fail
      refine wp_region_list ?_
      (refine wpList_step (fun KK hKK => ?_); go_simp; refine hKK _ _ ?_; clear hKK KK)
      (refine wpList_step (fun KK hKK => ?_); go_simp; refine hKK _ _ ?_; clear hKK KK)
      refine wpList_slice63 rfl _ rfl wr.heap.size rfl ?_
      refine wpList_copy_at rfl _ _ 22 22 rfl 5 Try.underlying22 size5 w.heap.size J R R ⟨wr.heap.size, 0, none⟩ 512 512 rfl rfl (rowK .u8 (fun i => if i < J then K.M (x * 512 + i) else 0) L).toArray 5 T1.out (rowK .u8 (secF K.M y) 512) 512 (rowK_length _ _ _) T2.out T3.out T4.out (rowK_one _ _ _) ?_
      intro w3 hw3
      have Z : Hid (RowAt w3 w.heap.size L (fun i => if i < J + 512 then K.M (x * 512 + i) else 0) ∧ Below w.heap.size w w3) := by
        have hU : Upon w.heap.size w2 w3 := by rw [hw3.out]; exact upon_row (Upon.refl _ _) _
        refine ⟨?_, Y.out.trans (hU.below (Nat.le_refl _) Y.out.size)⟩
        have hh := setRow_heap w2 w.heap.size _ (List.take J (rowK .u8 (fun i => if i < J then K.M (x * 512 + i) else 0) L).toArray.toList ++ (rowK .u8 (secF K.M y) 512 ++ List.drop (J + (rowK .u8 (secF K.M y) 512).length) (rowK .u8 (fun i => if i < J then K.M (x * 512 + i) else 0) L).toArray.toList)).toArray 5 _ T1.out
        rw [← hw3.out] at hh
        unfold RowAt
        rw [hh, rowK_length]
        show some (Obj.cells (List.take J (rowK .u8 (fun i => if i < J then K.M (x * 512 + i) else 0) L) ++ (rowK .u8 (secF K.M y) 512 ++ List.drop (J + 512) (rowK .u8 (fun i => if i < J then K.M (x * 512 + i) else 0) L))).toArray 5 (0, 0)) = _
        rw [row_copyN L _ _ J 512 (by omega), rowK_congr .u8 _ (fun i => if i < J + 512 then K.M (x * 512 + i) else 0) L]
        intro i hi
        have e1 := X.out.2.2.1
        have e2 := X.out.2.2.2.2
        by_cases h1 : i < J
        · rw [if_neg (by omega), if_pos h1, if_pos (by omega)]
        · by_cases h2 : i < J + 512
          · rw [if_pos (by omega), if_pos h2]; show K.M _ = K.M _; congr 1; omega
          · rw [if_neg (by omega), if_neg h1, if_neg h2]
      clear hw3 T1 T2 T3 T4 Y
      go_wp2
      obtain ⟨_, _, hy, hR, hJ⟩ := X.out
      have hcut := piece_cut (g := w.heap.size) (j := J) (L := L) (cap := L) (R := R) (C := R) (m := 512) (by omega) (by omega) hR0.1 (Nat.le_refl _)
      refine ⟨⟨j + 1, by omega, by rw [← hy]; go_num, ?_, ?_, Z.out.2⟩, by simp [intOf]; omega⟩
      · rw [show 512 * (j + 1) = J + 512 from by omega]
        exact hcut
      · rw [show 512 * (j + 1) = J + 512 from by omega]
        exact Z.out.1
    · have e : L - 512 * j = 0 := by omega
      have hfin : RowAt wr w.heap.size L (fun i => K.M (x * 512 + i)) := hrw.congr (fun i hi => by rw [if_pos (by omega)])
      rw [e] at hd
      rcases hd with ⟨_, a0, c0, rfl⟩ | rfl
      all_goals
        go_wp2
        go_ret
        exact ⟨rfl, hfin, hb⟩
end Go.Proofs.Ytlkhjekakbckmaa.D

/- Package disk: Read, Write, Flush, Fill, Sector. -/
namespace Go.Proofs.Ytlkhjekakbckmaa.D
open Go.RowKit Go.Maps
set_option linter.unusedVariables false
set_option linter.unusedSimpArgs false
set_option maxRecDepth 100000
theorem askE_pos {K : Dk} (h : K.fail = 1) : askE K = 133 := by unfold askE; rw [if_pos h]
theorem askE_neg {K : Dk} (h : K.fail ≠ 1) : askE K = 0 := by unfold askE; rw [if_neg h]
/-- 'if e := d.request(); e != api.OK' -/
theorem request_bad {w : World} {db bm : Nat} {K : Dk} (h : DiskAt w db bm K) (hf : K.fail = 1) : Calls Try.prog 137 #[.pointer (some ⟨db, 0, none⟩)] w fun e w' => e = .returned (.int .i64 133) ∧ DiskAt w' db bm (askK K) ∧ Two db bm w w' := by
  have := request_any h
  rw [askE_pos hf] at this
  exact this
theorem request_good {w : World} {db bm : Nat} {K : Dk} (h : DiskAt w db bm K) (hf : K.fail ≠ 1) : Calls Try.prog 137 #[.pointer (some ⟨db, 0, none⟩)] w fun e w' => e = .returned (.int .i64 0) ∧ DiskAt w' db bm (askK K) ∧ Two db bm w w' := by
  have := request_any h
  rw [askE_neg hf] at this
  exact this
theorem read_bad {w : World} {db bm : Nat} {K : Dk} (h : DiskAt w db bm K) (x n : Nat) (hx : x < 18446744073709551616) (hn : n < 18446744073709551616) (hE : readE K x n ≠ 0) :
    Calls Try.prog 121 #[.pointer (some ⟨db, 0, none⟩), .int .u64 (x : Nat), .int .u64 (n : Nat)] w fun e w' => e = .returned (.tuple #[.slice none 0 0, .int .i64 (readE K x n : Nat)]) ∧ DiskAt w' db bm (askK K) ∧ Two db bm w w' := by
  by_cases hf : K.fail = 1
  · have e : readE K x n = 133 := by unfold readE; rw [if_pos hf]
    rw [e]
    have C := request_bad h hf
    clear hE e hf h
    go_enter Try.func121, Try.ntmps121
    go_wp2_with fail
    first | refine C.mono ?_ | refine C.out.mono ?_
    rintro e w1 ⟨rfl, h1, t1⟩
    have X : Hid (_ ∧ _) := ⟨h1, t1⟩
    clear h1 t1
    go_wp2
    go_ret2
    exact ⟨rfl, X.out.1, X.out.2⟩
  · have e : readE K x n = pieceE K.count x n := by unfold readE; rw [if_neg hf]
    rw [e] at hE ⊢
    have C : Hid (Calls Try.prog 137 #[.pointer (some ⟨db, 0, none⟩)] w fun e w' => e = .returned (.int .i64 0) ∧ DiskAt w' db bm (askK K) ∧ Two db bm w w') := request_good h hf
    have n1 : (((pieceE K.count x n : Nat) : Int) == 0) = false := by simp; omega
    obtain ⟨q, hq⟩ : ∃ q, pieceE K.count x n = q := ⟨_, rfl⟩
    rw [hq] at n1 ⊢
    have HQ : Hid (pieceE K.count x n = q) := hq
    clear e hf h hE hq
    go_enter Try.func121, Try.ntmps121
    go_wp2_with fail
    first | refine C.mono ?_ | refine C.out.mono ?_
    rintro e w1 ⟨rfl, h1, t1⟩
    have X : Hid (DiskAt w1 db bm (askK K) ∧ Two db bm w w1) := ⟨h1, t1⟩
    clear h1 t1
    go_wp2_with fail
    refine (there_any X.out.1 x n hx hn).mono ?_
    rintro e w2 ⟨rfl, hw⟩
    rw [hw]
    clear hw w2
    rw [show (askK K).count = K.count from rfl, HQ.out]
    go_wp2
    go_ret2
    exact ⟨rfl, X.out.1, X.out.2⟩
theorem piece_zero {c x n : Nat} (h : pieceE c x n = 0) : n % 512 = 0 ∧ x * 512 + n ≤ c * 512 := by
  unfold pieceE at h
  split at h
  · omega
  · split at h
    · omega
    · omega
theorem read_good {w : World} {db bm : Nat} {K : Dk} (h : DiskAt w db bm K) (x n : Nat) (hx : x < 18446744073709551616) (hn : n < 18446744073709551616) (hE : readE K x n = 0) :
    Calls Try.prog 121 #[.pointer (some ⟨db, 0, none⟩), .int .u64 (x : Nat), .int .u64 (n : Nat)] w fun e w' => ∃ g, e = .returned (.tuple #[.slice (some ⟨g, 0, none⟩) n n, .int .i64 0]) ∧ RowAt w' g n (fun i => K.M (x * 512 + i)) ∧ w.heap.size ≤ g ∧ DiskAt w' db bm (askK K) ∧ Two db bm w w' := by
  have hf : K.fail ≠ 1 := fun hf => by unfold readE at hE; rw [if_pos hf] at hE; cases hE
  have e : readE K x n = pieceE K.count x n := by unfold readE; rw [if_neg hf]
  rw [e] at hE
  have HP : Hid (pieceE K.count x n = 0) := hE
  have C : Hid (Calls Try.prog 137 #[.pointer (some ⟨db, 0, none⟩)] w fun e w' => e = .returned (.int .i64 0) ∧ DiskAt w' db bm (askK K) ∧ Two db bm w w') := request_good h hf
  clear e hf h hE
  go_enter Try.func121, Try.ntmps121
  go_wp2_with fail
  first | refine C.mono ?_ | refine C.out.mono ?_
  rintro e w1 ⟨rfl, h1, t1⟩
  have X : Hid (DiskAt w1 db bm (askK K) ∧ Two db bm w w1) := ⟨h1, t1⟩
  clear h1 t1
  go_wp2_with fail
  refine (there_any X.out.1 x n hx hn).mono ?_
  rintro e w2 ⟨rfl, hw⟩
  rw [hw]
  clear hw w2
  rw [show (askK K).count = K.count from rfl, HP.out]
  go_wp2_with fail
  refine (get_any X.out.1 x n (piece_zero HP.out).1 (piece_zero HP.out).2).mono ?_
  rintro e w2 ⟨rfl, hr, hb⟩
  have Y : Hid (RowAt w2 w1.heap.size n (fun i => K.M (x * 512 + i)) ∧ Below w1.heap.size w1 w2) := ⟨hr, hb⟩
  clear hr hb
  go_wp2
  go_ret2
  exact ⟨w1.heap.size, rfl, Y.out.1, X.out.2.size, X.out.1.step Y.out.2, X.out.2.trans (Two.of_below Y.out.2)⟩
theorem write_any {w : World} {db bm : Nat} {K : Dk} (h : DiskAt w db bm K) (x L : Nat) (f : Nat → Nat) (v : Value) (hx : x < 18446744073709551616) (hr : ReadsF (fun k => k = db ∨ k = bm) w v L f) (hf : ∀ i, f i ≤ 255) :
    Calls Try.prog 123 #[.pointer (some ⟨db, 0, none⟩), .int .u64 (x : Nat), v] w fun e w' => e = .returned (.int .i64 (writeE K x L : Nat)) ∧ DiskAt w' db bm (writeK K x L f) ∧ Two db bm w w' := by
  obtain ⟨av, cv, rfl, hL⟩ := hr.form
  have HR : Hid (ReadsF (fun k => k = db ∨ k = bm) w (.slice av L cv) L f) := hr
  clear hr
  by_cases h1 : K.fail = 1
  · have e : writeE K x L = 133 := by unfold writeE; rw [if_pos h1]
    have e2 : writeK K x L f = askK K := by unfold writeK; rw [e]; rfl
    rw [e, e2]
    have C := request_bad h h1
    clear e e2 h1 h
    go_enter Try.func123, Try.ntmps123
    go_wp2_with fail
    first | refine C.mono ?_ | refine C.out.mono ?_
    rintro e w1 ⟨rfl, h1, t1⟩
    have X : Hid (_ ∧ _) := ⟨h1, t1⟩
    clear h1 t1
    go_wp2
    go_ret
    exact ⟨rfl, X.out.1, X.out.2⟩
  have C : Hid (Calls Try.prog 137 #[.pointer (some ⟨db, 0, none⟩)] w fun e w' => e = .returned (.int .i64 0) ∧ DiskAt w' db bm (askK K) ∧ Two db bm w w') := request_good h h1
  cases hl : K.locked with
  | true =>
    have e : writeE K x L = 132 := by unfold writeE; rw [if_neg h1, if_pos hl]
    have e2 : writeK K x L f = askK K := by unfold writeK; rw [e]; rfl
    rw [e, e2]
    clear e e2 h1 h
    go_enter Try.func123, Try.ntmps123
    go_wp2_with fail
    first | refine C.mono ?_ | refine C.out.mono ?_
    rintro e w1 ⟨rfl, h1, t1⟩
    have c1 := h1.c1
    rw [show (askK K).locked = true from hl] at c1
    have X : Hid (_ ∧ _) := ⟨h1, t1⟩
    clear h1 t1 hl
    go_wp2
    go_ret
    exact ⟨rfl, X.out.1, X.out.2⟩
  | false =>
    have e : writeE K x L = pieceE K.count x L := by unfold writeE; rw [if_neg h1, if_neg (by rw [hl]; simp)]
    by_cases hp : pieceE K.count x L = 0
    · have e2 : writeK K x L f = putK (askK K) x L f := by unfold writeK; rw [e, if_pos hp]
      rw [e, e2, hp]
      have HP : Hid (pieceE K.count x L = 0) := hp
      clear e e2 h1 h hp
      go_enter Try.func123, Try.ntmps123
      go_wp2_with fail
      first | refine C.mono ?_ | refine C.out.mono ?_
      rintro e w1 ⟨rfl, h1, t1⟩
      have c1 := h1.c1
      rw [show (askK K).locked = false from hl] at c1
      have X : Hid (DiskAt w1 db bm (askK K) ∧ Two db bm w w1) := ⟨h1, t1⟩
      clear h1 t1 hl
      go_wp2_with fail
      refine (there_any X.out.1 x L hx (by omega)).mono ?_
      rintro e w2 ⟨rfl, hw⟩
      rw [hw]
      clear hw w2
      rw [show (askK K).count = K.count from rfl, HP.out]
      go_wp2_with fail
      refine (put_any X.out.1 x L f _ (HR.out.two X.out.2) hf (piece_zero HP.out).2).mono ?_
      rintro e w2 ⟨rfl, h2, t2⟩
      have Y : Hid (_ ∧ _) := ⟨h2, t2⟩
      clear h2 t2
      go_wp2
      go_ret
      exact ⟨rfl, Y.out.1, X.out.2.trans Y.out.2⟩
    · have e2 : writeK K x L f = askK K := by unfold writeK; rw [e, if_neg hp]
      rw [e, e2]
      have n1 : (((pieceE K.count x L : Nat) : Int) == 0) = false := by simp; omega
      obtain ⟨q, hq⟩ : ∃ q, pieceE K.count x L = q := ⟨_, rfl⟩
      rw [hq] at n1 ⊢
      have HQ : Hid (pieceE K.count x L = q) := hq
      clear e e2 h1 h hp hq
      go_enter Try.func123, Try.ntmps123
      go_wp2_with fail
      first | refine C.mono ?_ | refine C.out.mono ?_
      rintro e w1 ⟨rfl, h1, t1⟩
      have c1 := h1.c1
      rw [show (askK K).locked = false from hl] at c1
      have X : Hid (DiskAt w1 db bm (askK K) ∧ Two db bm w w1) := ⟨h1, t1⟩
      clear h1 t1 hl
      go_wp2_with fail
      refine (there_any X.out.1 x L hx (by omega)).mono ?_
      rintro e w2 ⟨rfl, hw⟩
      rw [hw]
      clear hw w2
      rw [show (askK K).count = K.count from rfl, HQ.out]
      go_wp2
      go_ret
      exact ⟨rfl, X.out.1, X.out.2⟩
theorem flush_any {w : World} {db bm : Nat} {K : Dk} (h : DiskAt w db bm K) : Calls Try.prog 124 #[.pointer (some ⟨db, 0, none⟩)] w fun e w' => e = .returned (.int .i64 (askE K : Nat)) ∧ DiskAt w' db bm (flushK K) ∧ Two db bm w w' := by
  by_cases h1 : K.fail = 1
  · have e : flushK K = askK K := by unfold flushK; rw [if_pos h1]
    rw [e, askE_pos h1]
    have C := request_bad h h1
    clear e h1 h
    go_enter Try.func124, Try.ntmps124
    go_wp2_with fail
    first | refine C.mono ?_ | refine C.out.mono ?_
    rintro e w1 ⟨rfl, h1, t1⟩
    have X : Hid (_ ∧ _) := ⟨h1, t1⟩
    clear h1 t1
    go_wp2
    go_ret
    exact ⟨rfl, X.out.1, X.out.2⟩
  · have HE : Hid (flushK K = { askK K with fl := inc K.fl }) := by show _ = _; unfold flushK; rw [if_neg h1]
    rw [askE_neg h1]
    have HO : Hid (flushK K).Ok := flushK_ok h.2.2
    have C : Hid (Calls Try.prog 137 #[.pointer (some ⟨db, 0, none⟩)] w fun e w' => e = .returned (.int .i64 0) ∧ DiskAt w' db bm (askK K) ∧ Two db bm w w') := request_good h h1
    have hi := inc_num K.fl
    clear h1 h
    go_enter Try.func124, Try.ntmps124
    go_wp2_with fail
    first | refine C.mono ?_ | refine C.out.mono ?_
    rintro e w1 ⟨rfl, h1, t1⟩
    have c4 := h1.c4
    rw [show (askK K).fl = K.fl from rfl] at c4
    have f4 := h1.1.frozen 4
    have X : Hid (DiskAt w1 db bm (askK K) ∧ Two db bm w w1) := ⟨h1, t1⟩
    clear h1 t1
    go_wp2
    go_ret
    have hu : Upon db w1 (w1.setCell ⟨db, 4, none⟩ (.int .u64 (inc K.fl : Nat))) := (Upon.refl _ _).set 4 _
    have hk := HO.out
    rw [HE.out] at hk ⊢
    exact ⟨rfl, X.out.1.cells rfl rfl hk (X.out.1.1.set 4 _) hu, X.out.2.trans (Two.of_upon hu)⟩
theorem fill_eq {K : Dk} (h : K.Ok) (L : Nat) (f : Nat → Nat) : putK K 0 (min L (K.count * 512)) f = fillK K L f := by
  have e : layN K.M (K.count * 512) (0 * 512) (up (min L (K.count * 512))) (min L (K.count * 512)) f = layN K.M (K.count * 512) (0 * 512) (up L) L f := by
    funext a
    unfold layN up
    by_cases h1 : a < K.count * 512
    · rw [if_pos h1, if_pos h1]
      by_cases h2 : 0 * 512 ≤ a ∧ a < 0 * 512 + (L + 511) / 512 * 512
      · have g2 : 0 * 512 ≤ a ∧ a < 0 * 512 + (min L (K.count * 512) + 511) / 512 * 512 := by omega
        rw [if_pos g2, if_pos h2]
        by_cases h3 : a - 0 * 512 < L
        · have g3 : a - 0 * 512 < min L (K.count * 512) := by omega
          rw [if_pos g3, if_pos h3]
        · have g3 : ¬ a - 0 * 512 < min L (K.count * 512) := by omega
          rw [if_neg g3, if_neg h3]
      · have g2 : ¬ (0 * 512 ≤ a ∧ a < 0 * 512 + (min L (K.count * 512) + 511) / 512 * 512) := by omega
        rw [if_neg g2, if_neg h2]
    · rw [if_neg h1, if_neg h1]
  unfold fillK putK
  rw [e]
theorem readsF_take {F : Nat → Prop} {w : World} {a : Option Addr} {n cap m : Nat} {f : Nat → Nat} (h : ReadsF F w (.slice a n cap) n f) (hm : m ≤ n) : ReadsF F w (.slice a m cap) m f ∧ n ≤ cap ∧ cap ≤ 9223372036854775807 := by
  rcases h with ⟨rfl, a', cap', h1, h2⟩ | ⟨b, off, cap', h2, h3, h4, h5, h6⟩
  · simp only [Value.slice.injEq] at h2
    obtain ⟨rfl, -, rfl⟩ := h2
    obtain rfl : m = 0 := by omega
    exact ⟨.inl ⟨rfl, _, _, h1, rfl⟩, Nat.zero_le _, h1⟩
  · simp only [Value.slice.injEq] at h2
    obtain ⟨rfl, -, rfl⟩ := h2
    exact ⟨.inr ⟨b, off, _, rfl, h3, by omega, h5, fun i hi => h6 i (by omega)⟩, h4, h5⟩
set_option maxHeartbeats 1000000 in
theorem fill_any {w : World} {db bm : Nat} {K : Dk} (h : DiskAt w db bm K) (L : Nat) (f : Nat → Nat) (v : Value) (hr : ReadsF (fun k => k = db ∨ k = bm) w v L f) (hf : ∀ i, f i ≤ 255) :
    Calls Try.prog 42 #[.pointer (some ⟨db, 0, none⟩), v] w fun e w' => e = .returned (.tuple #[]) ∧ DiskAt w' db bm (fillK K L f) ∧ Two db bm w w' := by
  obtain ⟨av, cv, rfl, hL⟩ := hr.form
  have hc := h.2.2.cnt
  obtain ⟨m, hm⟩ : ∃ m, m = min L (K.count * 512) := ⟨_, rfl⟩
  obtain ⟨hr2, hcap, hcap2⟩ := readsF_take hr (m := m) (by omega)
  have hP := put_any h 0 m f (.slice av m cv) hr2 hf (by omega)
  rw [hm, fill_eq h.2.2, ← hm] at hP
  have C := count_any h
  have P : Hid (Calls Try.prog 82 #[.pointer (some ⟨db, 0, none⟩), .int .u64 ((0 : Nat) : Int), .slice av m cv] w fun e w' => e = .returned (.tuple #[]) ∧ DiskAt w' db bm (fillK K L f) ∧ Two db bm w w') := hP
  obtain ⟨c, hcc⟩ : ∃ c, K.count = c := ⟨_, rfl⟩
  have hmin : (if (c : Int) * 512 < (L : Int) then (c : Int) * 512 else (L : Int)) = (m : Nat) := by subst hcc; split <;> omega
  have hm1 : (m : Int) ≤ cv ∧ m ≤ cv := by omega
  have C2 : Hid (Calls Try.prog 49 #[.pointer (some ⟨db, 0, none⟩)] w fun e w' => e = .returned (.int .u64 (c : Nat)) ∧ w' = w) := by rw [← hcc]; exact C
  have hc5 : c ≤ 65536 := by omega
  clear hP hm hr hr2 hcc hc C h
  go_enter Try.func42, Try.ntmps42
  go_wp2_with fail
  refine C2.out.mono ?_
  rintro e w1 ⟨rfl, hw⟩
  rw [hw]
  clear hw w1
  go_wp2_with fail
  refine P.out.mono ?_
  rintro e w1 ⟨rfl, h1, t1⟩
  have X : Hid (_ ∧ _) := ⟨h1, t1⟩
  clear h1 t1
  go_wp2
  go_end0
  exact ⟨rfl, X.out.1, X.out.2⟩
end Go.Proofs.Ytlkhjekakbckmaa.D

/- Package disk: Copy; the library's maps.Clone of a map of sectors. -/
namespace Go.Proofs.Ytlkhjekakbckmaa.D
open Go.RowKit Go.Maps
set_option linter.unusedVariables false
set_option linter.unusedSimpArgs false
set_option maxRecDepth 100000
set_option maxHeartbeats 1000000 in
theorem clone_any {w : World} {bm c : Nat} {M : Nat → Nat} (h : MapAt w bm c M) : Calls Try.prog 50 #[.map (some bm)] w fun e w' => e = .returned (.map (some w.heap.size)) ∧ MapAt w' w.heap.size c M ∧ Below w.heap.size w w' := by
  obtain ⟨D, ⟨es, clock, hb, hF, hs, hD⟩, hp⟩ := h
  have hq := fun w => run_eql_map_nil_sl (P := Try.prog) w 131 _ _ (some bm) Try.underlying131
  have X : Hid (MapAt (w.alloc (.map es clock)) w.heap.size c M ∧ Below w.heap.size w (w.alloc (.map es clock))) := ⟨⟨D, ⟨es, clock, heap_alloc_new w _, hF, hs, hD⟩, hp⟩, (Below.refl _ _).alloc (Nat.le_refl _) _⟩
  clear hF hs hD hp
  go_enter Try.func50, Try.ntmps50
  go_wp2
  rw [run_callFunc_extern Try.func86 (by kernel_rfl) (by kernel_rfl) (by kernel_rfl) (e := Extern.MapsClone.clone) (by kernel_rfl), run_maps_clone_sl w 131 hb]
  simp only [Result.andThen]
  rw [Oper.upon_value]
  go_wp2
  rw [run_typeAssert_map_sl _ 131 20 _ _ _ Try.underlying131]
  simp only [Result.andThen]
  rw [Oper.upon_value]
  go_wp2
  go_ret
  exact ⟨rfl, X.out.1, X.out.2⟩
set_option maxHeartbeats 1000000 in
theorem copy_any {w : World} {db bm : Nat} {K : Dk} (h : DiskAt w db bm K) : Calls Try.prog 14 #[.pointer (some ⟨db, 0, none⟩)] w fun e w' => ∃ db2 bm2, e = .returned (.pointer (some ⟨db2, 0, none⟩)) ∧ DiskAt w' db2 bm2 K ∧ w.heap.size ≤ db2 ∧ w.heap.size ≤ bm2 ∧ Below w.heap.size w w' := by
  have c0 := h.c0
  have c1 := h.c1
  have c2 := h.c2
  have c3 := h.c3
  have c4 := h.c4
  have c5 := h.c5
  have H : Hid (DiskAt w db bm K) := h
  clear h
  go_enter Try.func14, Try.ntmps14
  go_upto_region 4 with fail
  have b1 : Below w.heap.size w (w.alloc (.cells (diskC K bm) 133)) := (Below.refl _ _).alloc (Nat.le_refl _) _
  have X : Hid (DiskAt (w.alloc (.cells (diskC K bm) 133)) db bm K ∧ Box 133 (w.alloc (.cells (diskC K bm) 133)) w.heap.size (diskC K bm) ∧ Below w.heap.size w (w.alloc (.cells (diskC K bm) 133))) := ⟨H.out.step b1, Box.new 133 w _, b1⟩
  clear b1 c0 c1 c2 c3 c4 c5
  rw [show (Obj.cells #[.int .u64 (K.count : Nat), .bool K.locked, .map (some bm), .int .u64 (K.reqs : Nat), .int .u64 (K.fl : Nat), .int .u64 (K.fail : Nat)] 133) = .cells (diskC K bm) 133 from rfl]
  generalize w.alloc (.cells (diskC K bm) 133) = w1 at *
  have c2 := X.out.1.c2
  go_wp2_with fail
  refine (clone_any X.out.1.2.1).mono ?_
  rintro e w2 ⟨rfl, hm, hb⟩
  have hx := X.out.2.1.step hb
  have hc2 := hx.cell 2 _ rfl
  have hf2 := hx.frozen 2
  have hsz := X.out.2.1.lt
  have hs2 := hm.lt
  have Y : Hid (MapAt w2 w1.heap.size K.count K.M ∧ Box 133 w2 w.heap.size (diskC K bm) ∧ Below w1.heap.size w1 w2) := ⟨hm, hx, hb⟩
  clear hm hx hb
  generalize w1.heap.size = b2 at *
  go_wp2
  go_ret
  have hu : Upon w.heap.size w2 (w2.setCell ⟨w.heap.size, 2, none⟩ (.map (some b2))) := (Upon.refl _ _).set 2 _
  refine ⟨w.heap.size, b2, rfl, ⟨Y.out.2.1.set 2 _, Y.out.1.kept (hu.2 _ Y.out.1.lt (by omega)), H.out.2.2⟩, Nat.le_refl _, by omega, ?_⟩
  exact (X.out.2.2.trans (Y.out.2.2.mono (by omega))).trans (hu.below (Nat.le_refl _) (by omega))
end Go.Proofs.Ytlkhjekakbckmaa.D

/- Package disk: Same; the library's maps.Equal of maps of sectors. -/
namespace Go.Proofs.Ytlkhjekakbckmaa.D
open Go.RowKit Go.Maps
set_option linter.unusedVariables false
set_option linter.unusedSimpArgs false
set_option maxRecDepth 100000
section
variable (w : World) {ops : Array Oper} {rest : List Oper} {o : Oper} {a : Act} {Q : Exit → Act → World → Prop}
theorem wpList_next_sect (hg : o.guard = none) (it : Operand) (hop : o.op = Op.next it false) (b r n : Nat) (D : DataW Unit) (M : Nat → Nat) (left : Lit → Bool) (cnt : Nat) (hit : a.eval it = .pointer (some ⟨r, 0, none⟩)) (h : w.ranges Try.prog 23 secElem b r n D left cnt) (hp : Sect D M)
    (hDone : (∀ k : Nat, left (.int .u64 (k : Nat)) = false) → wpList Try.prog ops Q rest (a.put o.dst (.tuple #[.bool false])) w)
    (hMore : ∀ (k : Nat) (w' : World) (cnt' : Nat), k < 18446744073709551616 → left (.int .u64 (k : Nat)) = true → zeroB M k = false → w'.ranges Try.prog 23 secElem b r n D (fun z => left z && !z.sameKey (.int .u64 (k : Nat))) cnt' → cnt' < cnt →
      w.grownBy w' (some r) → w'.heap.size = w.heap.size → (Instr.entry (.pointer (some ⟨r, 0, none⟩))).run Try.prog w' = .ok (.tuple #[.int .u64 (k : Nat), .agg (secRow (secF M k))]) w' → wpList Try.prog ops Q rest (a.put o.dst (.tuple #[.bool true, .int .u64 (k : Nat), .agg (secRow (secF M k))])) w') :
    wpList Try.prog ops Q (o :: rest) a w := by
  refine wpList_next_ranges w hg it hop 23 keyed26 secElem (Value.int .u64) Value.agg (fun key kl hkey => by obtain ⟨x, rfl, _⟩ := Maps.keyOf_int_inv Try.underlying23 hkey; exact ⟨x, rfl⟩) (fun v y hv => by unfold secElem at hv; split at hv; exact ⟨_, rfl⟩; cases hv) b r n D left cnt hit h (fun _ hl => hDone (fun k => hl _)) ?_
  intro x c kl y w' cnt' hkey hlk hv hat hrg hlt hgr hsz hen
  obtain ⟨x', ex, rfl, hwx⟩ := Maps.keyOf_int_inv Try.underlying23 hkey
  cases ex
  have hb := bounds_u64 hwx
  obtain ⟨k, rfl⟩ : ∃ k : Nat, x = k := ⟨x.toNat, by omega⟩
  have hz : zeroB M k = false ∧ y.1 = secD (secF M k) := by
    rcases hp k with ⟨e, h2⟩ | ⟨e, h2⟩
    · have h3 : y.1 = .nil := (hat .nil).symm.trans (h2 .nil)
      have h4 : y.1 = secD fun _ => 0 := (hat (secD fun _ => 0)).symm.trans (h2 _)
      exact absurd (h4.symm.trans h3) (secD_nil _)
    · exact ⟨e, (hat .nil).symm.trans (h2 .nil)⟩
  have hc := secElem_inv hv hz.2
  simp only [Value.agg.injEq] at hc
  subst hc
  exact hMore k w' cnt' (by omega) hlk hz.1 hrg hlt hgr hsz hen
end
theorem lit_same {j k : Nat} (hk : k < 18446744073709551616) : (Lit.int .u64 (j : Nat)).sameKey (.int .u64 (k : Nat)) = decide (j = k) := by
  by_cases e : j = k
  · subst e
    rw [WideAt.sameKey_self (keyed26.key (key26 hk))]; simp
  · rw [Maps.sameKey_ne (lit_ne e)]; simp [e]
/-- the sectors that are no longer to come are alike in both -/
def Goods (M1 M2 : Nat → Nat) (left : Lit → Bool) : Prop := ∀ k : Nat, left (.int .u64 (k : Nat)) = false → zeroB M1 k = false → ∀ i, i < 512 → secF M1 k i = secF M2 k i
def RelE (w wr : World) (b1 b2 c1 c2 : Nat) (D1 D2 : DataW Unit) (M1 M2 : Nat → Nat) (left : Lit → Bool) (cnt : Nat) : Prop := wr.ranges Try.prog 23 secElem b1 w.heap.size c1 D1 left cnt ∧ wr.ownsMap Try.prog 23 secElem b2 c2 D2 ∧ w.grownBy wr none ∧ Goods M1 M2 left
theorem zero_ne {M1 M2 : Nat → Nat} {k : Nat} (h1 : zeroB M1 k = false) (h2 : zeroB M2 k = true) : ¬ ∀ a, M1 a = M2 a := fun h => by
  rw [zeroB_congr (M' := M2) (fun i hi => h _), h2] at h1; cases h1
theorem sec_ne {M1 M2 : Nat → Nat} {k : Nat} (h : secEq (secF M1 k) (secF M2 k) = false) : ¬ ∀ a, M1 a = M2 a := fun e => secEq_no h (fun i _ => e _)
set_option maxHeartbeats 4000000 in
theorem equal_any {w : World} {b1 b2 c1 c2 : Nat} {M1 M2 : Nat → Nat} (h1 : MapAt w b1 c1 M1) (h2 : MapAt w b2 c2 M2) : Calls Try.prog 55 #[.map (some b1), .map (some b2)] w fun e w' => ∃ r, e = .returned (.bool r) ∧ (r = true ↔ ∀ a, M1 a = M2 a) ∧ Below w.heap.size w w' := by
  obtain ⟨D1, o1, p1⟩ := h1
  obtain ⟨D2, o2, p2⟩ := h2
  have l1 := fun ty => o1.len (t := 131) Try.underlying131 ty
  have l2 := fun ty => o2.len (t := 131) Try.underlying131 ty
  have hb2 := o2.lt
  have hb1 := o1.lt
  have H : Hid (w.ownsMap Try.prog 23 secElem b1 c1 D1 ∧ w.ownsMap Try.prog 23 secElem b2 c2 D2 ∧ Sect D1 M1 ∧ Sect D2 M2) := ⟨o1, o2, p1, p2⟩
  clear o1 o2 p1 p2
  by_cases hsz : Maps.size D1 = Maps.size D2
  · have HS : Hid (Maps.size D1 = Maps.size D2) := hsz
    go_enter Try.func55, Try.ntmps55
    go_wp2_with (first | (at_range; refine wpList_range_own _ rfl _ 131 rfl 23 136 keyed26 Try.underlying131 secElem b1 c1 D1 rfl H.out.1 ?_; intro w0 hrg0 hg0 hs0) | go_in)
    go_frame
    have R0 : Hid (RelE w w0 b1 b2 c1 c2 D1 D2 M1 M2 (Maps.has D1) (Maps.size D1)) := ⟨hrg0, H.out.2.1.kept hg0 (by simp), hg0, fun k hk hz => by rw [sect_has H.out.2.2.1, hz] at hk; cases hk⟩
    clear hrg0 hg0 hs0 l1 l2 hsz
    go_loopw [5] (fun _ wr => ∃ left cnt, RelE w wr b1 b2 c1 c2 D1 D2 M1 M2 left cnt) (fun _ wr => wr.rangeLeft b1 w.heap.size)
    case atStart => exact ⟨_, _, R0.out⟩
    case round =>
      obtain ⟨left, cnt, hrel⟩ := hrel
      clear R0
      have R : Hid (RelE w wr b1 b2 c1 c2 D1 D2 M1 M2 left cnt) := hrel
      clear hrel
      go_upto_region 4 with fail
      refine wp_region_list ?_
      refine wpList_next_sect _ rfl _ rfl b1 w.heap.size c1 D1 M1 left cnt rfl R.out.1 H.out.2.2.1 ?_ ?_
      · intro hl
        go_wp2
        go_ret
        refine ⟨true, rfl, ⟨fun _ => ?_, fun _ => rfl⟩, (Below.refl _ _).grown R.out.2.2.1 (Nat.le_refl _) (fun j hj => by cases hj)⟩
        exact sect_same H.out.1 H.out.2.1 H.out.2.2.1 H.out.2.2.2 HS.out (fun k hz i hi => R.out.2.2.2 k (hl k) hz i hi)
      · intro k w1 cnt1 hk hlk hzk hrg1 hlt hg1 hs1 hen
        have hgw1 : w.grownBy w1 none := R.out.2.2.1.andThen hg1 (fun j hj => by cases hj; exact Or.inl (Nat.le_refl _))
        have o2 : w1.ownsMap Try.prog 23 secElem b2 c2 D2 := R.out.2.1.kept hg1 (fun e => by have := Option.some.inj e; omega)
        have G : Hid (w.grownBy w1 none ∧ w1.ownsMap Try.prog 23 secElem b2 c2 D2 ∧ zeroB M1 k = false ∧ w1.ranges Try.prog 23 secElem b1 w.heap.size c1 D1 (fun z => left z && !z.sameKey (.int .u64 (k : Nat))) cnt1 ∧ cnt1 < cnt ∧ left (.int .u64 (k : Nat)) = true) := ⟨hgw1, o2, hzk, hrg1, hlt, hlk⟩
        clear hgw1 o2 hzk hrg1 hlt hg1 hs1 hlk
        go_upto_region 5 with fail
        refine wp_region_list ?_
        (refine wpList_step (fun KK hKK => ?_); go_simp; refine hKK _ _ ?_; clear hKK KK)
        refine wpList_extract_at rfl _ _ _ _ rfl rfl rfl ?_
        refine wpList_extract_at rfl _ _ _ _ rfl rfl rfl ?_
        refine wpList_alloc63 rfl rfl ?_
        (refine wpList_step (fun KK hKK => ?_); go_simp; refine hKK _ _ ?_; clear hKK KK)
        refine wpList_store63 rfl _ _ rfl w1.heap.size (secF M1 k) (secRow fun _ => 0) rfl rfl (Box.new 136 w1 _) (by rw [secRow_size, secRow_size]) ?_
        intro w2 B2 U2
        have g2 : Below w1.heap.size w1 w2 := (((Below.refl _ _).alloc (Nat.le_refl _) _ : Below w1.heap.size w1 (w1.alloc (.cells (secRow fun _ => 0) 136)))).trans (U2.below (Nat.le_refl _) (by simp))
        have y2 : w1.grownBy w2 none := ⟨g2.os, g2.tape, g2.output, g2.size, fun i hi _ => g2.block i hi⟩
        have s2 := B2.lt
        have hlk2 : (Instr.lookup 131 (.map (some b2)) (.int .u64 (k : Nat)) true).run Try.prog w2 = .ok (.tuple #[.agg (secRow (secF M2 k)), .bool (!zeroB M2 k)]) w2 := sect_look_ok (G.out.2.1.kept y2 (by simp)) H.out.2.2.2 k hk
        have Y2 : Hid (w1.grownBy w2 none ∧ Box 136 w2 w1.heap.size (secRow (secF M1 k))) := ⟨y2, B2⟩
        clear g2 y2 U2 B2 hen
        go_upto_region 6 with fail
        refine wp_region_list ?_
        (refine wpList_step (fun KK hKK => ?_); go_simp; refine hKK _ _ ?_; clear hKK KK)
        (refine wpList_step (fun KK hKK => ?_); go_simp; refine hKK _ _ ?_; clear hKK KK)
        refine wpList_look_run rfl _ _ 131 true rfl rfl rfl hlk2 ?_
        (refine wpList_step (fun KK hKK => ?_); go_simp; refine hKK _ _ ?_; clear hKK KK)
        refine wpList_extract_at rfl _ _ _ _ rfl rfl rfl ?_
        refine wpList_extract_at rfl _ _ _ _ rfl rfl rfl ?_
        refine wpList_alloc63 rfl rfl ?_
        refine wpList_store63 rfl _ _ rfl w2.heap.size (secF M2 k) (secRow fun _ => 0) rfl rfl (Box.new 136 w2 _) (by rw [secRow_size, secRow_size]) ?_
        intro w3 B3 U3
        have g3 : Below w2.heap.size w2 w3 := (((Below.refl _ _).alloc (Nat.le_refl _) _ : Below w2.heap.size w2 (w2.alloc (.cells (secRow fun _ => 0) 136)))).trans (U3.below (Nat.le_refl _) (by simp))
        have y3 : w2.grownBy w3 none := ⟨g3.os, g3.tape, g3.output, g3.size, fun i hi _ => g3.block i hi⟩
        have Y3 : Hid (w1.grownBy w3 none ∧ Box 136 w3 w1.heap.size (secRow (secF M1 k)) ∧ Box 136 w3 w2.heap.size (secRow (secF M2 k))) := ⟨Y2.out.1.andThen y3 (fun j hj => by cases hj), Y2.out.2.step g3, B3⟩
        clear g3 y3 U3 B3 Y2 hlk2
        generalize w2.heap.size = q2 at *
        generalize w1.heap.size = q1 at *
        (refine wpList_step (fun KK hKK => ?_); go_simp; refine hKK _ _ ?_; clear hKK KK)
        cases hz2 : zeroB M2 k with
        | true =>
          have HZ : Hid (zeroB M2 k = true) := hz2
          clear hz2
          go_upto_region 7 with fail
          refine wp_region_list ?_
          (refine wpList_step (fun KK hKK => ?_); go_simp; refine hKK _ _ ?_; clear hKK KK)
          (refine wpList_step (fun KK hKK => ?_); go_simp; refine hKK _ _ ?_; clear hKK KK)
          (refine wpList_step (fun KK hKK => ?_); go_simp; refine hKK _ _ ?_; clear hKK KK)
          (refine wpList_step (fun KK hKK => ?_); go_simp; refine hKK _ _ ?_; clear hKK KK)
          (refine wpList_step (fun KK hKK => ?_); go_simp; refine hKK _ _ ?_; clear hKK KK)
          (refine wpList_step (fun KK hKK => ?_); go_simp; refine hKK _ _ ?_; clear hKK KK)
          (refine wpList_step (fun KK hKK => ?_); go_simp; refine hKK _ _ ?_; clear hKK KK)
          go_wp2
          go_ret
          refine ⟨false, rfl, ⟨fun h => (by cases h), fun h => absurd h (zero_ne G.out.2.2.1 HZ.out)⟩, (Below.refl _ _).grown (G.out.1.andThen Y3.out.1 (fun j hj => by cases hj)) (Nat.le_refl _) (fun j hj => by cases hj)⟩
        | false =>
          cases he : secEq (secF M1 k) (secF M2 k) with
          | false =>
            have HE : Hid (secEq (secF M1 k) (secF M2 k) = false) := he
            clear hz2 he
            go_upto_region 7 with fail
            refine wp_region_list ?_
            (refine wpList_step (fun KK hKK => ?_); go_simp; refine hKK _ _ ?_; clear hKK KK)
            (refine wpList_step (fun KK hKK => ?_); go_simp; refine hKK _ _ ?_; clear hKK KK)
            (refine wpList_step (fun KK hKK => ?_); go_simp; refine hKK _ _ ?_; clear hKK KK)
            refine wpList_load63G (by first | rfl | kernel_rfl) _ rfl q1 (secF M1 k) rfl Y3.out.2.1 ?_
            refine wpList_load63G (by first | rfl | kernel_rfl) _ rfl q2 (secF M2 k) rfl Y3.out.2.2 ?_
            refine wpList_neq63G (by first | rfl | kernel_rfl) _ _ _ rfl (secF M1 k) (secF M2 k) rfl rfl ?_
            rw [HE.out]
            (refine wpList_step (fun KK hKK => ?_); go_simp; refine hKK _ _ ?_; clear hKK KK)
            go_wp2
            go_ret
            refine ⟨false, rfl, ⟨fun h => (by cases h), fun h => absurd h (sec_ne HE.out)⟩, (Below.refl _ _).grown (G.out.1.andThen Y3.out.1 (fun j hj => by cases hj)) (Nat.le_refl _) (fun j hj => by cases hj)⟩
          | true =>
            have HE : Hid (secEq (secF M1 k) (secF M2 k) = true) := he
            clear hz2 he
            go_upto_region 7 with fail
            refine wp_region_list ?_
            (refine wpList_step (fun KK hKK => ?_); go_simp; refine hKK _ _ ?_; clear hKK KK)
            (refine wpList_step (fun KK hKK => ?_); go_simp; refine hKK _ _ ?_; clear hKK KK)
            (refine wpList_step (fun KK hKK => ?_); go_simp; refine hKK _ _ ?_; clear hKK KK)
            refine wpList_load63G (by first | rfl | kernel_rfl) _ rfl q1 (secF M1 k) rfl Y3.out.2.1 ?_
            refine wpList_load63G (by first | rfl | kernel_rfl) _ rfl q2 (secF M2 k) rfl Y3.out.2.2 ?_
            refine wpList_neq63G (by first | rfl | kernel_rfl) _ _ _ rfl (secF M1 k) (secF M2 k) rfl rfl ?_
            rw [HE.out]
            (refine wpList_step (fun KK hKK => ?_); go_simp; refine hKK _ _ ?_; clear hKK KK)
            go_wp2_with fail
            go_roundw
            case rel =>
              refine ⟨_, cnt1, G.out.2.2.2.1.kept Y3.out.1 (by simp) (by simp), G.out.2.1.kept Y3.out.1 (by simp), G.out.1.andThen Y3.out.1 (fun j hj => by cases hj), fun j hj hz i hi => ?_⟩
              by_cases e : j = k
              · subst e; exact (secEq_iff _ _).1 HE.out i hi
              · simp only [lit_same hk, e, decide_false, Bool.not_false, Bool.and_true] at hj
                exact R.out.2.2.2 j hj hz i hi
            case measure => rw [(G.out.2.2.2.1.kept Y3.out.1 (by simp) (by simp)).left_eq, R.out.1.left_eq]; exact G.out.2.2.2.2.1
  · have hne : ¬ ((Maps.size D1 : Int) = (Maps.size D2 : Int)) := fun e => hsz (by exact_mod_cast e)
    go_enter Try.func55, Try.ntmps55
    go_wp2
    go_ret
    refine ⟨false, rfl, ⟨fun h => (by cases h), fun h => absurd ?_ hsz⟩, Below.refl _ _⟩
    obtain ⟨a1, a2, a3⟩ := owns_keys H.out.1
    obtain ⟨e1, e2, e3⟩ := owns_keys H.out.2.1
    have hM : M1 = M2 := funext h
    have s1 := nodup_len (keysN D1) (keysN D2) a1 (fun k hk => (e2 k).2 (by rw [sect_has H.out.2.2.2, ← hM, ← sect_has H.out.2.2.1]; exact (a2 k).1 hk))
    have s2 := nodup_len (keysN D2) (keysN D1) e1 (fun k hk => (a2 k).2 (by rw [sect_has H.out.2.2.1, hM, ← sect_has H.out.2.2.2]; exact (e2 k).1 hk))
    omega
end Go.Proofs.Ytlkhjekakbckmaa.D

/- Package disk: Same. -/
namespace Go.Proofs.Ytlkhjekakbckmaa.D
open Go.RowKit Go.Maps
set_option linter.unusedVariables false
set_option linter.unusedSimpArgs false
set_option maxRecDepth 100000
set_option maxHeartbeats 2000000 in
theorem same_any {w : World} {d1 m1 d2 m2 : Nat} {K1 K2 : Dk} (h1 : DiskAt w d1 m1 K1) (h2 : DiskAt w d2 m2 K2) (hc : K1.count = K2.count) : Calls Try.prog 17 #[.pointer (some ⟨d1, 0, none⟩), .pointer (some ⟨d2, 0, none⟩)] w fun e w' => ∃ r, e = .returned (.bool r) ∧ (r = true ↔ ∀ a, K1.M a = K2.M a) ∧ Below w.heap.size w w' := by
  have he : (((K1.count : Nat) : Int) == ((K2.count : Nat) : Int)) = true := by rw [hc]; simp
  have H : Hid (DiskAt w.drew d1 m1 K1 ∧ DiskAt w.drew d2 m2 K2) := ⟨h1.step (Below.drew (Below.refl _ _)), h2.step (Below.drew (Below.refl _ _))⟩
  clear h1 h2 hc
  go_enter Try.func17, Try.ntmps17
  go_upto_region 3 with fail
  refine wp_region_held_drew (S := fun V => V.cell? ⟨d1, 0, none⟩ = some (.int .u64 (K1.count : Nat)) ∧ V.cell? ⟨d1, 2, none⟩ = some (.map (some m1)) ∧ V.cell? ⟨d2, 0, none⟩ = some (.int .u64 (K2.count : Nat)) ∧ V.cell? ⟨d2, 2, none⟩ = some (.map (some m2))) (by kernel_rfl) ⟨H.out.1.c0, H.out.1.c2, H.out.2.c0, H.out.2.c2⟩ ?_
  intro hS
  refine wpAnyH_take (i := 0) (v := ?_) rfl (by kernel_rfl) (by kernel_rfl) (by kernel_rfl) (fun _ _ _ h => h) (Or.inl ⟨by kernel_rfl, ?_⟩) hS ?_
  rotate_left
  · intro w hSw; (try dsimp only at hSw); go_simp; try (with_reducible rfl)
  (try simp only [Act.put, List.getElem_toArray, List.getElem_cons_succ, List.getElem_cons_zero, List.setIfInBounds_toArray, List.set_cons_zero, List.set_cons_succ])
  refine wpAnyH_take (i := 1) (v := ?_) rfl (by kernel_rfl) (by kernel_rfl) (by kernel_rfl) (fun _ _ _ h => h) (Or.inl ⟨by kernel_rfl, ?_⟩) hS ?_
  rotate_left
  · intro w hSw; (try dsimp only at hSw); go_simp; try (with_reducible rfl)
  (try simp only [Act.put, List.getElem_toArray, List.getElem_cons_succ, List.getElem_cons_zero, List.setIfInBounds_toArray, List.set_cons_zero, List.set_cons_succ])
  refine wpAnyH_take (i := 2) (v := ?_) rfl (by kernel_rfl) (by kernel_rfl) (by kernel_rfl) (fun _ _ _ h => h) (Or.inl ⟨by kernel_rfl, ?_⟩) hS ?_
  rotate_left
  · intro w hSw; (try dsimp only at hSw); go_simp; try (with_reducible rfl)
  (try simp only [Act.put, List.getElem_toArray, List.getElem_cons_succ, List.getElem_cons_zero, List.setIfInBounds_toArray, List.set_cons_zero, List.set_cons_succ])
  refine wpAnyH_take (i := 3) (v := ?_) rfl (by kernel_rfl) (by kernel_rfl) (by kernel_rfl) (fun _ _ _ h => h) (Or.inl ⟨by kernel_rfl, ?_⟩) hS ?_
  rotate_left
  · intro w hSw; (try dsimp only at hSw); go_simp; try (with_reducible rfl)
  (try simp only [Act.put, List.getElem_toArray, List.getElem_cons_succ, List.getElem_cons_zero, List.setIfInBounds_toArray, List.set_cons_zero, List.set_cons_succ])
  refine wpAnyH_take (i := 4) (v := ?_) rfl (by kernel_rfl) (by kernel_rfl) (by kernel_rfl) (fun _ _ _ h => h) (Or.inl ⟨by kernel_rfl, ?_⟩) hS ?_
  rotate_left
  · intro w hSw; (try dsimp only at hSw); go_simp; try (with_reducible rfl)
  (try simp only [Act.put, List.getElem_toArray, List.getElem_cons_succ, List.getElem_cons_zero, List.setIfInBounds_toArray, List.set_cons_zero, List.set_cons_succ])
  refine wpAnyH_take (i := 5) (v := ?_) rfl (by kernel_rfl) (by kernel_rfl) (by kernel_rfl) (fun _ _ _ h => h) (Or.inl ⟨by kernel_rfl, ?_⟩) hS ?_
  rotate_left
  · intro w hSw; (try dsimp only at hSw); go_simp; try (with_reducible rfl)
  (try simp only [Act.put, List.getElem_toArray, List.getElem_cons_succ, List.getElem_cons_zero, List.setIfInBounds_toArray, List.set_cons_zero, List.set_cons_succ])
  refine wpAnyH_take (i := 6) (v := ?_) rfl (by kernel_rfl) (by kernel_rfl) (by kernel_rfl) (fun _ _ _ h => h) (Or.inl ⟨by kernel_rfl, ?_⟩) hS ?_
  rotate_left
  · intro w hSw; (try dsimp only at hSw); go_simp; try (with_reducible rfl)
  (try simp only [Act.put, List.getElem_toArray, List.getElem_cons_succ, List.getElem_cons_zero, List.setIfInBounds_toArray, List.set_cons_zero, List.set_cons_succ])
  refine wpAnyH_take (i := 7) (v := ?_) rfl (by kernel_rfl) (by kernel_rfl) (by kernel_rfl) (fun _ _ _ h => h) (Or.inl ⟨by kernel_rfl, ?_⟩) hS ?_
  rotate_left
  · intro w hSw; (try dsimp only at hSw); go_simp; try (with_reducible rfl)
  (try simp only [Act.put, List.getElem_toArray, List.getElem_cons_succ, List.getElem_cons_zero, List.setIfInBounds_toArray, List.set_cons_zero, List.set_cons_succ])
  refine wpAnyH_take (i := 8) (v := ?_) rfl (by kernel_rfl) (by kernel_rfl) (by kernel_rfl) (fun _ _ _ h => h) (Or.inl ⟨by kernel_rfl, ?_⟩) hS ?_
  rotate_left
  · intro w hSw; (try dsimp only at hSw); go_simp; try (with_reducible rfl)
  (try simp only [Act.put, List.getElem_toArray, List.getElem_cons_succ, List.getElem_cons_zero, List.setIfInBounds_toArray, List.set_cons_zero, List.set_cons_succ])
  refine wpAnyH_take (i := 9) (v := ?_) rfl (by kernel_rfl) (by kernel_rfl) (by kernel_rfl) (fun _ _ _ h => h) (Or.inl ⟨by kernel_rfl, ?_⟩) hS ?_
  rotate_left
  · intro w hSw; (try dsimp only at hSw); go_simp; try (with_reducible rfl)
  (try simp only [Act.put, List.getElem_toArray, List.getElem_cons_succ, List.getElem_cons_zero, List.setIfInBounds_toArray, List.set_cons_zero, List.set_cons_succ])
  refine wpAnyH_take (i := 10) (v := ?_) rfl (by kernel_rfl) (by kernel_rfl) (by kernel_rfl) (fun _ _ _ h => h) (Or.inl ⟨by kernel_rfl, ?_⟩) hS ?_
  rotate_left
  · intro w hSw; (try dsimp only at hSw); go_simp; try (with_reducible rfl)
  (try simp only [Act.put, List.getElem_toArray, List.getElem_cons_succ, List.getElem_cons_zero, List.setIfInBounds_toArray, List.set_cons_zero, List.set_cons_succ])
  refine wpAnyH_take (i := 11) (v := ?_) rfl (by kernel_rfl) (by kernel_rfl) (by kernel_rfl) (fun _ _ _ h => h) (Or.inl ⟨by kernel_rfl, ?_⟩) hS ?_
  rotate_left
  · intro w hSw; (try dsimp only at hSw); go_simp; try (with_reducible rfl)
  (try simp only [Act.put, List.getElem_toArray, List.getElem_cons_succ, List.getElem_cons_zero, List.setIfInBounds_toArray, List.set_cons_zero, List.set_cons_succ])
  refine wpAnyH_take (i := 12) (v := ?_) rfl (by kernel_rfl) (by kernel_rfl) (by kernel_rfl) (fun _ _ _ h => h) (Or.inl ⟨by kernel_rfl, ?_⟩) hS ?_
  rotate_left
  · intro w hSw; (try dsimp only at hSw); go_simp; try (with_reducible rfl)
  (try simp only [Act.put, List.getElem_toArray, List.getElem_cons_succ, List.getElem_cons_zero, List.setIfInBounds_toArray, List.set_cons_zero, List.set_cons_succ])
  refine wpAnyH_take (i := 13) (v := ?_) rfl (by kernel_rfl) (by kernel_rfl) (by kernel_rfl) (fun _ _ _ h => h) (Or.inl ⟨by kernel_rfl, ?_⟩) hS ?_
  rotate_left
  · intro w hSw; (try dsimp only at hSw); go_simp; try (with_reducible rfl)
  (try simp only [Act.put, List.getElem_toArray, List.getElem_cons_succ, List.getElem_cons_zero, List.setIfInBounds_toArray, List.set_cons_zero, List.set_cons_succ])
  refine wpAnyH_take (i := 14) (v := ?_) rfl (by kernel_rfl) (by kernel_rfl) (by kernel_rfl) (fun _ _ _ h => h) (Or.inl ⟨by kernel_rfl, ?_⟩) hS ?_
  rotate_left
  · intro w hSw; (try dsimp only at hSw); go_simp; try (with_reducible rfl)
  (try simp only [Act.put, List.getElem_toArray, List.getElem_cons_succ, List.getElem_cons_zero, List.setIfInBounds_toArray, List.set_cons_zero, List.set_cons_succ])
  refine wpAnyH_take (i := 15) (v := ?_) rfl (by kernel_rfl) (by kernel_rfl) (by kernel_rfl) (fun _ _ _ h => h) (Or.inl ⟨by kernel_rfl, ?_⟩) hS ?_
  rotate_left
  · intro w hSw; (try dsimp only at hSw); go_simp; try (with_reducible rfl)
  (try simp only [Act.put, List.getElem_toArray, List.getElem_cons_succ, List.getElem_cons_zero, List.setIfInBounds_toArray, List.set_cons_zero, List.set_cons_succ])
  refine wpAnyH_take (i := 16) (v := ?_) rfl (by kernel_rfl) (by kernel_rfl) (by kernel_rfl) (fun _ _ _ h => h) (Or.inl ⟨by kernel_rfl, ?_⟩) hS ?_
  rotate_left
  · intro w hSw; (try dsimp only at hSw); go_simp; try (with_reducible rfl)
  (try simp only [Act.put, List.getElem_toArray, List.getElem_cons_succ, List.getElem_cons_zero, List.setIfInBounds_toArray, List.set_cons_zero, List.set_cons_succ])
  refine wpAnyH_take (i := 17) (v := ?_) rfl (by kernel_rfl) (by kernel_rfl) (by kernel_rfl) (fun _ _ _ h => h) (Or.inl ⟨by kernel_rfl, ?_⟩) hS ?_
  rotate_left
  · intro w hSw; (try dsimp only at hSw); go_simp; try (with_reducible rfl)
  (try simp only [Act.put, List.getElem_toArray, List.getElem_cons_succ, List.getElem_cons_zero, List.setIfInBounds_toArray, List.set_cons_zero, List.set_cons_succ])
  refine wpAnyH_ready (rs := [18]) (by kernel_rfl) (by simp) ?_
  refine AllReadyH.cons rfl (fun HH0 HH1 => ?_) AllReadyH.nil
  go_simp
  refine (equal_any H.out.1.2.1 H.out.2.2.1).mono ?_
  rintro e w2 ⟨r, rfl, hr, hb⟩
  have X : Hid ((r = true ↔ ∀ a, K1.M a = K2.M a) ∧ Below w.heap.size w w2) := ⟨hr, ((Below.refl _ _ : Below w.heap.size w w).drew).trans hb⟩
  have A1 := H.out.1.step hb
  have A2 := H.out.2.step hb
  clear hr hb
  refine HH1.out _ _ ⟨A1.c0, A1.c2, A2.c0, A2.c2⟩ (fun hS2 => ?_)
  clear HH1 HH0 hS A1 A2
  (try simp only [Act.put, List.getElem_toArray, List.getElem_cons_succ, List.getElem_cons_zero, List.setIfInBounds_toArray, List.set_cons_zero, List.set_cons_succ])
  refine wpAnyH_take (i := 19) (v := ?_) rfl (by kernel_rfl) (by kernel_rfl) (by kernel_rfl) (fun _ _ _ h => h) (Or.inl ⟨by kernel_rfl, ?_⟩) hS2 ?_
  rotate_left
  · intro w hSw; (try dsimp only at hSw); go_simp; try (with_reducible rfl)
  (try simp only [Act.put, List.getElem_toArray, List.getElem_cons_succ, List.getElem_cons_zero, List.setIfInBounds_toArray, List.set_cons_zero, List.set_cons_succ])
  refine wpAnyH_take (i := 20) (v := ?_) rfl (by kernel_rfl) (by kernel_rfl) (by kernel_rfl) (fun _ _ _ h => h) (Or.inl ⟨by kernel_rfl, ?_⟩) hS2 ?_
  rotate_left
  · intro w hSw; (try dsimp only at hSw); go_simp; try (with_reducible rfl)
  (try simp only [Act.put, List.getElem_toArray, List.getElem_cons_succ, List.getElem_cons_zero, List.setIfInBounds_toArray, List.set_cons_zero, List.set_cons_succ])
  refine wpAnyH_done (by kernel_rfl) ?_ _
  clear hS2
  go_wp2
  go_ret
  exact ⟨r, by cases r <;> rfl, X.out.1, X.out.2⟩
end Go.Proofs.Ytlkhjekakbckmaa.D

/- Layer 19: a block device as it lies in the world; its small calls. -/
namespace Go.Proofs.Ytlkhjekakbckmaa
open Go.RowKit Go.Maps
set_option linter.unusedVariables false
set_option linter.unusedSimpArgs false
set_option maxRecDepth 100000
/-- may a request move so many bytes? -/
def mvB (n : Nat) : Bool := decide (n ≠ 0) && decide (n ≤ 33554432)
theorem mayMove_any (n : Nat) (w : World) : Calls Try.prog 120 #[.int .u64 (n : Int)] w fun e w' => e = .returned (.bool (mvB n)) ∧ w' = w := by
  by_cases h0 : n = 0
  · subst h0
    go_enter Try.func120, Try.ntmps120
    go_wp2_with fail
    go_ret
    exact ⟨rfl, rfl⟩
  · have e0 : ((n : Int) != 0) = true := by simp; omega
    obtain ⟨r, hr⟩ : ∃ r, mvB n = r := ⟨_, rfl⟩
    have e1 : decide ((n : Int) ≤ 33554432) = r := by
      rw [← hr]
      unfold mvB
      rw [decide_eq_true h0, Bool.true_and]
      exact decide_eq_decide.2 (by omega)
    rw [hr]
    clear hr h0
    go_enter Try.func120, Try.ntmps120
    go_wp2_with fail
    go_ret
    exact ⟨rfl, rfl⟩
/-- how a request ends, by the disk's error -/
def endN (e : Nat) : Nat := if e = 0 then 0 else 1
theorem endOf_any (x : Nat) (w : World) : Calls Try.prog 122 #[.int .i64 (x : Int)] w fun e w' => e = .returned (.int .u8 (endN x : Int)) ∧ w' = w := by
  by_cases h0 : x = 0
  · subst h0
    go_enter Try.func122, Try.ntmps122
    go_wp2_with fail
    go_ret
    exact ⟨rfl, rfl⟩
  · have e0 : ((x : Int) != 0) = true := by simp; omega
    have e1 : endN x = 1 := if_neg h0
    rw [e1]
    clear e1 h0
    go_enter Try.func122, Try.ntmps122
    go_wp2_with fail
    go_ret
    exact ⟨rfl, rfl⟩
/-- the device's cells: registers, memory, disk, name, log -/
def blkC (gb rb db : Nat) (m : Nat → Nat) (lv : Value) : Array Value := #[.pointer (some ⟨gb, 0, none⟩), .pointer (some ⟨rb, 0, none⟩), .pointer (some ⟨db, 0, none⟩), .int .u8 (m 0 : Int), .int .u8 (m 1 : Int), .int .u8 (m 2 : Int), .int .u8 (m 3 : Int), .int .u8 (m 4 : Int), .int .u8 (m 5 : Int), .int .u8 (m 6 : Int), .int .u8 (m 7 : Int), .int .u8 (m 8 : Int), .int .u8 (m 9 : Int), .int .u8 (m 10 : Int), .int .u8 (m 11 : Int), .int .u8 (m 12 : Int), .int .u8 (m 13 : Int), .int .u8 (m 14 : Int), .int .u8 (m 15 : Int), .int .u8 (m 16 : Int), .int .u8 (m 17 : Int), .int .u8 (m 18 : Int), .int .u8 (m 19 : Int), lv]
abbrev BlkAt (w : World) (bb gb rb db : Nat) (m : Nat → Nat) (lv : Value) : Prop := w.heap[bb]? = some (.cells (blkC gb rb db m lv) 78 (0, 0))
/-- a request's cells -/
abbrev rqC (kd sec : Nat) (a : Option Addr) (L c ta tl R W : Nat) : Array Value := #[.int .u32 (kd : Int), .int .u64 (sec : Int), .slice a L c, .int .u64 (ta : Int), .int .u64 (tl : Int), .int .u64 (R : Int), .int .u64 (W : Int)]
section
variable {w : World} {bb gb rb db bm kd sec L c ta tl R W : Nat} {a : Option Addr} {m : Nat → Nat} {lv : Value} {K : D.Dk}
theorem flush_no (h : ¬ (R = 0 ∧ W = 0)) : Calls Try.prog 91 #[.pointer (some ⟨bb, 0, none⟩), .agg (rqC kd sec a L c ta tl R W)] w fun e w' => e = .returned (.int .u8 1) ∧ Below w.heap.size w w' := by
  by_cases h0 : R = 0
  · subst h0
    have e1 : ((W : Int) != 0) = true := by simp; omega
    clear h
    go_enter Try.func91, Try.ntmps91
    go_wp2_with fail
    go_ret
    exact ⟨rfl, (Below.refl _ _).alloc (Nat.le_refl _) _⟩
  · have e1 : ((R : Int) != 0) = true := by simp; omega
    clear h h0
    go_enter Try.func91, Try.ntmps91
    go_wp2_with fail
    go_ret
    exact ⟨rfl, (Below.refl _ _).alloc (Nat.le_refl _) _⟩
theorem flush_go (h : BlkAt w bb gb rb db m lv) (hd : D.DiskAt w db bm K) : Calls Try.prog 91 #[.pointer (some ⟨bb, 0, none⟩), .agg (rqC kd sec a L c ta tl 0 0)] w fun e w' => e = .returned (.int .u8 (endN (D.askE K) : Int)) ∧ D.DiskAt w' db bm (D.flushK K) ∧ D.Two db bm w w' := by
  have hb : Below w.heap.size w (w.alloc (.cells (rqC kd sec a L c ta tl 0 0) 138)) := (Below.refl _ _).alloc (Nat.le_refl _) _
  have hx := heap_alloc_new w (.cells (rqC kd sec a L c ta tl 0 0) 138)
  have r5 := cellOf hx 5 _ rfl
  have r6 := cellOf hx 6 _ rfl
  have c2 := cellOf (below_box h hb) 2 (.pointer (some ⟨db, 0, none⟩)) rfl
  have X : Hid (D.DiskAt (w.alloc (.cells (rqC kd sec a L c ta tl 0 0) 138)) db bm K ∧ D.Two db bm w (w.alloc (.cells (rqC kd sec a L c ta tl 0 0) 138))) := ⟨hd.step hb, D.Two.of_below hb⟩
  clear hb hx h hd
  go_enter Try.func91, Try.ntmps91
  go_upto_region 1 with fail
  generalize w.alloc (.cells (rqC kd sec a L c ta tl 0 0) 138) = w0 at *
  go_wp2_with (first | (go_at_call 124; refine (D.flush_any X.out.1).mono ?_; rintro e w1 ⟨rfl, h1, t1⟩; have Y : Hid (D.DiskAt w1 db bm (D.flushK K) ∧ D.Two db bm w w1) := ⟨h1, X.out.2.trans t1⟩; clear h1 t1 X c2 r5 r6) | (go_at_call 122; refine (endOf_any _ _).mono ?_; rintro e w2 ⟨rfl, hw⟩; rw [hw]; clear hw w2))
  go_ret
  exact ⟨rfl, Y.out⟩
theorem id_no (h : ¬ (R = 0 ∧ W = 20)) : Calls Try.prog 92 #[.pointer (some ⟨bb, 0, none⟩), .agg (rqC kd sec a L c ta tl R W)] w fun e w' => e = .returned (.tuple #[.slice none 0 0, .int .u8 1]) ∧ Below w.heap.size w w' := by
  by_cases h0 : R = 0
  · subst h0
    have e1 : ((W : Int) != 20) = true := by simp; omega
    clear h
    go_enter Try.func92, Try.ntmps92
    go_wp2_with fail
    go_ret2
    exact ⟨rfl, (Below.refl _ _).alloc (Nat.le_refl _) _⟩
  · have e1 : ((R : Int) != 0) = true := by simp; omega
    clear h h0
    go_enter Try.func92, Try.ntmps92
    go_wp2_with fail
    go_ret2
    exact ⟨rfl, (Below.refl _ _).alloc (Nat.le_refl _) _⟩
theorem id_go : Calls Try.prog 92 #[.pointer (some ⟨bb, 0, none⟩), .agg (rqC kd sec a L c ta tl 0 20)] w fun e w' => e = .returned (.tuple #[.slice (some ⟨bb, 3, none⟩) 20 20, .int .u8 0]) ∧ Below w.heap.size w w' := by
  have hb : Below w.heap.size w (w.alloc (.cells (rqC kd sec a L c ta tl 0 20) 138)) := (Below.refl _ _).alloc (Nat.le_refl _) _
  have hx := heap_alloc_new w (.cells (rqC kd sec a L c ta tl 0 20) 138)
  have r5 := cellOf hx 5 _ rfl
  have r6 := cellOf hx 6 _ rfl
  have X : Hid (Below w.heap.size w (w.alloc (.cells (rqC kd sec a L c ta tl 0 20) 138))) := hb
  clear hb hx
  go_enter Try.func92, Try.ntmps92
  go_upto_region 1 with fail
  generalize w.alloc (.cells (rqC kd sec a L c ta tl 0 20) 138) = w0 at *
  go_wp2_with fail
  go_ret2
  exact ⟨rfl, X.out⟩
theorem in_no (h : ¬ (R = 0 ∧ mvB W = true)) : Calls Try.prog 89 #[.pointer (some ⟨bb, 0, none⟩), .agg (rqC kd sec a L c ta tl R W)] w fun e w' => e = .returned (.tuple #[.slice none 0 0, .int .u8 1]) ∧ Below w.heap.size w w' := by
  by_cases h0 : R = 0
  · subst h0
    have hm : mvB W = false := by simpa using h
    clear h
    have hb : Below w.heap.size w (w.alloc (.cells (rqC kd sec a L c ta tl 0 W) 138)) := (Below.refl _ _).alloc (Nat.le_refl _) _
    have hx := heap_alloc_new w (.cells (rqC kd sec a L c ta tl 0 W) 138)
    have r5 := cellOf hx 5 _ rfl
    have r6 := cellOf hx 6 _ rfl
    have X : Hid (Below w.heap.size w (w.alloc (.cells (rqC kd sec a L c ta tl 0 W) 138))) := hb
    clear hb hx
    go_enter Try.func89, Try.ntmps89
    go_upto_region 1 with fail
    generalize w.alloc (.cells (rqC kd sec a L c ta tl 0 W) 138) = w0 at *
    go_wp2_with (go_at_call 120; refine (mayMove_any _ _).mono ?_; rintro e w2 ⟨rfl, hw⟩; rw [hw]; clear hw w2; rw [hm])
    go_ret2
    exact ⟨rfl, X.out⟩
  · have e1 : ((R : Int) != 0) = true := by simp; omega
    clear h h0
    go_enter Try.func89, Try.ntmps89
    go_wp2_with fail
    go_ret2
    exact ⟨rfl, (Below.refl _ _).alloc (Nat.le_refl _) _⟩
theorem in_bad (h : BlkAt w bb gb rb db m lv) (hd : D.DiskAt w db bm K) (hn : bb ≠ db ∧ bb ≠ bm) (hsec : sec < 18446744073709551616) (hW : W < 18446744073709551616) (hm : mvB W = true) (hE : D.readE K sec W ≠ 0) : Calls Try.prog 89 #[.pointer (some ⟨bb, 0, none⟩), .agg (rqC kd sec a L c ta tl 0 W)] w fun e w' => e = .returned (.tuple #[.slice none 0 0, .int .u8 1]) ∧ D.DiskAt w' db bm (D.askK K) ∧ D.Two db bm w w' := by
  have hb : Below w.heap.size w (w.alloc (.cells (rqC kd sec a L c ta tl 0 W) 138)) := (Below.refl _ _).alloc (Nat.le_refl _) _
  have hx := heap_alloc_new w (.cells (rqC kd sec a L c ta tl 0 W) 138)
  have r1 := cellOf hx 1 _ rfl
  have r5 := cellOf hx 5 _ rfl
  have r6 := cellOf hx 6 _ rfl
  have c2 := cellOf (below_box h hb) 2 (.pointer (some ⟨db, 0, none⟩)) rfl
  have X : Hid (D.DiskAt (w.alloc (.cells (rqC kd sec a L c ta tl 0 W) 138)) db bm K ∧ D.Two db bm w (w.alloc (.cells (rqC kd sec a L c ta tl 0 W) 138))) := ⟨hd.step hb, D.Two.of_below hb⟩
  have HN : Hid (bb ≠ db ∧ bb ≠ bm ∧ w.heap.size ≠ db ∧ w.heap.size ≠ bm) := ⟨hn.1, hn.2, by have := hd.lt; omega, by have := hd.lt; omega⟩
  have HC : Hid (∀ V, D.DiskAt V db bm K → Calls Try.prog 121 #[.pointer (some ⟨db, 0, none⟩), .int .u64 (sec : Int), .int .u64 (W : Int)] V fun e w1 => e = .returned (.tuple #[.slice none 0 0, .int .i64 (D.readE K sec W : Nat)]) ∧ D.DiskAt w1 db bm (D.askK K) ∧ D.Two db bm V w1) := fun V hV => D.read_bad hV sec W hsec hW hE
  have hE1 : endN (D.readE K sec W) = 1 := if_neg hE
  clear hb hx h hd hn hsec hW hE
  go_enter Try.func89, Try.ntmps89
  go_upto_region 1 with fail
  generalize w.alloc (.cells (rqC kd sec a L c ta tl 0 W) 138) = w0 at *
  generalize D.readE K sec W = er at *
  go_upto_region 3 with (go_at_call 120; refine (mayMove_any _ _).mono ?_; rintro e w2 ⟨rfl, hw⟩; rw [hw]; clear hw w2; rw [hm])
  have Xd : Hid (D.DiskAt w0.drew db bm K ∧ D.Two db bm w w0.drew) := ⟨X.out.1.step (Below.drew (Below.refl _ _)), X.out.2.trans (D.Two.of_below (Below.drew (Below.refl _ _)))⟩
  have dc2 : w0.drew.cell? ⟨bb, 2, none⟩ = some (.pointer (some ⟨db, 0, none⟩)) := c2
  have dr1 : w0.drew.cell? ⟨w.heap.size, 1, none⟩ = some (.int .u64 (sec : Int)) := r1
  have dr6 : w0.drew.cell? ⟨w.heap.size, 6, none⟩ = some (.int .u64 (W : Int)) := r6
  clear c2 r1 r5 r6 X
  go_region_held3 (fun Z => Z.cell? ⟨bb, 2, none⟩ = some (.pointer (some ⟨db, 0, none⟩)) ∧ Z.cell? ⟨w.heap.size, 1, none⟩ = some (.int .u64 (sec : Int)) ∧ Z.cell? ⟨w.heap.size, 6, none⟩ = some (.int .u64 (W : Int))) (go_keep) (first | (go_at_call 121; refine (HC.out _ Xd.out.1).mono ?_; rintro e w1 ⟨rfl, h1, t1⟩; have k2 := t1.cell dc2 HN.out.1 HN.out.2.1; have k1 := t1.cell dr1 HN.out.2.2.1 HN.out.2.2.2; have k6 := t1.cell dr6 HN.out.2.2.1 HN.out.2.2.2; have Y : Hid (D.DiskAt w1 db bm (D.askK K) ∧ D.Two db bm w w1) := ⟨h1, Xd.out.2.trans t1⟩; clear h1 t1 dc2 dr1 dr6 HC Xd))
  go_wp2_with (go_at_call 122; refine (endOf_any _ _).mono ?_; rintro e w2 ⟨rfl, hw⟩; rw [hw]; clear hw w2)
  go_ret2
  exact ⟨rfl, Y.out⟩
theorem in_good (h : BlkAt w bb gb rb db m lv) (hd : D.DiskAt w db bm K) (hn : bb ≠ db ∧ bb ≠ bm) (hsec : sec < 18446744073709551616) (hW : W < 18446744073709551616) (hm : mvB W = true) (hE : D.readE K sec W = 0) : Calls Try.prog 89 #[.pointer (some ⟨bb, 0, none⟩), .agg (rqC kd sec a L c ta tl 0 W)] w fun e w' => ∃ g, e = .returned (.tuple #[.slice (some ⟨g, 0, none⟩) W W, .int .u8 0]) ∧ D.RowAt w' g W (fun i => K.M (sec * 512 + i)) ∧ w.heap.size ≤ g ∧ D.DiskAt w' db bm (D.askK K) ∧ D.Two db bm w w' := by
  have hb : Below w.heap.size w (w.alloc (.cells (rqC kd sec a L c ta tl 0 W) 138)) := (Below.refl _ _).alloc (Nat.le_refl _) _
  have hx := heap_alloc_new w (.cells (rqC kd sec a L c ta tl 0 W) 138)
  have r1 := cellOf hx 1 _ rfl
  have r5 := cellOf hx 5 _ rfl
  have r6 := cellOf hx 6 _ rfl
  have c2 := cellOf (below_box h hb) 2 (.pointer (some ⟨db, 0, none⟩)) rfl
  have X : Hid (D.DiskAt (w.alloc (.cells (rqC kd sec a L c ta tl 0 W) 138)) db bm K ∧ D.Two db bm w (w.alloc (.cells (rqC kd sec a L c ta tl 0 W) 138))) := ⟨hd.step hb, D.Two.of_below hb⟩
  have HN : Hid (bb ≠ db ∧ bb ≠ bm ∧ w.heap.size ≠ db ∧ w.heap.size ≠ bm) := ⟨hn.1, hn.2, by have := hd.lt; omega, by have := hd.lt; omega⟩
  have HC : Hid (∀ V, D.DiskAt V db bm K → Calls Try.prog 121 #[.pointer (some ⟨db, 0, none⟩), .int .u64 (sec : Int), .int .u64 (W : Int)] V fun e w1 => ∃ g, e = .returned (.tuple #[.slice (some ⟨g, 0, none⟩) W W, .int .i64 0]) ∧ D.RowAt w1 g W (fun i => K.M (sec * 512 + i)) ∧ V.heap.size ≤ g ∧ D.DiskAt w1 db bm (D.askK K) ∧ D.Two db bm V w1) := fun V hV => D.read_good hV sec W hsec hW hE
  clear hb hx h hd hn hsec hW hE
  go_enter Try.func89, Try.ntmps89
  go_upto_region 1 with fail
  generalize w.alloc (.cells (rqC kd sec a L c ta tl 0 W) 138) = w0 at *
  go_upto_region 3 with (go_at_call 120; refine (mayMove_any _ _).mono ?_; rintro e w2 ⟨rfl, hw⟩; rw [hw]; clear hw w2; rw [hm])
  have Xd : Hid (D.DiskAt w0.drew db bm K ∧ D.Two db bm w w0.drew) := ⟨X.out.1.step (Below.drew (Below.refl _ _)), X.out.2.trans (D.Two.of_below (Below.drew (Below.refl _ _)))⟩
  have dc2 : w0.drew.cell? ⟨bb, 2, none⟩ = some (.pointer (some ⟨db, 0, none⟩)) := c2
  have dr1 : w0.drew.cell? ⟨w.heap.size, 1, none⟩ = some (.int .u64 (sec : Int)) := r1
  have dr6 : w0.drew.cell? ⟨w.heap.size, 6, none⟩ = some (.int .u64 (W : Int)) := r6
  clear c2 r1 r5 r6 X
  go_region_held3 (fun Z => Z.cell? ⟨bb, 2, none⟩ = some (.pointer (some ⟨db, 0, none⟩)) ∧ Z.cell? ⟨w.heap.size, 1, none⟩ = some (.int .u64 (sec : Int)) ∧ Z.cell? ⟨w.heap.size, 6, none⟩ = some (.int .u64 (W : Int))) (go_keep) (first | (go_at_call 121; refine (HC.out _ Xd.out.1).mono ?_; rintro e w1 ⟨g, rfl, hr, hg, h1, t1⟩; have k2 := t1.cell dc2 HN.out.1 HN.out.2.1; have k1 := t1.cell dr1 HN.out.2.2.1 HN.out.2.2.2; have k6 := t1.cell dr6 HN.out.2.2.1 HN.out.2.2.2; have Y : Hid (D.RowAt w1 g W (fun i => K.M (sec * 512 + i)) ∧ w.heap.size ≤ g ∧ D.DiskAt w1 db bm (D.askK K) ∧ D.Two db bm w w1) := ⟨hr, Nat.le_trans Xd.out.2.size hg, h1, Xd.out.2.trans t1⟩; clear hr hg h1 t1 dc2 dr1 dr6 HC Xd))
  go_wp2_with (go_at_call 122; refine (endOf_any 0 _).mono ?_; rintro e w2 ⟨rfl, hw⟩; rw [hw]; clear hw w2)
  go_ret2
  exact ⟨g, rfl, Y.out⟩
theorem out_no (h : ¬ (W = 0 ∧ mvB R = true)) : Calls Try.prog 90 #[.pointer (some ⟨bb, 0, none⟩), .agg (rqC kd sec a L c ta tl R W)] w fun e w' => e = .returned (.int .u8 1) ∧ Below w.heap.size w w' := by
  by_cases h0 : W = 0
  · subst h0
    have hm : mvB R = false := by simpa using h
    clear h
    have hb : Below w.heap.size w (w.alloc (.cells (rqC kd sec a L c ta tl R 0) 138)) := (Below.refl _ _).alloc (Nat.le_refl _) _
    have hx := heap_alloc_new w (.cells (rqC kd sec a L c ta tl R 0) 138)
    have r5 := cellOf hx 5 _ rfl
    have r6 := cellOf hx 6 _ rfl
    have X : Hid (Below w.heap.size w (w.alloc (.cells (rqC kd sec a L c ta tl R 0) 138))) := hb
    clear hb hx
    go_enter Try.func90, Try.ntmps90
    go_upto_region 1 with fail
    generalize w.alloc (.cells (rqC kd sec a L c ta tl R 0) 138) = w0 at *
    go_wp2_with (go_at_call 120; refine (mayMove_any _ _).mono ?_; rintro e w2 ⟨rfl, hw⟩; rw [hw]; clear hw w2; rw [hm])
    go_ret
    exact ⟨rfl, X.out⟩
  · have e1 : ((W : Int) != 0) = true := by simp; omega
    clear h h0
    go_enter Try.func90, Try.ntmps90
    go_wp2_with fail
    go_ret
    exact ⟨rfl, (Below.refl _ _).alloc (Nat.le_refl _) _⟩
theorem out_go (h : BlkAt w bb gb rb db m lv) (hd : D.DiskAt w db bm K) (hn : bb ≠ db ∧ bb ≠ bm) (hsec : sec < 18446744073709551616) (hm : mvB R = true) {gl : List Nat} (hgl : gl.length = R ∧ ∀ i, gl.getD i 0 ≤ 255)
    (hG : ∀ V, Below w.heap.size w V → Calls Try.prog 88 #[.agg #[.slice a L c, .int .u64 (ta : Int), .int .u64 (tl : Int)], .pointer (some ⟨rb, 0, none⟩), .int .u64 16, .int .u64 (R : Int)] V fun e w' => Below V.heap.size V w' ∧ ∃ a' c', e = .returned (.tuple #[.slice a' R c', .bool true]) ∧ w'.ownsRow V.heap.size 5 1 (.slice a' R c') R (row8 gl)) :
    Calls Try.prog 90 #[.pointer (some ⟨bb, 0, none⟩), .agg (rqC kd sec a L c ta tl R 0)] w fun e w' => e = .returned (.int .u8 (endN (D.writeE K sec R) : Int)) ∧ D.DiskAt w' db bm (D.writeK K sec R (fun i => gl.getD i 0)) ∧ D.Two db bm w w' := by
  have hb : Below w.heap.size w (w.alloc (.cells (rqC kd sec a L c ta tl R 0) 138)) := (Below.refl _ _).alloc (Nat.le_refl _) _
  have X0 : Hid ((w.alloc (.cells (rqC kd sec a L c ta tl R 0) 138)).heap[w.heap.size]? = some (.cells (rqC kd sec a L c ta tl R 0) 138 (0, 0)) ∧ BlkAt (w.alloc (.cells (rqC kd sec a L c ta tl R 0) 138)) bb gb rb db m lv ∧ D.DiskAt (w.alloc (.cells (rqC kd sec a L c ta tl R 0) 138)) db bm K ∧ D.Two db bm w (w.alloc (.cells (rqC kd sec a L c ta tl R 0) 138)) ∧ Below w.heap.size w (w.alloc (.cells (rqC kd sec a L c ta tl R 0) 138))) := ⟨heap_alloc_new w _, below_box h hb, hd.step hb, D.Two.of_below hb, hb⟩
  have HN : Hid (bb ≠ db ∧ bb ≠ bm ∧ w.heap.size ≠ db ∧ w.heap.size ≠ bm ∧ db < w.heap.size ∧ bm < w.heap.size) := ⟨hn.1, hn.2, by have := hd.lt; omega, by have := hd.lt; omega, hd.lt⟩
  have HG : Hid (∀ V, Below w.heap.size w V → Calls Try.prog 88 #[.agg #[.slice a L c, .int .u64 (ta : Int), .int .u64 (tl : Int)], .pointer (some ⟨rb, 0, none⟩), .int .u64 16, .int .u64 (R : Int)] V fun e w' => Below V.heap.size V w' ∧ ∃ a' c', e = .returned (.tuple #[.slice a' R c', .bool true]) ∧ w'.ownsRow V.heap.size 5 1 (.slice a' R c') R (row8 gl)) := hG
  have HL : Hid (gl.length = R ∧ (∀ i, gl.getD i 0 ≤ 255) ∧ sec < 18446744073709551616) := ⟨hgl.1, hgl.2, hsec⟩
  clear hb h hd hn hG hgl hsec
  go_enter Try.func90, Try.ntmps90
  go_upto_region 1 with fail
  generalize w.alloc (.cells (rqC kd sec a L c ta tl R 0) 138) = w0 at *
  have r6 := cellOf X0.out.1 6 (.int .u64 0) rfl
  have r5 := cellOf X0.out.1 5 (.int .u64 (R : Int)) rfl
  go_upto_region 3 with (go_at_call 120; refine (mayMove_any _ _).mono ?_; rintro e w2 ⟨rfl, hw⟩; rw [hw]; clear hw w2; rw [hm])
  clear r5 r6
  have Xd : Hid (w0.drew.heap[w.heap.size]? = some (.cells (rqC kd sec a L c ta tl R 0) 138 (0, 0)) ∧ BlkAt w0.drew bb gb rb db m lv ∧ D.DiskAt w0.drew db bm K ∧ D.Two db bm w w0.drew ∧ Below w.heap.size w w0.drew) := ⟨below_box X0.out.1 (Below.drew (Below.refl _ _)), below_box X0.out.2.1 (Below.drew (Below.refl _ _)), X0.out.2.2.1.step (Below.drew (Below.refl _ _)), X0.out.2.2.2.1.trans (D.Two.of_below (Below.drew (Below.refl _ _))), below_to X0.out.2.2.2.2 (Below.drew (Below.refl _ _))⟩
  have d0 := cellOf Xd.out.1 2 (.slice a L c) rfl; have d1 := cellOf Xd.out.1 3 (.int .u64 (ta : Int)) rfl; have d2 := cellOf Xd.out.1 4 (.int .u64 (tl : Int)) rfl; have d3 := cellOf Xd.out.2.1 1 (.pointer (some ⟨rb, 0, none⟩)) rfl; have d4 := cellOf Xd.out.1 5 (.int .u64 (R : Int)) rfl
  go_region_held3 (fun Z => Z.cell? ⟨w.heap.size, 2, none⟩ = some (.slice a L c) ∧ Z.cell? ⟨w.heap.size, 3, none⟩ = some (.int .u64 (ta : Int)) ∧ Z.cell? ⟨w.heap.size, 4, none⟩ = some (.int .u64 (tl : Int)) ∧ Z.cell? ⟨bb, 1, none⟩ = some (.pointer (some ⟨rb, 0, none⟩)) ∧ Z.cell? ⟨w.heap.size, 5, none⟩ = some (.int .u64 (R : Int))) (go_keep) (first | (go_at_call 88; refine (HG.out _ Xd.out.2.2.2.2).mono ?_; rintro e w1 ⟨hb1, a1, c1, rfl, ho⟩; have X1 : Hid ((w1.heap[w.heap.size]? = some (.cells (rqC kd sec a L c ta tl R 0) 138 (0, 0)) ∧ BlkAt w1 bb gb rb db m lv ∧ D.DiskAt w1 db bm K ∧ D.Two db bm w w1 ∧ Below w.heap.size w w1) ∧ w1.ownsRow w0.drew.heap.size 5 1 (.slice a1 R c1) R (row8 gl)) := ⟨⟨below_box Xd.out.1 hb1, below_box Xd.out.2.1 hb1, Xd.out.2.2.1.step hb1, Xd.out.2.2.2.1.trans (D.Two.of_below hb1), below_to Xd.out.2.2.2.2 hb1⟩, ho⟩; clear hb1 ho d0 d1 d2 d3 d4; have d0 := cellOf X1.out.1.1 2 (.slice a L c) rfl; have d1 := cellOf X1.out.1.1 3 (.int .u64 (ta : Int)) rfl; have d2 := cellOf X1.out.1.1 4 (.int .u64 (tl : Int)) rfl; have d3 := cellOf X1.out.1.2.1 1 (.pointer (some ⟨rb, 0, none⟩)) rfl; have d4 := cellOf X1.out.1.1 5 (.int .u64 (R : Int)) rfl))
  clear d0 d1 d2 d3 d4 HG
  go_upto_region 6 with fail
  have Xe : Hid ((w1.drew.heap[w.heap.size]? = some (.cells (rqC kd sec a L c ta tl R 0) 138 (0, 0)) ∧ BlkAt w1.drew bb gb rb db m lv ∧ D.DiskAt w1.drew db bm K ∧ D.Two db bm w w1.drew ∧ Below w.heap.size w w1.drew) ∧ w1.drew.ownsRow w0.drew.heap.size 5 1 (.slice a1 R c1) R (row8 gl)) := ⟨⟨below_box X1.out.1.1 (Below.drew (Below.refl _ _)), below_box X1.out.1.2.1 (Below.drew (Below.refl _ _)), X1.out.1.2.2.1.step (Below.drew (Below.refl _ _)), X1.out.1.2.2.2.1.trans (D.Two.of_below (Below.drew (Below.refl _ _))), below_to X1.out.1.2.2.2.2 (Below.drew (Below.refl _ _))⟩, X1.out.2⟩
  have HC : Hid (Calls Try.prog 123 #[.pointer (some ⟨db, 0, none⟩), .int .u64 (sec : Int), .slice a1 R c1] w1.drew fun e w' => e = .returned (.int .i64 (D.writeE K sec R : Nat)) ∧ D.DiskAt w' db bm (D.writeK K sec R (fun i => gl.getD i 0)) ∧ D.Two db bm w1.drew w') := D.write_any Xe.out.1.2.2.1 sec R _ _ HL.out.2.2 (readsF_own Xe.out.2 HL.out.1 (fun g hg => by have h1 := Xd.out.2.2.1.lt; omega)) HL.out.2.1
  have k0 := cellOf Xe.out.1.2.1 2 (.pointer (some ⟨db, 0, none⟩)) rfl; have k1 := cellOf Xe.out.1.1 1 (.int .u64 (sec : Int)) rfl
  clear X1 X0 Xd
  go_region_held3 (fun Z => Z.cell? ⟨bb, 2, none⟩ = some (.pointer (some ⟨db, 0, none⟩)) ∧ Z.cell? ⟨w.heap.size, 1, none⟩ = some (.int .u64 (sec : Int))) (go_keep) (first | (go_at_call 123; refine (HC.out).mono ?_; rintro e w3 ⟨rfl, h1, t1⟩; have j0 := t1.cell k0 HN.out.1 HN.out.2.1; have j1 := t1.cell k1 HN.out.2.2.1 HN.out.2.2.2.1; have Y : Hid (D.DiskAt w3 db bm (D.writeK K sec R (fun i => gl.getD i 0)) ∧ D.Two db bm w w3) := ⟨h1, Xe.out.1.2.2.2.1.trans t1⟩; clear h1 t1 k0 k1 HC Xe) | (go_at_call 122; refine (endOf_any _ _).mono ?_; rintro e w2 ⟨rfl, hw⟩; rw [hw]; clear hw w2))
  go_wp2_with fail
  go_ret
  exact ⟨rfl, Y.out⟩
end
end Go.Proofs.Ytlkhjekakbckmaa

/- Layer 19: a request's beginning. -/
namespace Go.Proofs.Ytlkhjekakbckmaa
open Go.RowKit Go.Maps
set_option linter.unusedVariables false
set_option linter.unusedSimpArgs false
set_option maxRecDepth 100000
theorem h256_4 {f : Nat → Nat} (hf : ∀ i, f i ≤ 255) : h256 f 4 0 < 4294967296 := h256_lt f 4 0 (fun j _ => hf _)
theorem h256_8 {f : Nat → Nat} (hf : ∀ i, f i ≤ 255) : h256 f 8 0 < 18446744073709551616 := h256_lt f 8 0 (fun j _ => hf _)
theorem info58 (x y : Value) : (Try.prog.info? 58).map (·.size) = some (#[x, y] : Array Value).size := by kernel_rfl
theorem load58 {w : World} {b : Nat} {x y : Value} (h : w.heap[b]? = some (.cells #[x, y] 58 (0, 0))) : (loadVar 58 ⟨b, 0, none⟩).run Try.prog w = .ok (.agg #[x, y]) w := run_loadVar_row w b 58 58 _ (0, 0) _ h Try.underlying58 rfl (info58 x y)
theorem results_ct58 {fn : Func} {p t : Tmp} (h : fn.results = #[.cell p 58, .tmp t]) (tmps : Array Value) (w : World) (b : Nat) (x y : Value) (hp : tmps.getD p undef = .pointer (some ⟨b, 0, none⟩)) (h1 : w.heap[b]? = some (.cells #[x, y] 58 (0, 0))) : (results fn tmps).run Try.prog w = .ok (.tuple #[.agg #[x, y], tmps.getD t undef]) w := by
  have hp' : tmps[p]?.getD undef = .pointer (some ⟨b, 0, none⟩) := by simpa using hp
  simp [results, h, hp', asAddr, load58 h1]
theorem parse_few {w : World} {a : Option Addr} {n cap : Nat} (h : n < 16) : Calls Try.prog 26 #[.slice a n cap] w fun e w' => e = .returned (.tuple #[.agg #[.int .u32 0, .int .u64 0], .bool false]) ∧ Below w.heap.size w w' := by
  have e1 : decide ((n : Int) < 16) = true := decide_eq_true (by omega)
  have X : Hid ((w.alloc (Obj.cells #[Value.int IntKind.u32 0, Value.int IntKind.u64 0] 58)).heap[w.heap.size]? = some (.cells #[Value.int IntKind.u32 0, Value.int IntKind.u64 0] 58 (0, 0)) ∧ Below w.heap.size w (w.alloc (Obj.cells #[Value.int IntKind.u32 0, Value.int IntKind.u64 0] 58))) := ⟨heap_alloc_new w _, (Below.refl _ _).alloc (Nat.le_refl _) _⟩
  clear h
  go_enter Try.func26, Try.ntmps26
  go_wp2_with fail
  exact bodyPost_ret (v := .tuple #[.agg #[.int .u32 0, .int .u64 0], .bool false]) (results_ct58 (p := 2) (t := 3) Try.results26 _ _ w.heap.size _ _ rfl X.out.1) rfl ⟨rfl, X.out.2⟩
theorem run_s4 {b off n c : Nat} (h : 16 ≤ c) (w : World) : (Instr.sliceAt 22 (.slice (some ⟨b, off, none⟩) n c) none (some (.int .i64 4)) none).run Try.prog w = .ok (.slice (some ⟨b, off, none⟩) 4 c) w := by
  have hsz : (sizeOf 5).run Try.prog w = .ok 1 w := by kernel_rfl
  have hb : (4 : Int) ≤ (c : Int) := by omega
  have hb2 : 4 ≤ c := by omega
  have hc : ¬ c = 0 := by omega
  have ha : (⟨b, off, none⟩ : Addr).add 0 = ⟨b, off, none⟩ := by unfold Addr.add; split <;> simp_all
  simp [Instr.sliceAt, Instr.slice, run_underlying Try.underlying22, Instr.sliceBounds, Instr.sliceBound, asIntOf, hsz, hb, hb2, hc, ha]
theorem run_s8 {b off n c : Nat} (h : 16 ≤ c) (w : World) : (Instr.sliceAt 22 (.slice (some ⟨b, off, none⟩) n c) (some (.int .i64 8)) (some (.int .i64 16)) none).run Try.prog w = .ok (.slice (some ⟨b, off + 8, none⟩) 8 (c - 8)) w := by
  have hsz : (sizeOf 5).run Try.prog w = .ok 1 w := by kernel_rfl
  have hb : (16 : Int) ≤ (c : Int) := by omega
  have hc : ¬ c = 8 := by omega
  have ha : (⟨b, off, none⟩ : Addr).add 8 = ⟨b, off + 8, none⟩ := by unfold Addr.add; split <;> simp_all
  simp [Instr.sliceAt, Instr.slice, run_underlying Try.underlying22, Instr.sliceBounds, Instr.sliceBound, asIntOf, hsz, hb, h, hc, ha]
set_option maxHeartbeats 1000000 in
theorem parse_any {w : World} {b off n cap : Nat} {f : Nat → Nat} (hc : ∀ i, i < n → w.cell? ⟨b, off + i, none⟩ = some (.int .u8 (f i : Nat))) (hn : 16 ≤ n) (hcap : n ≤ cap) (hf : ∀ i, f i ≤ 255) (hb : b < w.heap.size) :
    Calls Try.prog 26 #[.slice (some ⟨b, off, none⟩) n cap] w fun e w' => e = .returned (.tuple #[.agg #[.int .u32 (h256 f 4 0 : Nat), .int .u64 (h256 (fun i => f (8 + i)) 8 0 : Nat)], .bool true]) ∧ Below w.heap.size w w' := by
  have e1 : decide ((n : Int) < 16) = false := decide_eq_false (by omega)
  have HA : Hid (∀ V, Below w.heap.size w V → Calls Try.prog 59 #[.slice (some ⟨b, off, none⟩) 4 cap] V fun e w' => e = .returned (.int .u64 (h256 f 4 0 : Nat)) ∧ w' = V) := fun V hV => of_any f 4 4 _ (by decide) rfl (fun i _ => hf i) V (.inr ⟨b, off, cap, rfl, fun i hi => (hV.cell hb).trans (hc i (by omega))⟩)
  have HB : Hid (∀ V, Below w.heap.size w V → Calls Try.prog 59 #[.slice (some ⟨b, off + 8, none⟩) 8 (cap - 8)] V fun e w' => e = .returned (.int .u64 (h256 (fun i => f (8 + i)) 8 0 : Nat)) ∧ w' = V) := fun V hV => of_any (fun i => f (8 + i)) 8 8 _ (by decide) rfl (fun i _ => hf _) V (.inr ⟨b, off + 8, cap - 8, rfl, fun i hi => by rw [Nat.add_assoc]; exact (hV.cell hb).trans (hc (8 + i) (by omega))⟩)
  have e4 : IntKind.u32.wrap ((h256 f 4 0 : Nat) : Int) = ((h256 f 4 0 : Nat) : Int) := by have := h256_4 hf; simp [IntKind.wrap, IntKind.signed, IntKind.bits]; omega
  have HC : Hid (16 ≤ cap) := by show 16 ≤ cap; omega
  have X : Hid (((w.alloc (Obj.cells #[Value.int IntKind.u32 0, Value.int IntKind.u64 0] 58)).heap[w.heap.size]? = some (.cells #[Value.int IntKind.u32 0, Value.int IntKind.u64 0] 58 (0, 0))) ∧ Below w.heap.size w (w.alloc (Obj.cells #[Value.int IntKind.u32 0, Value.int IntKind.u64 0] 58))) := ⟨heap_alloc_new w _, (Below.refl _ _).alloc (Nat.le_refl _) _⟩
  clear hc hn hcap hf hb
  generalize h256 f 4 0 = k at *
  generalize h256 (fun i => f (8 + i)) 8 0 = s at *
  go_enter Try.func26, Try.ntmps26
  go_upto_region 3 with fail
  generalize w.alloc (Obj.cells #[Value.int IntKind.u32 0, Value.int IntKind.u64 0] 58) = w0 at *
  refine wp_region_held_drew (S := fun _ => True) (by kernel_rfl) trivial ?_
  intro hS
  have Xd : Hid (w0.drew.heap[w.heap.size]? = some (.cells #[Value.int IntKind.u32 0, Value.int IntKind.u64 0] 58 (0, 0)) ∧ Below w.heap.size w w0.drew) := ⟨X.out.1, Below.drew X.out.2⟩
  clear X
  generalize w0.drew = wd at *
  refine wpAnyH_take (i := 0) (v := ?_) rfl (by kernel_rfl) (by kernel_rfl) (by kernel_rfl) (fun _ _ _ h => h) (Or.inl ⟨by kernel_rfl, ?_⟩) hS ?_
  rotate_left
  · intro w hSw; (try dsimp only at hSw); go_simp; try (with_reducible rfl)
  (try simp only [Act.put, List.getElem_toArray, List.getElem_cons_succ, List.getElem_cons_zero, List.setIfInBounds_toArray, List.set_cons_zero, List.set_cons_succ])
  refine wpAnyH_take (i := 1) (v := .slice (some ⟨b, off, none⟩) 4 cap) rfl (by kernel_rfl) (by kernel_rfl) (by kernel_rfl) (fun _ _ _ h => h) (Or.inl ⟨by kernel_rfl, by intro V _; have h := run_s4 (b := b) (off := off) (n := n) HC.out V; simp [execOp, Act.eval, h, Result.andThen]⟩) hS ?_
  (try simp only [Act.put, List.getElem_toArray, List.getElem_cons_succ, List.getElem_cons_zero, List.setIfInBounds_toArray, List.set_cons_zero, List.set_cons_succ])
  refine wpAnyH_take (i := 4) (v := ?_) rfl (by kernel_rfl) (by kernel_rfl) (by kernel_rfl) (fun _ _ _ h => h) (Or.inl ⟨by kernel_rfl, ?_⟩) hS ?_
  rotate_left
  · intro w hSw; (try dsimp only at hSw); go_simp; try (with_reducible rfl)
  (try simp only [Act.put, List.getElem_toArray, List.getElem_cons_succ, List.getElem_cons_zero, List.setIfInBounds_toArray, List.set_cons_zero, List.set_cons_succ])
  refine wpAnyH_take (i := 5) (v := .slice (some ⟨b, off + 8, none⟩) 8 (cap - 8)) rfl (by kernel_rfl) (by kernel_rfl) (by kernel_rfl) (fun _ _ _ h => h) (Or.inl ⟨by kernel_rfl, by intro V _; have h := run_s8 (b := b) (off := off) (n := n) HC.out V; simp [execOp, Act.eval, h, Result.andThen]⟩) hS ?_
  (try simp only [Act.put, List.getElem_toArray, List.getElem_cons_succ, List.getElem_cons_zero, List.setIfInBounds_toArray, List.set_cons_zero, List.set_cons_succ])
  refine wpAnyH_ready (rs := [2]) (by kernel_rfl) (by simp) ?_
  refine AllReadyH.cons rfl (fun K1 hK1 => ?_) AllReadyH.nil
  rw [if_pos (by kernel_rfl)]
  go_simp
  refine (HA.out wd Xd.out.2).mono ?_
  rintro e w2 ⟨rfl, hw⟩
  rw [hw]
  clear hw w2
  refine hK1 _ _ trivial (fun hS2 => ?_)
  clear hK1 K1 hS
  (try simp only [Act.put, List.getElem_toArray, List.getElem_cons_succ, List.getElem_cons_zero, List.setIfInBounds_toArray, List.set_cons_zero, List.set_cons_succ])
  refine wpAnyH_take (i := 3) (v := ?_) rfl (by kernel_rfl) (by kernel_rfl) (by kernel_rfl) (fun _ _ _ h => h) (Or.inl ⟨by kernel_rfl, ?_⟩) hS2 ?_
  rotate_left
  · intro w hSw; (try dsimp only at hSw); go_simp; try (with_reducible rfl)
  (try simp only [Act.put, List.getElem_toArray, List.getElem_cons_succ, List.getElem_cons_zero, List.setIfInBounds_toArray, List.set_cons_zero, List.set_cons_succ])
  refine wpAnyH_ready (rs := [6]) (by kernel_rfl) (by simp) ?_
  refine AllReadyH.cons rfl (fun K1 hK1 => ?_) AllReadyH.nil
  rw [if_pos (by kernel_rfl)]
  go_simp
  refine (HB.out wd Xd.out.2).mono ?_
  rintro e w2 ⟨rfl, hw⟩
  rw [hw]
  clear hw w2
  refine hK1 _ _ trivial (fun hS3 => ?_)
  clear hK1 K1 hS2
  (try simp only [Act.put, List.getElem_toArray, List.getElem_cons_succ, List.getElem_cons_zero, List.setIfInBounds_toArray, List.set_cons_zero, List.set_cons_succ])
  refine wpAnyH_take (i := 7) (v := ?_) rfl (by kernel_rfl) (by kernel_rfl) (by kernel_rfl) (fun _ _ _ h => h) (Or.inl ⟨by kernel_rfl, ?_⟩) hS3 ?_
  rotate_left
  · intro w hSw; (try dsimp only at hSw); go_simp; try (with_reducible rfl)
  (try simp only [Act.put, List.getElem_toArray, List.getElem_cons_succ, List.getElem_cons_zero, List.setIfInBounds_toArray, List.set_cons_zero, List.set_cons_succ])
  refine wpAnyH_ready (rs := [8]) (by kernel_rfl) (by simp) ?_
  refine AllReadyH.cons rfl (fun K1 hK1 => ?_) AllReadyH.nil
  rw [if_pos (by kernel_rfl)]
  refine wp_store_row 58 _ _ rfl w.heap.size #[.int .u32 (k : Int), .int .u64 (s : Int)] rfl rfl 58 #[Value.int IntKind.u32 0, Value.int IntKind.u64 0] Xd.out.1 (info58 _ _) rfl (by simp [Value.oneCell']) ?_
  have Y : Hid ((wd.setRow w.heap.size #[.int .u32 (k : Int), .int .u64 (s : Int)]).heap[w.heap.size]? = some (.cells #[.int .u32 (k : Int), .int .u64 (s : Int)] 58 (0, 0)) ∧ Below w.heap.size w (wd.setRow w.heap.size #[.int .u32 (k : Int), .int .u64 (s : Int)])) := ⟨setRow_heap _ _ _ _ _ _ Xd.out.1, below_setRow Xd.out.2 (Nat.le_refl _) _⟩
  clear Xd
  refine hK1 _ _ trivial (fun hS4 => ?_)
  clear hK1 K1 hS3
  (try simp only [Act.put, List.getElem_toArray, List.getElem_cons_succ, List.getElem_cons_zero, List.setIfInBounds_toArray, List.set_cons_zero, List.set_cons_succ])
  generalize wd.setRow w.heap.size #[.int .u32 (k : Int), .int .u64 (s : Int)] = w5 at *
  refine wpAnyH_take (i := 9) (v := ?_) rfl (by kernel_rfl) (by kernel_rfl) (by kernel_rfl) (fun _ _ _ h => h) (Or.inl ⟨by kernel_rfl, ?_⟩) hS4 ?_
  rotate_left
  · intro w hSw; (try dsimp only at hSw); go_simp; try (with_reducible rfl)
  (try simp only [Act.put, List.getElem_toArray, List.getElem_cons_succ, List.getElem_cons_zero, List.setIfInBounds_toArray, List.set_cons_zero, List.set_cons_succ])
  refine wpAnyH_done (by kernel_rfl) ?_ _
  go_wp2_with fail
  exact bodyPost_ret (v := .tuple #[.agg #[.int .u32 (k : Int), .int .u64 (s : Int)], .bool true]) (results_ct58 (p := 2) (t := 3) Try.results26 _ _ w.heap.size _ _ rfl Y.out.1) rfl ⟨rfl, Y.out.2⟩
end Go.Proofs.Ytlkhjekakbckmaa

/- Layer 19: what a request does; which request a chain is. -/
namespace Go.Proofs.Ytlkhjekakbckmaa
open Go.RowKit Go.Maps
set_option linter.unusedVariables false
set_option linter.unusedSimpArgs false
set_option maxRecDepth 100000
section
variable {w : World} {bb kd sec L c ta tl R W : Nat} {a : Option Addr}
theorem do_0 {P : Value → Int → World → Prop} (hC : ∀ V, Below w.heap.size w V → Calls Try.prog 89 #[.pointer (some ⟨bb, 0, none⟩), .agg (rqC 0 sec a L c ta tl R W)] V fun e w' => ∃ v st, e = .returned (.tuple #[v, .int .u8 st]) ∧ P v st w') :
    Calls Try.prog 52 #[.pointer (some ⟨bb, 0, none⟩), .agg (rqC 0 sec a L c ta tl R W)] w fun e w' => ∃ v st, e = .returned (.tuple #[v, .int .u8 st]) ∧ P v st w' := by
  have hb : Below w.heap.size w (w.alloc (.cells (rqC 0 sec a L c ta tl R W) 138)) := (Below.refl _ _).alloc (Nat.le_refl _) _
  have hx := heap_alloc_new w (.cells (rqC 0 sec a L c ta tl R W) 138)
  have r0 := cellOf hx 0 _ rfl
  have r1 := cellOf hx 1 _ rfl
  have r2 := cellOf hx 2 _ rfl
  have r3 := cellOf hx 3 _ rfl
  have r4 := cellOf hx 4 _ rfl
  have r5 := cellOf hx 5 _ rfl
  have r6 := cellOf hx 6 _ rfl
  have X : Hid (Below w.heap.size w (w.alloc (.cells (rqC 0 sec a L c ta tl R W) 138))) := hb
  have HC : Hid (∀ V, Below w.heap.size w V → Calls Try.prog 89 #[.pointer (some ⟨bb, 0, none⟩), .agg (rqC 0 sec a L c ta tl R W)] V fun e w' => ∃ v st, e = .returned (.tuple #[v, .int .u8 st]) ∧ P v st w') := hC
  clear hb hx hC
  go_enter Try.func52, Try.ntmps52
  go_upto_region 1 with fail
  generalize w.alloc (.cells (rqC 0 sec a L c ta tl R W) 138) = w0 at *
  go_wp2_with (go_at_call 89; refine (HC.out _ X.out).mono ?_; rintro e w1 ⟨v, st, rfl, hP⟩; have Y : Hid (P v st w1) := hP; clear hP HC X r0 r1 r2 r3 r4 r5 r6)
  go_ret2
  exact ⟨_, _, rfl, Y.out⟩
theorem do_1 {P : Value → Int → World → Prop} (hC : ∀ V, Below w.heap.size w V → Calls Try.prog 90 #[.pointer (some ⟨bb, 0, none⟩), .agg (rqC 1 sec a L c ta tl R W)] V fun e w' => ∃ st, e = .returned (.int .u8 st) ∧ P (.slice none 0 0) st w') :
    Calls Try.prog 52 #[.pointer (some ⟨bb, 0, none⟩), .agg (rqC 1 sec a L c ta tl R W)] w fun e w' => ∃ v st, e = .returned (.tuple #[v, .int .u8 st]) ∧ P v st w' := by
  have hb : Below w.heap.size w (w.alloc (.cells (rqC 1 sec a L c ta tl R W) 138)) := (Below.refl _ _).alloc (Nat.le_refl _) _
  have hx := heap_alloc_new w (.cells (rqC 1 sec a L c ta tl R W) 138)
  have r0 := cellOf hx 0 _ rfl
  have r1 := cellOf hx 1 _ rfl
  have r2 := cellOf hx 2 _ rfl
  have r3 := cellOf hx 3 _ rfl
  have r4 := cellOf hx 4 _ rfl
  have r5 := cellOf hx 5 _ rfl
  have r6 := cellOf hx 6 _ rfl
  have X : Hid (Below w.heap.size w (w.alloc (.cells (rqC 1 sec a L c ta tl R W) 138))) := hb
  have HC : Hid (∀ V, Below w.heap.size w V → Calls Try.prog 90 #[.pointer (some ⟨bb, 0, none⟩), .agg (rqC 1 sec a L c ta tl R W)] V fun e w' => ∃ st, e = .returned (.int .u8 st) ∧ P (.slice none 0 0) st w') := hC
  clear hb hx hC
  go_enter Try.func52, Try.ntmps52
  go_upto_region 1 with fail
  generalize w.alloc (.cells (rqC 1 sec a L c ta tl R W) 138) = w0 at *
  go_wp2_with (go_at_call 90; refine (HC.out _ X.out).mono ?_; rintro e w1 ⟨st, rfl, hP⟩; have Y : Hid (P (.slice none 0 0) st w1) := hP; clear hP HC X r0 r1 r2 r3 r4 r5 r6)
  go_ret2
  exact ⟨_, _, rfl, Y.out⟩
theorem do_4 {P : Value → Int → World → Prop} (hC : ∀ V, Below w.heap.size w V → Calls Try.prog 91 #[.pointer (some ⟨bb, 0, none⟩), .agg (rqC 4 sec a L c ta tl R W)] V fun e w' => ∃ st, e = .returned (.int .u8 st) ∧ P (.slice none 0 0) st w') :
    Calls Try.prog 52 #[.pointer (some ⟨bb, 0, none⟩), .agg (rqC 4 sec a L c ta tl R W)] w fun e w' => ∃ v st, e = .returned (.tuple #[v, .int .u8 st]) ∧ P v st w' := by
  have hb : Below w.heap.size w (w.alloc (.cells (rqC 4 sec a L c ta tl R W) 138)) := (Below.refl _ _).alloc (Nat.le_refl _) _
  have hx := heap_alloc_new w (.cells (rqC 4 sec a L c ta tl R W) 138)
  have r0 := cellOf hx 0 _ rfl
  have r1 := cellOf hx 1 _ rfl
  have r2 := cellOf hx 2 _ rfl
  have r3 := cellOf hx 3 _ rfl
  have r4 := cellOf hx 4 _ rfl
  have r5 := cellOf hx 5 _ rfl
  have r6 := cellOf hx 6 _ rfl
  have X : Hid (Below w.heap.size w (w.alloc (.cells (rqC 4 sec a L c ta tl R W) 138))) := hb
  have HC : Hid (∀ V, Below w.heap.size w V → Calls Try.prog 91 #[.pointer (some ⟨bb, 0, none⟩), .agg (rqC 4 sec a L c ta tl R W)] V fun e w' => ∃ st, e = .returned (.int .u8 st) ∧ P (.slice none 0 0) st w') := hC
  clear hb hx hC
  go_enter Try.func52, Try.ntmps52
  go_upto_region 1 with fail
  generalize w.alloc (.cells (rqC 4 sec a L c ta tl R W) 138) = w0 at *
  go_wp2_with (go_at_call 91; refine (HC.out _ X.out).mono ?_; rintro e w1 ⟨st, rfl, hP⟩; have Y : Hid (P (.slice none 0 0) st w1) := hP; clear hP HC X r0 r1 r2 r3 r4 r5 r6)
  go_ret2
  exact ⟨_, _, rfl, Y.out⟩
theorem do_8 {P : Value → Int → World → Prop} (hC : ∀ V, Below w.heap.size w V → Calls Try.prog 92 #[.pointer (some ⟨bb, 0, none⟩), .agg (rqC 8 sec a L c ta tl R W)] V fun e w' => ∃ v st, e = .returned (.tuple #[v, .int .u8 st]) ∧ P v st w') :
    Calls Try.prog 52 #[.pointer (some ⟨bb, 0, none⟩), .agg (rqC 8 sec a L c ta tl R W)] w fun e w' => ∃ v st, e = .returned (.tuple #[v, .int .u8 st]) ∧ P v st w' := by
  have hb : Below w.heap.size w (w.alloc (.cells (rqC 8 sec a L c ta tl R W) 138)) := (Below.refl _ _).alloc (Nat.le_refl _) _
  have hx := heap_alloc_new w (.cells (rqC 8 sec a L c ta tl R W) 138)
  have r0 := cellOf hx 0 _ rfl
  have r1 := cellOf hx 1 _ rfl
  have r2 := cellOf hx 2 _ rfl
  have r3 := cellOf hx 3 _ rfl
  have r4 := cellOf hx 4 _ rfl
  have r5 := cellOf hx 5 _ rfl
  have r6 := cellOf hx 6 _ rfl
  have X : Hid (Below w.heap.size w (w.alloc (.cells (rqC 8 sec a L c ta tl R W) 138))) := hb
  have HC : Hid (∀ V, Below w.heap.size w V → Calls Try.prog 92 #[.pointer (some ⟨bb, 0, none⟩), .agg (rqC 8 sec a L c ta tl R W)] V fun e w' => ∃ v st, e = .returned (.tuple #[v, .int .u8 st]) ∧ P v st w') := hC
  clear hb hx hC
  go_enter Try.func52, Try.ntmps52
  go_upto_region 1 with fail
  generalize w.alloc (.cells (rqC 8 sec a L c ta tl R W) 138) = w0 at *
  go_wp2_with (go_at_call 92; refine (HC.out _ X.out).mono ?_; rintro e w1 ⟨v, st, rfl, hP⟩; have Y : Hid (P v st w1) := hP; clear hP HC X r0 r1 r2 r3 r4 r5 r6)
  go_ret2
  exact ⟨_, _, rfl, Y.out⟩
theorem do_none (h0 : kd ≠ 0) (h1 : kd ≠ 1) (h4 : kd ≠ 4) (h8 : kd ≠ 8) : Calls Try.prog 52 #[.pointer (some ⟨bb, 0, none⟩), .agg (rqC kd sec a L c ta tl R W)] w fun e w' => e = .returned (.tuple #[.slice none 0 0, .int .u8 2]) ∧ Below w.heap.size w w' := by
  have hb : Below w.heap.size w (w.alloc (.cells (rqC kd sec a L c ta tl R W) 138)) := (Below.refl _ _).alloc (Nat.le_refl _) _
  have hx := heap_alloc_new w (.cells (rqC kd sec a L c ta tl R W) 138)
  have r0 := cellOf hx 0 _ rfl
  have X : Hid (Below w.heap.size w (w.alloc (.cells (rqC kd sec a L c ta tl R W) 138))) := hb
  have e0 : ((kd : Int) == 0) = false := by simp; omega
  have e1 : ((kd : Int) == 1) = false := by simp; omega
  have e4 : ((kd : Int) == 4) = false := by simp; omega
  have e8 : ((kd : Int) == 8) = false := by simp; omega
  clear hb hx h0 h1 h4 h8
  go_enter Try.func52, Try.ntmps52
  go_upto_region 1 with fail
  generalize w.alloc (.cells (rqC kd sec a L c ta tl R W) 138) = w0 at *
  go_wp2_with fail
  go_ret2
  exact ⟨rfl, X.out⟩
end
theorem info138 (x0 x1 x2 x3 x4 x5 x6 : Value) : (Try.prog.info? 138).map (·.size) = some (#[x0, x1, x2, x3, x4, x5, x6] : Array Value).size := by kernel_rfl
theorem load138 {w : World} {b : Nat} {x0 x1 x2 x3 x4 x5 x6 : Value} (h : w.heap[b]? = some (.cells #[x0, x1, x2, x3, x4, x5, x6] 138 (0, 0))) : (loadVar 138 ⟨b, 0, none⟩).run Try.prog w = .ok (.agg #[x0, x1, x2, x3, x4, x5, x6]) w := run_loadVar_row w b 138 138 _ (0, 0) _ h Try.underlying138 rfl (info138 _ _ _ _ _ _ _)
theorem results_ct138 {fn : Func} {p t : Tmp} (h : fn.results = #[.cell p 138, .tmp t]) (tmps : Array Value) (w : World) (b : Nat) (x0 x1 x2 x3 x4 x5 x6 : Value) (hp : tmps.getD p undef = .pointer (some ⟨b, 0, none⟩)) (h1 : w.heap[b]? = some (.cells #[x0, x1, x2, x3, x4, x5, x6] 138 (0, 0))) : (results fn tmps).run Try.prog w = .ok (.tuple #[.agg #[x0, x1, x2, x3, x4, x5, x6], tmps.getD t undef]) w := by
  have hp' : tmps[p]?.getD undef = .pointer (some ⟨b, 0, none⟩) := by simpa using hp
  simp [results, h, hp', asAddr, load138 h1]
section
variable {sz : Nat} {w : World} {bb gb rb db kk L c ta tl rs ws : Nat} {a : Option Addr} {m : Nat → Nat} {lv : Value} {F : Nat → Prop} {M : Nat → Nat} {l : List Seg}
set_option maxHeartbeats 1000000 in
theorem request_no (hs : SegIn 0 w (.slice a L c) l) (hl : l.length ≤ 1000) (hok : ∀ s ∈ l, SegOk sz s) (hr : sizeN false l = rs) (hw : sizeN true l = ws) (hno : rs < 16 ∨ ws < 1) : Calls Try.prog 51 #[.pointer (some ⟨bb, 0, none⟩), .agg #[.slice a L c, .int .u64 (ta : Int), .int .u64 (tl : Int)]] w fun e w' => e = .returned (.tuple #[.agg #[.int .u32 0, .int .u64 0, .slice none 0 0, .int .u64 0, .int .u64 0, .int .u64 0, .int .u64 0], .bool false]) ∧ Below w.heap.size w w' := by
  have hb1 : Below w.heap.size w (w.alloc (.cells #[.slice a L c, .int .u64 (ta : Int), .int .u64 (tl : Int)] 44)) := (Below.refl _ _).alloc (Nat.le_refl _) _
  have hb2 : Below (w.alloc (.cells #[.slice a L c, .int .u64 (ta : Int), .int .u64 (tl : Int)] 44)).heap.size (w.alloc (.cells #[.slice a L c, .int .u64 (ta : Int), .int .u64 (tl : Int)] 44)) ((w.alloc (.cells #[.slice a L c, .int .u64 (ta : Int), .int .u64 (tl : Int)] 44)).alloc (.cells #[.int .u32 0, .int .u64 0, .slice none 0 0, .int .u64 0, .int .u64 0, .int .u64 0, .int .u64 0] 138)) := (Below.refl _ _).alloc (Nat.le_refl _) _
  have hq : (w.alloc (.cells #[.slice a L c, .int .u64 (ta : Int), .int .u64 (tl : Int)] 44)).heap.size = w.heap.size + 1 := by simp
  have hx2 := heap_alloc_new (w.alloc (.cells #[.slice a L c, .int .u64 (ta : Int), .int .u64 (tl : Int)] 44)) (.cells #[.int .u32 0, .int .u64 0, .slice none 0 0, .int .u64 0, .int .u64 0, .int .u64 0, .int .u64 0] 138)
  rw [hq] at hx2
  have X : Hid (((w.alloc (.cells #[.slice a L c, .int .u64 (ta : Int), .int .u64 (tl : Int)] 44)).alloc (.cells #[.int .u32 0, .int .u64 0, .slice none 0 0, .int .u64 0, .int .u64 0, .int .u64 0, .int .u64 0] 138)).heap[w.heap.size]? = some (.cells #[.slice a L c, .int .u64 (ta : Int), .int .u64 (tl : Int)] 44 (0, 0)) ∧ ((w.alloc (.cells #[.slice a L c, .int .u64 (ta : Int), .int .u64 (tl : Int)] 44)).alloc (.cells #[.int .u32 0, .int .u64 0, .slice none 0 0, .int .u64 0, .int .u64 0, .int .u64 0, .int .u64 0] 138)).heap[w.heap.size + 1]? = some (.cells #[.int .u32 0, .int .u64 0, .slice none 0 0, .int .u64 0, .int .u64 0, .int .u64 0, .int .u64 0] 138 (0, 0)) ∧ Below w.heap.size w ((w.alloc (.cells #[.slice a L c, .int .u64 (ta : Int), .int .u64 (tl : Int)] 44)).alloc (.cells #[.int .u32 0, .int .u64 0, .slice none 0 0, .int .u64 0, .int .u64 0, .int .u64 0, .int .u64 0] 138))) := ⟨below_box (heap_alloc_new w _) hb2, hx2, below_to hb1 hb2⟩
  have HS : Hid (∀ V, Below w.heap.size w V → Calls Try.prog 87 #[.agg #[.slice a L c, .int .u64 (ta : Int), .int .u64 (tl : Int)]] V fun e w' => e = .returned (.tuple #[.int .u64 (rs : Int), .int .u64 (ws : Int)]) ∧ Below V.heap.size V w') := fun V hV => by rw [← hr, ← hw]; exact psizes_any (hs.kept (fun g hg => hV.block g (hs.lt g hg).2)) hl hok ta tl
  have HN : Hid (rs < 16 ∨ ws < 1) := hno
  clear hb1 hb2 hq hx2 hs hl hok hr hw hno
  go_enter Try.func51, Try.ntmps51
  go_upto_region 1 with fail
  generalize (w.alloc (.cells #[.slice a L c, .int .u64 (ta : Int), .int .u64 (tl : Int)] 44)).alloc (.cells #[.int .u32 0, .int .u64 0, .slice none 0 0, .int .u64 0, .int .u64 0, .int .u64 0, .int .u64 0] 138) = w0 at *
  obtain ⟨p0, p1, p2⟩ := box3_facts X.out.1
  go_upto_region 2 with (go_at_call 87; refine (HS.out _ X.out.2.2).mono ?_; rintro e w1 ⟨rfl, hb⟩; have X1 : Hid (w1.heap[w.heap.size + 1]? = some (.cells #[.int .u32 0, .int .u64 0, .slice none 0 0, .int .u64 0, .int .u64 0, .int .u64 0, .int .u64 0] 138 (0, 0)) ∧ Below w.heap.size w w1) := ⟨below_box X.out.2.1 hb, below_to X.out.2.2 hb⟩; clear hb X p0 p1 p2 HS)
  by_cases h16 : rs < 16
  · have d1 : decide ((rs : Int) < 16) = true := decide_eq_true (by omega)
    clear h16 HN
    go_upto_region 3 with fail
    refine wp_region_list ?_
    (refine wpList_step (fun KK hKK => ?_); go_simp; refine hKK _ _ ?_; clear hKK KK)
    refine wpList_store_row rfl 138 _ _ rfl (w.heap.size + 1) #[.int .u32 0, .int .u64 0, .slice none 0 0, .int .u64 0, .int .u64 0, .int .u64 0, .int .u64 0] rfl rfl 138 #[.int .u32 0, .int .u64 0, .slice none 0 0, .int .u64 0, .int .u64 0, .int .u64 0, .int .u64 0] X1.out.1 (info138 _ _ _ _ _ _ _) rfl (by simp [Value.oneCell']) ?_
    have X2 : Hid ((w1.setRow (w.heap.size + 1) #[.int .u32 0, .int .u64 0, .slice none 0 0, .int .u64 0, .int .u64 0, .int .u64 0, .int .u64 0]).heap[w.heap.size + 1]? = some (.cells #[.int .u32 0, .int .u64 0, .slice none 0 0, .int .u64 0, .int .u64 0, .int .u64 0, .int .u64 0] 138 (0, 0)) ∧ Below w.heap.size w (w1.setRow (w.heap.size + 1) #[.int .u32 0, .int .u64 0, .slice none 0 0, .int .u64 0, .int .u64 0, .int .u64 0, .int .u64 0])) := ⟨setRow_heap _ _ _ _ _ _ X1.out.1, below_setRow X1.out.2 (by omega) _⟩
    clear X1
    generalize w1.setRow (w.heap.size + 1) #[.int .u32 0, .int .u64 0, .slice none 0 0, .int .u64 0, .int .u64 0, .int .u64 0, .int .u64 0] = w2 at *
    go_wp2_with fail
    exact bodyPost_ret (v := .tuple #[.agg #[.int .u32 0, .int .u64 0, .slice none 0 0, .int .u64 0, .int .u64 0, .int .u64 0, .int .u64 0], .bool false]) (results_ct138 (p := 4) (t := 5) Try.results51 _ _ (w.heap.size + 1) _ _ _ _ _ _ _ rfl X2.out.1) rfl ⟨rfl, X2.out.2⟩
  · have d1 : decide ((rs : Int) < 16) = false := decide_eq_false (by omega)
    have d2 : decide ((ws : Int) < 1) = true := decide_eq_true (by have := HN.out; omega)
    clear h16 HN
    go_upto_region 3 with fail
    refine wp_region_list ?_
    (refine wpList_step (fun KK hKK => ?_); go_simp; refine hKK _ _ ?_; clear hKK KK)
    refine wpList_store_row rfl 138 _ _ rfl (w.heap.size + 1) #[.int .u32 0, .int .u64 0, .slice none 0 0, .int .u64 0, .int .u64 0, .int .u64 0, .int .u64 0] rfl rfl 138 #[.int .u32 0, .int .u64 0, .slice none 0 0, .int .u64 0, .int .u64 0, .int .u64 0, .int .u64 0] X1.out.1 (info138 _ _ _ _ _ _ _) rfl (by simp [Value.oneCell']) ?_
    have X2 : Hid ((w1.setRow (w.heap.size + 1) #[.int .u32 0, .int .u64 0, .slice none 0 0, .int .u64 0, .int .u64 0, .int .u64 0, .int .u64 0]).heap[w.heap.size + 1]? = some (.cells #[.int .u32 0, .int .u64 0, .slice none 0 0, .int .u64 0, .int .u64 0, .int .u64 0, .int .u64 0] 138 (0, 0)) ∧ Below w.heap.size w (w1.setRow (w.heap.size + 1) #[.int .u32 0, .int .u64 0, .slice none 0 0, .int .u64 0, .int .u64 0, .int .u64 0, .int .u64 0])) := ⟨setRow_heap _ _ _ _ _ _ X1.out.1, below_setRow X1.out.2 (by omega) _⟩
    clear X1
    generalize w1.setRow (w.heap.size + 1) #[.int .u32 0, .int .u64 0, .slice none 0 0, .int .u64 0, .int .u64 0, .int .u64 0, .int .u64 0] = w2 at *
    go_wp2_with fail
    exact bodyPost_ret (v := .tuple #[.agg #[.int .u32 0, .int .u64 0, .slice none 0 0, .int .u64 0, .int .u64 0, .int .u64 0, .int .u64 0], .bool false]) (results_ct138 (p := 4) (t := 5) Try.results51 _ _ (w.heap.size + 1) _ _ _ _ _ _ _ rfl X2.out.1) rfl ⟨rfl, X2.out.2⟩
set_option maxHeartbeats 2000000 in
theorem request_yes (h : BlkAt w bb gb rb db m lv) (hn : bb < w.heap.size) (hs : SegIn 0 w (.slice a L c) l) (hl : l.length ≤ 1000) (hok : ∀ s ∈ l, SegOk sz s) (hz : sz ≤ 8192) (hr : RamAt w F rb sz kk (.pointer none) M) (h1 : sizeN false l = rs) (h2 : sizeN true l = ws) (hge : 16 ≤ rs ∧ 1 ≤ ws) (hlt : rs < 18446744073709551616 ∧ ws < 18446744073709551616) {gl : List Nat} (hg : gatL M l 0 16 = gl) {kd sec : Nat} (hkd : h256 (fun i => gl.getD i 0) 4 0 = kd) (hsec : h256 (fun i => gl.getD (8 + i) 0) 8 0 = sec) : Calls Try.prog 51 #[.pointer (some ⟨bb, 0, none⟩), .agg #[.slice a L c, .int .u64 (ta : Int), .int .u64 (tl : Int)]] w fun e w' => e = .returned (.tuple #[.agg (rqC kd sec a L c ta tl (rs - 16) (ws - 1)), .bool true]) ∧ Below w.heap.size w w' := by
  have hb1 : Below w.heap.size w (w.alloc (.cells #[.slice a L c, .int .u64 (ta : Int), .int .u64 (tl : Int)] 44)) := (Below.refl _ _).alloc (Nat.le_refl _) _
  have hb2 : Below (w.alloc (.cells #[.slice a L c, .int .u64 (ta : Int), .int .u64 (tl : Int)] 44)).heap.size (w.alloc (.cells #[.slice a L c, .int .u64 (ta : Int), .int .u64 (tl : Int)] 44)) ((w.alloc (.cells #[.slice a L c, .int .u64 (ta : Int), .int .u64 (tl : Int)] 44)).alloc (.cells #[.int .u32 0, .int .u64 0, .slice none 0 0, .int .u64 0, .int .u64 0, .int .u64 0, .int .u64 0] 138)) := (Below.refl _ _).alloc (Nat.le_refl _) _
  have hq : (w.alloc (.cells #[.slice a L c, .int .u64 (ta : Int), .int .u64 (tl : Int)] 44)).heap.size = w.heap.size + 1 := by simp
  have hx2 := heap_alloc_new (w.alloc (.cells #[.slice a L c, .int .u64 (ta : Int), .int .u64 (tl : Int)] 44)) (.cells #[.int .u32 0, .int .u64 0, .slice none 0 0, .int .u64 0, .int .u64 0, .int .u64 0, .int .u64 0] 138)
  rw [hq] at hx2
  have X : Hid (((w.alloc (.cells #[.slice a L c, .int .u64 (ta : Int), .int .u64 (tl : Int)] 44)).alloc (.cells #[.int .u32 0, .int .u64 0, .slice none 0 0, .int .u64 0, .int .u64 0, .int .u64 0, .int .u64 0] 138)).heap[w.heap.size]? = some (.cells #[.slice a L c, .int .u64 (ta : Int), .int .u64 (tl : Int)] 44 (0, 0)) ∧ ((w.alloc (.cells #[.slice a L c, .int .u64 (ta : Int), .int .u64 (tl : Int)] 44)).alloc (.cells #[.int .u32 0, .int .u64 0, .slice none 0 0, .int .u64 0, .int .u64 0, .int .u64 0, .int .u64 0] 138)).heap[w.heap.size + 1]? = some (.cells #[.int .u32 0, .int .u64 0, .slice none 0 0, .int .u64 0, .int .u64 0, .int .u64 0, .int .u64 0] 138 (0, 0)) ∧ BlkAt ((w.alloc (.cells #[.slice a L c, .int .u64 (ta : Int), .int .u64 (tl : Int)] 44)).alloc (.cells #[.int .u32 0, .int .u64 0, .slice none 0 0, .int .u64 0, .int .u64 0, .int .u64 0, .int .u64 0] 138)) bb gb rb db m lv ∧ Below w.heap.size w ((w.alloc (.cells #[.slice a L c, .int .u64 (ta : Int), .int .u64 (tl : Int)] 44)).alloc (.cells #[.int .u32 0, .int .u64 0, .slice none 0 0, .int .u64 0, .int .u64 0, .int .u64 0, .int .u64 0] 138))) := ⟨below_box (heap_alloc_new w _) hb2, hx2, below_box h (below_to hb1 hb2), below_to hb1 hb2⟩
  have HS : Hid (∀ V, Below w.heap.size w V → Calls Try.prog 87 #[.agg #[.slice a L c, .int .u64 (ta : Int), .int .u64 (tl : Int)]] V fun e w' => e = .returned (.tuple #[.int .u64 (rs : Int), .int .u64 (ws : Int)]) ∧ Below V.heap.size V w') := fun V hV => by rw [← h1, ← h2]; exact psizes_any (hs.kept (fun g hg => hV.block g (hs.lt g hg).2)) hl hok ta tl
  have hroom : roomB false l 0 16 = true := by unfold roomB; rw [h1]; exact decide_eq_true (by omega)
  have HG : Hid (∀ V, Below w.heap.size w V → Calls Try.prog 88 #[.agg #[.slice a L c, .int .u64 (ta : Int), .int .u64 (tl : Int)], .pointer (some ⟨rb, 0, none⟩), .int .u64 0, .int .u64 16] V fun e w' => Below V.heap.size V w' ∧ ∃ a' c', e = .returned (.tuple #[.slice a' ((16 : Nat) : Int).toNat c', .bool true]) ∧ w'.ownsRow V.heap.size 5 1 (.slice a' 16 c') 16 (row8 gl)) := fun V hV => by
    have hgg := gather_any hz (hr.below hV) (hs.kept (fun g hg => hV.block g (hs.lt g hg).2)) hl hok ta tl 0 16 (by decide) (by decide) (fun _ => by decide)
    refine hgg.mono ?_
    rintro e w' ⟨hb, hor⟩
    rcases hor with ⟨hno, _⟩ | ⟨_, a', c', rfl, ho⟩
    · rw [hroom] at hno; cases hno
    · rw [hg] at ho
      exact ⟨hb, a', c', rfl, ho⟩
  have hgl : gl.length = 16 := by rw [← hg]; unfold gatL; rw [List.length_map]; exact room_len hroom
  have hle : ∀ i, gl.getD i 0 ≤ 255 := fun i => by
    rw [← hg]
    unfold gatL
    rw [List.getD_eq_getElem?_getD, List.getElem?_map]
    cases h : (List.take 16 (List.drop 0 (addrs false l)))[i]? with
    | none => simp
    | some x => simpa using hr.le x
  have HP : Hid (∀ (V : World) (B : Nat) (a' : Option Addr) (c' : Nat), V.ownsRow B 5 1 (.slice a' 16 c') 16 (row8 gl) → Calls Try.prog 26 #[.slice a' 16 c'] V fun e w' => e = .returned (.tuple #[.agg #[.int .u32 (kd : Int), .int .u64 (sec : Int)], .bool true]) ∧ Below V.heap.size V w') := fun V B a' c' ho => by
    rcases readsF_own (F := fun _ => False) ho hgl (fun _ _ h => h) with ⟨h0, _⟩ | ⟨b, off, cap, he, _, hcap, _, hc⟩
    · cases h0
    · simp only [Value.slice.injEq, true_and] at he
      obtain ⟨rfl, rfl⟩ := he
      rw [← hkd, ← hsec]
      exact parse_any (f := fun i => gl.getD i 0) hc (Nat.le_refl _) hcap hle (block_lt_of_cell (hc 0 (by decide)))
  have HE : Hid (16 ≤ rs ∧ 1 ≤ ws ∧ rs < 18446744073709551616 ∧ ws < 18446744073709551616) := ⟨hge.1, hge.2, hlt.1, hlt.2⟩
  have d1 : decide ((rs : Int) < 16) = false := decide_eq_false (by omega)
  have d2 : decide ((ws : Int) < 1) = false := decide_eq_false (by omega)
  have s1 : IntKind.u64.wrap ((rs : Int) - 16) = ((rs - 16 : Nat) : Int) := by rw [wrap_u64]; omega
  have s2 : IntKind.u64.wrap ((ws : Int) - 1) = ((ws - 1 : Nat) : Int) := by rw [wrap_u64]; omega
  clear hb1 hb2 hq hx2 hs hl hok hr h1 h2 hge hlt hg hkd hsec hroom hgl hle h hn hz HE
  go_enter Try.func51, Try.ntmps51
  go_upto_region 1 with fail
  generalize (w.alloc (.cells #[.slice a L c, .int .u64 (ta : Int), .int .u64 (tl : Int)] 44)).alloc (.cells #[.int .u32 0, .int .u64 0, .slice none 0 0, .int .u64 0, .int .u64 0, .int .u64 0, .int .u64 0] 138) = w0 at *
  obtain ⟨p0, p1, p2⟩ := box3_facts X.out.1
  go_upto_region 4 with (go_at_call 87; refine (HS.out _ X.out.2.2.2).mono ?_; rintro e w1 ⟨rfl, hb⟩; have X1 : Hid (w1.heap[w.heap.size]? = some (.cells #[.slice a L c, .int .u64 (ta : Int), .int .u64 (tl : Int)] 44 (0, 0)) ∧ w1.heap[w.heap.size + 1]? = some (.cells #[.int .u32 0, .int .u64 0, .slice none 0 0, .int .u64 0, .int .u64 0, .int .u64 0, .int .u64 0] 138 (0, 0)) ∧ BlkAt w1 bb gb rb db m lv ∧ Below w.heap.size w w1) := ⟨below_box X.out.1 hb, below_box X.out.2.1 hb, below_box X.out.2.2.1 hb, below_to X.out.2.2.2 hb⟩; clear hb X p0 p1 p2 HS)
  have Xd : Hid (w1.drew.heap[w.heap.size]? = some (.cells #[.slice a L c, .int .u64 (ta : Int), .int .u64 (tl : Int)] 44 (0, 0)) ∧ w1.drew.heap[w.heap.size + 1]? = some (.cells #[.int .u32 0, .int .u64 0, .slice none 0 0, .int .u64 0, .int .u64 0, .int .u64 0, .int .u64 0] 138 (0, 0)) ∧ BlkAt w1.drew bb gb rb db m lv ∧ Below w.heap.size w w1.drew) := ⟨below_box X1.out.1 (Below.drew (Below.refl _ _)), below_box X1.out.2.1 (Below.drew (Below.refl _ _)), below_box X1.out.2.2.1 (Below.drew (Below.refl _ _)), below_to X1.out.2.2.2 (Below.drew (Below.refl _ _))⟩
  obtain ⟨p0, p1, p2⟩ := box3_facts Xd.out.1
  have c1 := cellOf Xd.out.2.2.1 1 (.pointer (some ⟨rb, 0, none⟩)) rfl
  clear X1
  go_region_held3 (fun Z => Z.cell? ⟨w.heap.size, 0, none⟩ = some (.slice a L c) ∧ Z.cell? ⟨w.heap.size, 1, none⟩ = some (.int .u64 (ta : Int)) ∧ Z.cell? ⟨w.heap.size, 2, none⟩ = some (.int .u64 (tl : Int)) ∧ Z.cell? ⟨bb, 1, none⟩ = some (.pointer (some ⟨rb, 0, none⟩))) (go_keep) (first | (go_at_call 88; refine (HG.out _ Xd.out.2.2.2).mono ?_; rintro e w2 ⟨hb, a', c', rfl, ho⟩; have X2 : Hid ((w2.heap[w.heap.size]? = some (.cells #[.slice a L c, .int .u64 (ta : Int), .int .u64 (tl : Int)] 44 (0, 0)) ∧ w2.heap[w.heap.size + 1]? = some (.cells #[.int .u32 0, .int .u64 0, .slice none 0 0, .int .u64 0, .int .u64 0, .int .u64 0, .int .u64 0] 138 (0, 0)) ∧ BlkAt w2 bb gb rb db m lv ∧ Below w.heap.size w w2) ∧ w2.ownsRow w1.drew.heap.size 5 1 (.slice a' 16 c') 16 (row8 gl)) := ⟨⟨below_box Xd.out.1 hb, below_box Xd.out.2.1 hb, below_box Xd.out.2.2.1 hb, below_to Xd.out.2.2.2 hb⟩, ho⟩; clear hb ho p0 p1 p2 c1 Xd HG; obtain ⟨p0, p1, p2⟩ := box3_facts X2.out.1.1; have c1 := cellOf X2.out.1.2.2.1 1 (.pointer (some ⟨rb, 0, none⟩)) rfl))
  clear p0 p1 p2 c1
  go_upto_region 6 with (go_at_call 26; refine (HP.out _ _ _ _ X2.out.2).mono ?_; rintro e w3 ⟨rfl, hb⟩; have X3 : Hid (w3.heap[w.heap.size]? = some (.cells #[.slice a L c, .int .u64 (ta : Int), .int .u64 (tl : Int)] 44 (0, 0)) ∧ w3.heap[w.heap.size + 1]? = some (.cells #[.int .u32 0, .int .u64 0, .slice none 0 0, .int .u64 0, .int .u64 0, .int .u64 0, .int .u64 0] 138 (0, 0)) ∧ BlkAt w3 bb gb rb db m lv ∧ Below w.heap.size w w3) := ⟨below_box X2.out.1.1 hb, below_box X2.out.1.2.1 hb, below_box X2.out.1.2.2.1 hb, below_to X2.out.1.2.2.2 hb⟩; clear hb X2 HP)
  have hb4 : Below w3.heap.size w3 (w3.alloc (.cells #[.int .u32 (kd : Int), .int .u64 (sec : Int)] 58)) := (Below.refl _ _).alloc (Nat.le_refl _) _
  have X4 : Hid (((w3.alloc (.cells #[.int .u32 (kd : Int), .int .u64 (sec : Int)] 58)).heap[w.heap.size]? = some (.cells #[.slice a L c, .int .u64 (ta : Int), .int .u64 (tl : Int)] 44 (0, 0)) ∧ (w3.alloc (.cells #[.int .u32 (kd : Int), .int .u64 (sec : Int)] 58)).heap[w.heap.size + 1]? = some (.cells #[.int .u32 0, .int .u64 0, .slice none 0 0, .int .u64 0, .int .u64 0, .int .u64 0, .int .u64 0] 138 (0, 0)) ∧ BlkAt (w3.alloc (.cells #[.int .u32 (kd : Int), .int .u64 (sec : Int)] 58)) bb gb rb db m lv ∧ Below w.heap.size w (w3.alloc (.cells #[.int .u32 (kd : Int), .int .u64 (sec : Int)] 58))) ∧ (w3.alloc (.cells #[.int .u32 (kd : Int), .int .u64 (sec : Int)] 58)).heap[w3.heap.size]? = some (.cells #[.int .u32 (kd : Int), .int .u64 (sec : Int)] 58 (0, 0))) := ⟨⟨below_box X3.out.1 hb4, below_box X3.out.2.1 hb4, below_box X3.out.2.2.1 hb4, below_to X3.out.2.2.2 hb4⟩, heap_alloc_new w3 _⟩
  clear X3 hb4
  generalize w3.alloc (.cells #[.int .u32 (kd : Int), .int .u64 (sec : Int)] 58) = w4 at *
  generalize w3.heap.size = p at *
  obtain ⟨p0, p1, p2⟩ := box3_facts X4.out.1.1
  have t0 := cellOf X4.out.2 0 (.int .u32 (kd : Int)) rfl
  have t1 := cellOf X4.out.2 1 (.int .u64 (sec : Int)) rfl
  refine wp_region_list ?_
  iterate 8 (refine wpList_step (fun KK hKK => ?_); go_simp; refine hKK _ _ ?_; clear hKK KK)
  refine wpList_store_row rfl 138 _ _ rfl (w.heap.size + 1) (rqC kd sec a L c ta tl (rs - 16) (ws - 1)) rfl rfl 138 #[.int .u32 0, .int .u64 0, .slice none 0 0, .int .u64 0, .int .u64 0, .int .u64 0, .int .u64 0] X4.out.1.2.1 (info138 _ _ _ _ _ _ _) rfl (by simp [Value.oneCell']) ?_
  have X5 : Hid ((w4.setRow (w.heap.size + 1) (rqC kd sec a L c ta tl (rs - 16) (ws - 1))).heap[w.heap.size + 1]? = some (.cells (rqC kd sec a L c ta tl (rs - 16) (ws - 1)) 138 (0, 0)) ∧ Below w.heap.size w (w4.setRow (w.heap.size + 1) (rqC kd sec a L c ta tl (rs - 16) (ws - 1)))) := ⟨setRow_heap _ _ _ _ _ _ X4.out.1.2.1, below_setRow X4.out.1.2.2.2 (by omega) _⟩
  clear X4 p0 p1 p2 t0 t1
  generalize w4.setRow (w.heap.size + 1) (rqC kd sec a L c ta tl (rs - 16) (ws - 1)) = w5 at *
  go_wp2_with fail
  exact bodyPost_ret (v := .tuple #[.agg (rqC kd sec a L c ta tl (rs - 16) (ws - 1)), .bool true]) (results_ct138 (p := 4) (t := 5) Try.results51 _ _ (w.heap.size + 1) _ _ _ _ _ _ _ rfl X5.out.1) rfl ⟨rfl, X5.out.2⟩
end
end Go.Proofs.Ytlkhjekakbckmaa

/- Layer 19: the log. -/
namespace Go.Proofs.Ytlkhjekakbckmaa
open Go.RowKit Go.Maps
set_option linter.unusedVariables false
set_option linter.unusedSimpArgs false
set_option maxRecDepth 100000
theorem four_new (w : World) (x y z u : Value) (t : TypeId) : ∀ j v, [x, y, z, u][j]? = some v → (w.alloc (.cells #[x, y, z, u] t)).cell? ((⟨w.heap.size, 0, none⟩ : Addr).add j) = some v := by
  intro j v hj
  have h := heap_alloc_new w (.cells #[x, y, z, u] t)
  have e : ((⟨w.heap.size, 0, none⟩ : Addr).add j) = ⟨w.heap.size, j, none⟩ := by unfold Addr.add; split <;> simp_all
  rw [e]
  exact cellOf h j v (by simpa using hj)
theorem own_kept {B : Nat} {w w' : World} {e : TypeId} {size n : Nat} {v : Value} {xs : List Value} (h : w.ownsRow B e size v n xs) (hk : ∀ g, v.ownBlock = some g → w'.heap[g]? = w.heap[g]?) : w'.ownsRow B e size v n xs := by
  refine ⟨h.1, h.2.imp id ?_⟩
  rintro ⟨g, cap, cur, rfl, h2, h3, h4⟩
  exact ⟨g, cap, cur, rfl, h2, (hk g rfl).trans h3, h4⟩
theorem Try.info60s : (Try.prog.info? 60).map (fun i => (i.zero, i.size, i.bytes)) = some (some (.agg #[.int .u32 0, .int .u64 0, .int .u8 0, .int .u32 0]), 4, 24) := by kernel_rfl
set_option maxHeartbeats 2000000 in
theorem keep_any {w : World} {bb gb rb db n lc kd sec st ct : Nat} {m : Nat → Nat} {la : Option Addr} {rows : List Value} (h : BlkAt w bb gb rb db m (.slice la n lc)) (hl : w.ownsRow 0 60 4 (.slice la n lc) n rows) (hn : n ≤ 4000) (hg : ∀ g, (Value.slice la n lc).ownBlock = some g → g ≠ bb) :
    Calls Try.prog 54 #[.pointer (some ⟨bb, 0, none⟩), .agg #[.int .u32 (kd : Int), .int .u64 (sec : Int), .int .u8 (st : Int), .int .u32 (ct : Int)]] w fun e w' => e = .returned (.tuple #[]) ∧ (∃ g cap, BlkAt w' bb gb rb db m (.slice (some ⟨g, 0, none⟩) (n + 1) cap) ∧ w'.ownsRow 0 60 4 (.slice (some ⟨g, 0, none⟩) (n + 1) cap) (n + 1) (rows ++ [.int .u32 (kd : Int), .int .u64 (sec : Int), .int .u8 (st : Int), .int .u32 (ct : Int)]) ∧ g ≠ bb ∧ ((Value.slice la n lc).ownBlock = some g ∨ w.heap.size ≤ g) ∧ Below 0 w w' ∧ ∀ k, k < w.heap.size → k ≠ bb → (Value.slice la n lc).ownBlock ≠ some k → w'.heap[k]? = w.heap[k]?) := by
  obtain ⟨i0, hi, hz0, hz1, hz2⟩ := info_parts Try.info60s
  have hb : Below w.heap.size w (w.alloc (.cells #[.int .u32 (kd : Int), .int .u64 (sec : Int), .int .u8 (st : Int), .int .u32 (ct : Int)] 60)) := (Below.refl _ _).alloc (Nat.le_refl _) _
  have X0 : Hid ((w.alloc (.cells #[.int .u32 (kd : Int), .int .u64 (sec : Int), .int .u8 (st : Int), .int .u32 (ct : Int)] 60)).heap[w.heap.size]? = some (.cells #[.int .u32 (kd : Int), .int .u64 (sec : Int), .int .u8 (st : Int), .int .u32 (ct : Int)] 60 (0, 0)) ∧ BlkAt (w.alloc (.cells #[.int .u32 (kd : Int), .int .u64 (sec : Int), .int .u8 (st : Int), .int .u32 (ct : Int)] 60)) bb gb rb db m (.slice la n lc) ∧ (w.alloc (.cells #[.int .u32 (kd : Int), .int .u64 (sec : Int), .int .u8 (st : Int), .int .u32 (ct : Int)] 60)).ownsRow 0 60 4 (.slice la n lc) n rows ∧ Below w.heap.size w (w.alloc (.cells #[.int .u32 (kd : Int), .int .u64 (sec : Int), .int .u8 (st : Int), .int .u32 (ct : Int)] 60))) := ⟨heap_alloc_new w _, below_box h hb, own_kept hl (fun g hg => hb.block g (World.ownsRow.lt hl g hg).2), hb⟩
  have HN : Hid (n ≤ 4000 ∧ (∀ g, (Value.slice la n lc).ownBlock = some g → g ≠ bb) ∧ w.heap.size ≠ bb ∧ (Value.slice la n lc).ownBlock ≠ some w.heap.size) := ⟨hn, hg, by have := (Array.getElem?_eq_some_iff.1 h).1; omega, fun e => by have := (World.ownsRow.lt hl _ e).2; omega⟩
  have e1 : decide ((n : Int) < 4096) = true := decide_eq_true (by omega)
  clear hb h hl hn hg
  go_enter Try.func54, Try.ntmps54
  go_upto_region 1 with fail
  generalize w.alloc (.cells #[.int .u32 (kd : Int), .int .u64 (sec : Int), .int .u8 (st : Int), .int .u32 (ct : Int)] 60) = w0 at *
  have m0 := cellOf X0.out.2.1 23 (.slice la n lc) rfl
  go_upto_region 2 with fail
  clear m0
  have hdr : Below w0.heap.size w0 w0.drew := Below.drew (Below.refl _ _)
  have Xd : Hid (w0.drew.heap[w.heap.size]? = some (.cells #[.int .u32 (kd : Int), .int .u64 (sec : Int), .int .u8 (st : Int), .int .u32 (ct : Int)] 60 (0, 0)) ∧ BlkAt w0.drew bb gb rb db m (.slice la n lc) ∧ w0.drew.ownsRow 0 60 4 (.slice la n lc) n rows ∧ Below w.heap.size w w0.drew) := ⟨below_box X0.out.1 hdr, below_box X0.out.2.1 hdr, own_kept X0.out.2.2.1 (fun g hg => hdr.block g (World.ownsRow.lt X0.out.2.2.1 g hg).2), below_to X0.out.2.2.2 hdr⟩
  clear hdr X0
  refine wp_region_held_drew (S := fun Z => Z.cell? ⟨w.heap.size, 0, none⟩ = some (.int .u32 (kd : Int)) ∧ Z.cell? ⟨w.heap.size, 1, none⟩ = some (.int .u64 (sec : Int)) ∧ Z.cell? ⟨w.heap.size, 2, none⟩ = some (.int .u8 (st : Int)) ∧ Z.cell? ⟨w.heap.size, 3, none⟩ = some (.int .u32 (ct : Int))) (by kernel_rfl) ⟨cellOf Xd.out.1 0 _ rfl, cellOf Xd.out.1 1 _ rfl, cellOf Xd.out.1 2 _ rfl, cellOf Xd.out.1 3 _ rfl⟩ ?_
  intro hS
  generalize w0.drew = wd at *
  refine wpAnyH_take (i := 0) (v := ?_) rfl (by kernel_rfl) (by kernel_rfl) (by kernel_rfl) (fun _ _ _ h => h) (Or.inl ⟨by kernel_rfl, ?_⟩) hS ?_
  rotate_left
  · intro w hSw; (try dsimp only at hSw); go_simp; try (with_reducible rfl)
  (try simp only [Act.put, List.getElem_toArray, List.getElem_cons_succ, List.getElem_cons_zero, List.setIfInBounds_toArray, List.set_cons_zero, List.set_cons_succ])
  refine wpAnyH_take (i := 1) (v := ?_) rfl (by kernel_rfl) (by kernel_rfl) (by kernel_rfl) (fun _ _ _ h => h) (Or.inl ⟨by kernel_rfl, ?_⟩) hS ?_
  rotate_left
  · intro w hSw; (try dsimp only at hSw); go_simp; try (with_reducible rfl)
  (try simp only [Act.put, List.getElem_toArray, List.getElem_cons_succ, List.getElem_cons_zero, List.setIfInBounds_toArray, List.set_cons_zero, List.set_cons_succ])
  refine wpAnyH_take (i := 2) (v := ?_) rfl (by kernel_rfl) (by kernel_rfl) (by kernel_rfl) (fun _ _ _ h => h) (Or.inl ⟨by kernel_rfl, ?_⟩) hS ?_
  rotate_left
  · intro w hSw; (try dsimp only at hSw); go_simp; try (with_reducible rfl)
  (try simp only [Act.put, List.getElem_toArray, List.getElem_cons_succ, List.getElem_cons_zero, List.setIfInBounds_toArray, List.set_cons_zero, List.set_cons_succ])
  refine wpAnyH_take (i := 3) (v := ?_) rfl (by kernel_rfl) (by kernel_rfl) (by kernel_rfl) (fun _ _ _ h => h) (Or.inl ⟨by kernel_rfl, ?_⟩) hS ?_
  rotate_left
  · intro w hSw; (try dsimp only at hSw); go_simp; try (with_reducible rfl)
  (try simp only [Act.put, List.getElem_toArray, List.getElem_cons_succ, List.getElem_cons_zero, List.setIfInBounds_toArray, List.set_cons_zero, List.set_cons_succ])
  refine wpAnyH_take (i := 5) (v := ?_) rfl (by kernel_rfl) (by kernel_rfl) (by kernel_rfl) (fun _ _ _ h => h) (Or.inl ⟨by kernel_rfl, ?_⟩) hS ?_
  rotate_left
  · intro w hSw; (try dsimp only at hSw); go_simp; try (with_reducible rfl)
  (try simp only [Act.put, List.getElem_toArray, List.getElem_cons_succ, List.getElem_cons_zero, List.setIfInBounds_toArray, List.set_cons_zero, List.set_cons_succ])
  refine wpAnyH_ready (rs := [4, 6]) (by kernel_rfl) (by simp) ?_
  refine AllReadyH.cons rfl (fun K1 hK1 => ?_) (AllReadyH.cons rfl (fun K1 hK1 => ?_) AllReadyH.nil)
  · have _hm : True := trivial
    have m1 := cellOf Xd.out.2.1 23 (.slice la n lc) rfl
    go_simp
    refine hK1.out _ _ ⟨cellOf Xd.out.1 0 _ rfl, cellOf Xd.out.1 1 _ rfl, cellOf Xd.out.1 2 _ rfl, cellOf Xd.out.1 3 _ rfl⟩ (fun h2 => ?_)
    clear hK1 K1 hS m1
    (try simp only [Act.put, List.getElem_toArray, List.getElem_cons_succ, List.getElem_cons_zero, List.setIfInBounds_toArray, List.set_cons_zero, List.set_cons_succ])
    refine wpAnyH_ready (rs := [6]) (by kernel_rfl) (by simp) ?_
    refine AllReadyH.cons rfl (fun K1 hK1 => ?_) AllReadyH.nil
    go_simp
    have hb3 : Below wd.heap.size wd (wd.alloc (.cells #[.int .u32 (kd : Int), .int .u64 (sec : Int), .int .u8 (st : Int), .int .u32 (ct : Int)] 60)) := (Below.refl _ _).alloc (Nat.le_refl _) _
    have X3 : Hid ((wd.alloc (.cells #[.int .u32 (kd : Int), .int .u64 (sec : Int), .int .u8 (st : Int), .int .u32 (ct : Int)] 60)).heap[w.heap.size]? = some (.cells #[.int .u32 (kd : Int), .int .u64 (sec : Int), .int .u8 (st : Int), .int .u32 (ct : Int)] 60 (0, 0)) ∧ BlkAt (wd.alloc (.cells #[.int .u32 (kd : Int), .int .u64 (sec : Int), .int .u8 (st : Int), .int .u32 (ct : Int)] 60)) bb gb rb db m (.slice la n lc) ∧ (wd.alloc (.cells #[.int .u32 (kd : Int), .int .u64 (sec : Int), .int .u8 (st : Int), .int .u32 (ct : Int)] 60)).ownsRow 0 60 4 (.slice la n lc) n rows ∧ Below w.heap.size w (wd.alloc (.cells #[.int .u32 (kd : Int), .int .u64 (sec : Int), .int .u8 (st : Int), .int .u32 (ct : Int)] 60))) := ⟨below_box Xd.out.1 hb3, below_box Xd.out.2.1 hb3, own_kept Xd.out.2.2.1 (fun g hg => hb3.block g (World.ownsRow.lt Xd.out.2.2.1 g hg).2), below_to Xd.out.2.2.2 hb3⟩
    have HN3 : Hid (∀ j u, [Value.int .u32 (kd : Int), .int .u64 (sec : Int), .int .u8 (st : Int), .int .u32 (ct : Int)][j]? = some u → (wd.alloc (.cells #[.int .u32 (kd : Int), .int .u64 (sec : Int), .int .u8 (st : Int), .int .u32 (ct : Int)] 60)).cell? ((⟨wd.heap.size, 0, none⟩ : Addr).add j) = some u) := four_new wd _ _ _ _ 60
    clear hb3 Xd
    generalize wd.alloc (.cells #[.int .u32 (kd : Int), .int .u64 (sec : Int), .int .u8 (st : Int), .int .u32 (ct : Int)] 60) = V3 at *
    generalize wd.heap.size = nb at *
    refine hK1.out _ _ ⟨cellOf X3.out.1 0 _ rfl, cellOf X3.out.1 1 _ rfl, cellOf X3.out.1 2 _ rfl, cellOf X3.out.1 3 _ rfl⟩ (fun H3 => ?_)
    clear hK1 K1 h2
    (try simp only [Act.put, List.getElem_toArray, List.getElem_cons_succ, List.getElem_cons_zero, List.setIfInBounds_toArray, List.set_cons_zero, List.set_cons_succ])
    refine wpAnyH_ready (rs := [7]) (by kernel_rfl) (by simp) ?_
    refine AllReadyH.cons rfl (fun K1 hK1 => ?_) AllReadyH.nil
    rw [if_pos (by kernel_rfl)]
    refine wp_append_lies V3 _ _ 54 rfl 0 60 i0 (.agg #[.int .u32 0, .int .u64 0, .int .u8 0, .int .u32 0]) 4 24 Try.underlying54 hi hz0 hz1 hz2 rfl (by decide) (.slice la n lc) n rows rfl X3.out.2.2.1 ⟨nb, 0, none⟩ 1 1 [.int .u32 (kd : Int), .int .u64 (sec : Int), .int .u8 (st : Int), .int .u32 (ct : Int)] rfl rfl HN3.out (by intro u hu; simp at hu; rcases hu with rfl | rfl | rfl | rfl <;> rfl) (by omega) (by have := HN.out.1; unfold maxLen; omega) (by have := HN.out.1; omega) (Nat.zero_le _) V3.heap.size rfl ?_
    intro g cap w1 hown hgrow hat hlt
    have D1 : Hid (w1.heap[w.heap.size]? = some (.cells #[.int .u32 (kd : Int), .int .u64 (sec : Int), .int .u8 (st : Int), .int .u32 (ct : Int)] 60 (0, 0)) ∧ BlkAt w1 bb gb rb db m (.slice la n lc)) := ⟨(hgrow.block _ (Array.getElem?_eq_some_iff.1 X3.out.1).1 (fun e => HN.out.2.2.2 e.symm)).trans X3.out.1, (hgrow.block _ (Array.getElem?_eq_some_iff.1 X3.out.2.1).1 (fun e => HN.out.2.1 _ e.symm rfl)).trans X3.out.2.1⟩
    have hgb : g ≠ bb := by
      rcases hat with h | h
      · exact HN.out.2.1 g h
      · have := (Array.getElem?_eq_some_iff.1 X3.out.2.1).1; omega
    have HM : Hid (BlkAt (w1.setCell ⟨bb, 23, none⟩ (.slice (some ⟨g, 0, none⟩) (n + 1) cap)) bb gb rb db m (.slice (some ⟨g, 0, none⟩) (n + 1) cap) ∧ (w1.setCell ⟨bb, 23, none⟩ (.slice (some ⟨g, 0, none⟩) (n + 1) cap)).ownsRow 0 60 4 (.slice (some ⟨g, 0, none⟩) (n + 1) cap) (n + 1) (rows ++ [.int .u32 (kd : Int), .int .u64 (sec : Int), .int .u8 (st : Int), .int .u32 (ct : Int)]) ∧ g ≠ bb ∧ ((Value.slice la n lc).ownBlock = some g ∨ w.heap.size ≤ g) ∧ Below 0 w (w1.setCell ⟨bb, 23, none⟩ (.slice (some ⟨g, 0, none⟩) (n + 1) cap)) ∧ ∀ k, k < w.heap.size → k ≠ bb → (Value.slice la n lc).ownBlock ≠ some k → (w1.setCell ⟨bb, 23, none⟩ (.slice (some ⟨g, 0, none⟩) (n + 1) cap)).heap[k]? = w.heap[k]?) := by
      have hbs := X3.out.2.2.2
      refine ⟨(heap_setCell_same w1 bb 23 _ 78 _ D1.out.2).trans rfl, own_kept hown (fun k hk => heap_setCell_other w1 ⟨bb, 23, none⟩ k _ (by simp [Value.ownBlock] at hk; subst hk; exact hgb)), hgb, hat.imp id (fun e => by have := hbs.size; omega), ⟨?_, ?_, ?_, ?_, fun k hk => absurd hk (Nat.not_lt_zero _)⟩, fun k hk hkb hko => ?_⟩
      · exact hgrow.os.trans hbs.os
      · exact hgrow.tape.trans hbs.tape
      · exact hgrow.output.trans hbs.output
      · rw [World.size_setCell]; exact Nat.le_trans hbs.size hgrow.size
      · refine (heap_setCell_other w1 ⟨bb, 23, none⟩ k _ hkb).trans ((hgrow.block k (Nat.lt_of_lt_of_le hk hbs.size) (fun e => hko e.symm)).trans (hbs.block k hk))
    have HQ : Hid ((w1.setCell ⟨bb, 23, none⟩ (.slice (some ⟨g, 0, none⟩) (n + 1) cap)).heap[w.heap.size]? = some (.cells #[.int .u32 (kd : Int), .int .u64 (sec : Int), .int .u8 (st : Int), .int .u32 (ct : Int)] 60 (0, 0))) := (heap_setCell_other w1 ⟨bb, 23, none⟩ _ _ HN.out.2.2.1).trans D1.out.1
    clear hown hgrow hat hlt hgb
    refine hK1.out _ _ ⟨cellOf D1.out.1 0 _ rfl, cellOf D1.out.1 1 _ rfl, cellOf D1.out.1 2 _ rfl, cellOf D1.out.1 3 _ rfl⟩ (fun h4 => ?_)
    clear hK1 K1 H3 X3 HN3
    (try simp only [Act.put, List.getElem_toArray, List.getElem_cons_succ, List.getElem_cons_zero, List.setIfInBounds_toArray, List.set_cons_zero, List.set_cons_succ])
    refine wpAnyH_take (i := 8) (v := ?_) rfl (by kernel_rfl) (by kernel_rfl) (by kernel_rfl) (fun _ _ _ h => h) (Or.inl ⟨by kernel_rfl, ?_⟩) h4 ?_
    rotate_left
    · intro w hSw; (try dsimp only at hSw); go_simp; try (with_reducible rfl)
    (try simp only [Act.put, List.getElem_toArray, List.getElem_cons_succ, List.getElem_cons_zero, List.setIfInBounds_toArray, List.set_cons_zero, List.set_cons_succ])
    refine wpAnyH_take (i := 9) (v := ?_) rfl (by kernel_rfl) (by kernel_rfl) (by kernel_rfl) (fun _ _ _ h => h) (Or.inl ⟨by kernel_rfl, ?_⟩) h4 ?_
    rotate_left
    · intro w hSw; (try dsimp only at hSw); go_simp; try (with_reducible rfl)
    (try simp only [Act.put, List.getElem_toArray, List.getElem_cons_succ, List.getElem_cons_zero, List.setIfInBounds_toArray, List.set_cons_zero, List.set_cons_succ])
    refine wpAnyH_ready (rs := [10]) (by kernel_rfl) (by simp) ?_
    refine AllReadyH.cons rfl (fun K1 hK1 => ?_) AllReadyH.nil
    have m1 := cellOf D1.out.2 23 (.slice la n lc) rfl
    have m2 := frozenOf D1.out.2 23
    go_simp
    clear m1 m2 D1
    generalize w1.setCell ⟨bb, 23, none⟩ (.slice (some ⟨g, 0, none⟩) (n + 1) cap) = w4 at *
    refine hK1.out _ _ ⟨cellOf HQ.out 0 _ rfl, cellOf HQ.out 1 _ rfl, cellOf HQ.out 2 _ rfl, cellOf HQ.out 3 _ rfl⟩ (fun h5 => ?_)
    clear hK1 K1 h4
    (try simp only [Act.put, List.getElem_toArray, List.getElem_cons_succ, List.getElem_cons_zero, List.setIfInBounds_toArray, List.set_cons_zero, List.set_cons_succ])
    refine wpAnyH_done (by kernel_rfl) ?_ _
    clear h5
    go_wp2_with fail
    first | (refine bodyPost_ret (results_none rfl _ _ _) rfl ?_) | go_end0 | skip
    exact ⟨rfl, g, cap, HM.out⟩
  · have _hm : True := trivial
    go_simp
    have hb3 : Below wd.heap.size wd (wd.alloc (.cells #[.int .u32 (kd : Int), .int .u64 (sec : Int), .int .u8 (st : Int), .int .u32 (ct : Int)] 60)) := (Below.refl _ _).alloc (Nat.le_refl _) _
    have X3 : Hid ((wd.alloc (.cells #[.int .u32 (kd : Int), .int .u64 (sec : Int), .int .u8 (st : Int), .int .u32 (ct : Int)] 60)).heap[w.heap.size]? = some (.cells #[.int .u32 (kd : Int), .int .u64 (sec : Int), .int .u8 (st : Int), .int .u32 (ct : Int)] 60 (0, 0)) ∧ BlkAt (wd.alloc (.cells #[.int .u32 (kd : Int), .int .u64 (sec : Int), .int .u8 (st : Int), .int .u32 (ct : Int)] 60)) bb gb rb db m (.slice la n lc) ∧ (wd.alloc (.cells #[.int .u32 (kd : Int), .int .u64 (sec : Int), .int .u8 (st : Int), .int .u32 (ct : Int)] 60)).ownsRow 0 60 4 (.slice la n lc) n rows ∧ Below w.heap.size w (wd.alloc (.cells #[.int .u32 (kd : Int), .int .u64 (sec : Int), .int .u8 (st : Int), .int .u32 (ct : Int)] 60))) := ⟨below_box Xd.out.1 hb3, below_box Xd.out.2.1 hb3, own_kept Xd.out.2.2.1 (fun g hg => hb3.block g (World.ownsRow.lt Xd.out.2.2.1 g hg).2), below_to Xd.out.2.2.2 hb3⟩
    have HN3 : Hid (∀ j u, [Value.int .u32 (kd : Int), .int .u64 (sec : Int), .int .u8 (st : Int), .int .u32 (ct : Int)][j]? = some u → (wd.alloc (.cells #[.int .u32 (kd : Int), .int .u64 (sec : Int), .int .u8 (st : Int), .int .u32 (ct : Int)] 60)).cell? ((⟨wd.heap.size, 0, none⟩ : Addr).add j) = some u) := four_new wd _ _ _ _ 60
    clear hb3 Xd
    generalize wd.alloc (.cells #[.int .u32 (kd : Int), .int .u64 (sec : Int), .int .u8 (st : Int), .int .u32 (ct : Int)] 60) = V3 at *
    generalize wd.heap.size = nb at *
    refine hK1.out _ _ ⟨cellOf X3.out.1 0 _ rfl, cellOf X3.out.1 1 _ rfl, cellOf X3.out.1 2 _ rfl, cellOf X3.out.1 3 _ rfl⟩ (fun h3 => ?_)
    clear hK1 K1 hS
    (try simp only [Act.put, List.getElem_toArray, List.getElem_cons_succ, List.getElem_cons_zero, List.setIfInBounds_toArray, List.set_cons_zero, List.set_cons_succ])
    refine wpAnyH_ready (rs := [4]) (by kernel_rfl) (by simp) ?_
    refine AllReadyH.cons rfl (fun K1 hK1 => ?_) AllReadyH.nil
    have m1 := cellOf X3.out.2.1 23 (.slice la n lc) rfl
    go_simp
    refine hK1.out _ _ ⟨cellOf X3.out.1 0 _ rfl, cellOf X3.out.1 1 _ rfl, cellOf X3.out.1 2 _ rfl, cellOf X3.out.1 3 _ rfl⟩ (fun H3 => ?_)
    clear hK1 K1 h3 m1
    (try simp only [Act.put, List.getElem_toArray, List.getElem_cons_succ, List.getElem_cons_zero, List.setIfInBounds_toArray, List.set_cons_zero, List.set_cons_succ])
    refine wpAnyH_ready (rs := [7]) (by kernel_rfl) (by simp) ?_
    refine AllReadyH.cons rfl (fun K1 hK1 => ?_) AllReadyH.nil
    rw [if_pos (by kernel_rfl)]
    refine wp_append_lies V3 _ _ 54 rfl 0 60 i0 (.agg #[.int .u32 0, .int .u64 0, .int .u8 0, .int .u32 0]) 4 24 Try.underlying54 hi hz0 hz1 hz2 rfl (by decide) (.slice la n lc) n rows rfl X3.out.2.2.1 ⟨nb, 0, none⟩ 1 1 [.int .u32 (kd : Int), .int .u64 (sec : Int), .int .u8 (st : Int), .int .u32 (ct : Int)] rfl rfl HN3.out (by intro u hu; simp at hu; rcases hu with rfl | rfl | rfl | rfl <;> rfl) (by omega) (by have := HN.out.1; unfold maxLen; omega) (by have := HN.out.1; omega) (Nat.zero_le _) V3.heap.size rfl ?_
    intro g cap w1 hown hgrow hat hlt
    have D1 : Hid (w1.heap[w.heap.size]? = some (.cells #[.int .u32 (kd : Int), .int .u64 (sec : Int), .int .u8 (st : Int), .int .u32 (ct : Int)] 60 (0, 0)) ∧ BlkAt w1 bb gb rb db m (.slice la n lc)) := ⟨(hgrow.block _ (Array.getElem?_eq_some_iff.1 X3.out.1).1 (fun e => HN.out.2.2.2 e.symm)).trans X3.out.1, (hgrow.block _ (Array.getElem?_eq_some_iff.1 X3.out.2.1).1 (fun e => HN.out.2.1 _ e.symm rfl)).trans X3.out.2.1⟩
    have hgb : g ≠ bb := by
      rcases hat with h | h
      · exact HN.out.2.1 g h
      · have := (Array.getElem?_eq_some_iff.1 X3.out.2.1).1; omega
    have HM : Hid (BlkAt (w1.setCell ⟨bb, 23, none⟩ (.slice (some ⟨g, 0, none⟩) (n + 1) cap)) bb gb rb db m (.slice (some ⟨g, 0, none⟩) (n + 1) cap) ∧ (w1.setCell ⟨bb, 23, none⟩ (.slice (some ⟨g, 0, none⟩) (n + 1) cap)).ownsRow 0 60 4 (.slice (some ⟨g, 0, none⟩) (n + 1) cap) (n + 1) (rows ++ [.int .u32 (kd : Int), .int .u64 (sec : Int), .int .u8 (st : Int), .int .u32 (ct : Int)]) ∧ g ≠ bb ∧ ((Value.slice la n lc).ownBlock = some g ∨ w.heap.size ≤ g) ∧ Below 0 w (w1.setCell ⟨bb, 23, none⟩ (.slice (some ⟨g, 0, none⟩) (n + 1) cap)) ∧ ∀ k, k < w.heap.size → k ≠ bb → (Value.slice la n lc).ownBlock ≠ some k → (w1.setCell ⟨bb, 23, none⟩ (.slice (some ⟨g, 0, none⟩) (n + 1) cap)).heap[k]? = w.heap[k]?) := by
      have hbs := X3.out.2.2.2
      refine ⟨(heap_setCell_same w1 bb 23 _ 78 _ D1.out.2).trans rfl, own_kept hown (fun k hk => heap_setCell_other w1 ⟨bb, 23, none⟩ k _ (by simp [Value.ownBlock] at hk; subst hk; exact hgb)), hgb, hat.imp id (fun e => by have := hbs.size; omega), ⟨?_, ?_, ?_, ?_, fun k hk => absurd hk (Nat.not_lt_zero _)⟩, fun k hk hkb hko => ?_⟩
      · exact hgrow.os.trans hbs.os
      · exact hgrow.tape.trans hbs.tape
      · exact hgrow.output.trans hbs.output
      · rw [World.size_setCell]; exact Nat.le_trans hbs.size hgrow.size
      · refine (heap_setCell_other w1 ⟨bb, 23, none⟩ k _ hkb).trans ((hgrow.block k (Nat.lt_of_lt_of_le hk hbs.size) (fun e => hko e.symm)).trans (hbs.block k hk))
    have HQ : Hid ((w1.setCell ⟨bb, 23, none⟩ (.slice (some ⟨g, 0, none⟩) (n + 1) cap)).heap[w.heap.size]? = some (.cells #[.int .u32 (kd : Int), .int .u64 (sec : Int), .int .u8 (st : Int), .int .u32 (ct : Int)] 60 (0, 0))) := (heap_setCell_other w1 ⟨bb, 23, none⟩ _ _ HN.out.2.2.1).trans D1.out.1
    clear hown hgrow hat hlt hgb
    refine hK1.out _ _ ⟨cellOf D1.out.1 0 _ rfl, cellOf D1.out.1 1 _ rfl, cellOf D1.out.1 2 _ rfl, cellOf D1.out.1 3 _ rfl⟩ (fun h4 => ?_)
    clear hK1 K1 H3 X3 HN3
    (try simp only [Act.put, List.getElem_toArray, List.getElem_cons_succ, List.getElem_cons_zero, List.setIfInBounds_toArray, List.set_cons_zero, List.set_cons_succ])
    refine wpAnyH_take (i := 8) (v := ?_) rfl (by kernel_rfl) (by kernel_rfl) (by kernel_rfl) (fun _ _ _ h => h) (Or.inl ⟨by kernel_rfl, ?_⟩) h4 ?_
    rotate_left
    · intro w hSw; (try dsimp only at hSw); go_simp; try (with_reducible rfl)
    (try simp only [Act.put, List.getElem_toArray, List.getElem_cons_succ, List.getElem_cons_zero, List.setIfInBounds_toArray, List.set_cons_zero, List.set_cons_succ])
    refine wpAnyH_take (i := 9) (v := ?_) rfl (by kernel_rfl) (by kernel_rfl) (by kernel_rfl) (fun _ _ _ h => h) (Or.inl ⟨by kernel_rfl, ?_⟩) h4 ?_
    rotate_left
    · intro w hSw; (try dsimp only at hSw); go_simp; try (with_reducible rfl)
    (try simp only [Act.put, List.getElem_toArray, List.getElem_cons_succ, List.getElem_cons_zero, List.setIfInBounds_toArray, List.set_cons_zero, List.set_cons_succ])
    refine wpAnyH_ready (rs := [10]) (by kernel_rfl) (by simp) ?_
    refine AllReadyH.cons rfl (fun K1 hK1 => ?_) AllReadyH.nil
    have m1 := cellOf D1.out.2 23 (.slice la n lc) rfl
    have m2 := frozenOf D1.out.2 23
    go_simp
    clear m1 m2 D1
    generalize w1.setCell ⟨bb, 23, none⟩ (.slice (some ⟨g, 0, none⟩) (n + 1) cap) = w4 at *
    refine hK1.out _ _ ⟨cellOf HQ.out 0 _ rfl, cellOf HQ.out 1 _ rfl, cellOf HQ.out 2 _ rfl, cellOf HQ.out 3 _ rfl⟩ (fun h5 => ?_)
    clear hK1 K1 h4
    (try simp only [Act.put, List.getElem_toArray, List.getElem_cons_succ, List.getElem_cons_zero, List.setIfInBounds_toArray, List.set_cons_zero, List.set_cons_succ])
    refine wpAnyH_done (by kernel_rfl) ?_ _
    clear h5
    go_wp2_with fail
    first | (refine bodyPost_ret (results_none rfl _ _ _) rfl ?_) | go_end0 | skip
    exact ⟨rfl, g, cap, HM.out⟩
end Go.Proofs.Ytlkhjekakbckmaa

/- Layer 19: what a request does, whole. -/
namespace Go.Proofs.Ytlkhjekakbckmaa
open Go.RowKit Go.Maps
set_option linter.unusedVariables false
set_option linter.unusedSimpArgs false
set_option maxRecDepth 100000
/-- what a request comes to: so many bytes to be written, these, its end, the disk then -/
structure Us where
  n : Nat
  g : Nat → Nat
  st : Nat
  K : D.Dk
def doK (kd sec R W : Nat) (fo nm : Nat → Nat) (K : D.Dk) : Us :=
  if kd = 0 then (if R = 0 ∧ mvB W = true then (if D.readE K sec W = 0 then ⟨W, fun i => K.M (sec * 512 + i), 0, D.askK K⟩ else ⟨0, fun _ => 0, 1, D.askK K⟩) else ⟨0, fun _ => 0, 1, K⟩)
  else if kd = 1 then (if W = 0 ∧ mvB R = true then ⟨0, fun _ => 0, endN (D.writeE K sec R), D.writeK K sec R fo⟩ else ⟨0, fun _ => 0, 1, K⟩)
  else if kd = 4 then (if R = 0 ∧ W = 0 then ⟨0, fun _ => 0, endN (D.askE K), D.flushK K⟩ else ⟨0, fun _ => 0, 1, K⟩)
  else if kd = 8 then (if R = 0 ∧ W = 20 then ⟨20, nm, 0, K⟩ else ⟨0, fun _ => 0, 1, K⟩)
  else ⟨0, fun _ => 0, 2, K⟩
theorem reads_none {F : Nat → Prop} {w : World} {f : Nat → Nat} : ReadsF F w (.slice none 0 0) 0 f := .inl ⟨rfl, none, 0, by omega, rfl⟩
theorem name_reads {F : Nat → Prop} {w : World} {bb gb rb db : Nat} {m : Nat → Nat} {lv : Value} (h : BlkAt w bb gb rb db m lv) (hF : ¬ F bb) : ReadsF F w (.slice (some ⟨bb, 3, none⟩) 20 20) 20 m := by
  refine .inr ⟨bb, 3, 20, rfl, hF, Nat.le_refl _, by omega, fun i hi => ?_⟩
  refine cellOf h (3 + i) _ ?_
  have : i = 0 ∨ i = 1 ∨ i = 2 ∨ i = 3 ∨ i = 4 ∨ i = 5 ∨ i = 6 ∨ i = 7 ∨ i = 8 ∨ i = 9 ∨ i = 10 ∨ i = 11 ∨ i = 12 ∨ i = 13 ∨ i = 14 ∨ i = 15 ∨ i = 16 ∨ i = 17 ∨ i = 18 ∨ i = 19 := by omega
  rcases this with rfl | rfl | rfl | rfl | rfl | rfl | rfl | rfl | rfl | rfl | rfl | rfl | rfl | rfl | rfl | rfl | rfl | rfl | rfl | rfl <;> rfl
theorem gat_le {M : Nat → Nat} (hM : ∀ a, M a ≤ 255) (l : List Seg) (f n i : Nat) : (gatL M l f n).getD i 0 ≤ 255 := by
  unfold gatL
  rw [List.getD_eq_getElem?_getD, List.getElem?_map]
  cases h : (List.take n (List.drop f (addrs false l)))[i]? with
  | none => simp
  | some x => simpa using hM x
section
variable {sz : Nat} {w : World} {bb gb rb db bm kk kd sec L c ta tl R W : Nat} {a : Option Addr} {m : Nat → Nat} {lv : Value} {F : Nat → Prop} {M : Nat → Nat} {l : List Seg} {K : D.Dk}
theorem do_any (h : BlkAt w bb gb rb db m lv) (hd : D.DiskAt w db bm K) (hr : RamAt w F rb sz kk (.pointer none) M) (hs : SegIn 0 w (.slice a L c) l) (hl : l.length ≤ 1000) (hok : ∀ s ∈ l, SegOk sz s) (hz : sz ≤ 8192) (hF : ¬ F bb) (hn : bb ≠ db ∧ bb ≠ bm) (hsec : sec < 18446744073709551616) (hR : 16 + R = sizeN false l) (hR8 : R ≤ 8000) (hW : W < 18446744073709551616) :
    Calls Try.prog 52 #[.pointer (some ⟨bb, 0, none⟩), .agg (rqC kd sec a L c ta tl R W)] w fun e w' => ∃ v st, e = .returned (.tuple #[v, .int .u8 st]) ∧ (fun v st w' => st = ((doK kd sec R W (fun i => (gatL M l 16 R).getD i 0) m K).st : Int) ∧ ReadsF F w' v (doK kd sec R W (fun i => (gatL M l 16 R).getD i 0) m K).n (doK kd sec R W (fun i => (gatL M l 16 R).getD i 0) m K).g ∧ D.DiskAt w' db bm (doK kd sec R W (fun i => (gatL M l 16 R).getD i 0) m K).K ∧ D.Two db bm w w') v st w' := by
  have hlt : ∀ k, F k → k < w.heap.size := hr.lt
  by_cases k0 : kd = 0
  · subst k0
    refine do_0 (P := fun v st w' => st = ((doK 0 sec R W (fun i => (gatL M l 16 R).getD i 0) m K).st : Int) ∧ ReadsF F w' v (doK 0 sec R W (fun i => (gatL M l 16 R).getD i 0) m K).n (doK 0 sec R W (fun i => (gatL M l 16 R).getD i 0) m K).g ∧ D.DiskAt w' db bm (doK 0 sec R W (fun i => (gatL M l 16 R).getD i 0) m K).K ∧ D.Two db bm w w') (fun V hV => ?_)
    have t0 : D.Two db bm w V := D.Two.of_below hV
    by_cases hc : R = 0 ∧ mvB W = true
    · by_cases hE : D.readE K sec W = 0
      · have e : doK 0 sec R W (fun i => (gatL M l 16 R).getD i 0) m K = ⟨W, fun i => K.M (sec * 512 + i), 0, D.askK K⟩ := by unfold doK; rw [if_pos rfl, if_pos hc, if_pos hE]
        rw [e]
        obtain ⟨rfl, hm⟩ := hc
        refine (in_good (below_box h hV) (hd.step hV) hn hsec hW hm hE).mono ?_
        rintro e w' ⟨g, rfl, h1, h2, h3, h4⟩
        refine ⟨_, _, rfl, rfl, ?_, h3, t0.trans h4⟩
        by_cases hW0 : W = 0
        · subst hW0
          exact .inl ⟨rfl, _, 0, by omega, rfl⟩
        · refine .inr ⟨g, 0, W, rfl, fun hf => by have := hlt g hf; have := hV.size; omega, Nat.le_refl _, ?_, fun i hi => ?_⟩
          · have : mvB W = true := hm
            unfold mvB at this
            simp at this
            omega
          · rw [Nat.zero_add]
            exact cellOf h1 i _ (by rw [List.getElem?_toArray]; exact D.rowK_get _ _ _ _ hi)
      · have e : doK 0 sec R W (fun i => (gatL M l 16 R).getD i 0) m K = ⟨0, fun _ => 0, 1, D.askK K⟩ := by unfold doK; rw [if_pos rfl, if_pos hc, if_neg hE]
        rw [e]
        obtain ⟨rfl, hm⟩ := hc
        refine (in_bad (below_box h hV) (hd.step hV) hn hsec hW hm hE).mono ?_
        rintro e w' ⟨rfl, h3, h4⟩
        exact ⟨_, _, rfl, rfl, reads_none, h3, t0.trans h4⟩
    · have e : doK 0 sec R W (fun i => (gatL M l 16 R).getD i 0) m K = ⟨0, fun _ => 0, 1, K⟩ := by unfold doK; rw [if_pos rfl, if_neg hc]
      rw [e]
      refine (in_no hc).mono ?_
      rintro e w' ⟨rfl, hb⟩
      exact ⟨_, _, rfl, rfl, reads_none, (hd.step hV).step hb, t0.trans (D.Two.of_below hb)⟩
  by_cases k1 : kd = 1
  · subst k1
    refine do_1 (P := fun v st w' => st = ((doK 1 sec R W (fun i => (gatL M l 16 R).getD i 0) m K).st : Int) ∧ ReadsF F w' v (doK 1 sec R W (fun i => (gatL M l 16 R).getD i 0) m K).n (doK 1 sec R W (fun i => (gatL M l 16 R).getD i 0) m K).g ∧ D.DiskAt w' db bm (doK 1 sec R W (fun i => (gatL M l 16 R).getD i 0) m K).K ∧ D.Two db bm w w') (fun V hV => ?_)
    have t0 : D.Two db bm w V := D.Two.of_below hV
    by_cases hc : W = 0 ∧ mvB R = true
    · have e : doK 1 sec R W (fun i => (gatL M l 16 R).getD i 0) m K = ⟨0, fun _ => 0, endN (D.writeE K sec R), D.writeK K sec R (fun i => (gatL M l 16 R).getD i 0)⟩ := by unfold doK; rw [if_neg (by decide), if_pos rfl, if_pos hc]
      rw [e]
      obtain ⟨rfl, hm⟩ := hc
      have hroom : roomB false l 16 R = true := by unfold roomB; exact decide_eq_true (by omega)
      have hgl : (gatL M l 16 R).length = R := by unfold gatL; rw [List.length_map]; exact room_len hroom
      refine (out_go (below_box h hV) (hd.step hV) hn hsec hm (gl := gatL M l 16 R) ⟨hgl, gat_le hr.le l 16 R⟩ (fun V2 hV2 => ?_)).mono ?_
      · have hb2 := below_to hV hV2
        refine (gather_any hz (hr.below hb2) (own_kept hs (fun g hg => hb2.block g (World.ownsRow.lt hs g hg).2)) hl hok ta tl 16 R (by decide) (by omega) (fun _ => hR8)).mono ?_
        rintro e w' ⟨hb, hor⟩
        rcases hor with ⟨hno, _⟩ | ⟨_, a', c', rfl, ho⟩
        · rw [hroom] at hno; cases hno
        · exact ⟨hb, a', c', rfl, ho⟩
      · rintro e w' ⟨rfl, h3, h4⟩
        exact ⟨_, rfl, rfl, reads_none, h3, t0.trans h4⟩
    · have e : doK 1 sec R W (fun i => (gatL M l 16 R).getD i 0) m K = ⟨0, fun _ => 0, 1, K⟩ := by unfold doK; rw [if_neg (by decide), if_pos rfl, if_neg hc]
      rw [e]
      refine (out_no hc).mono ?_
      rintro e w' ⟨rfl, hb⟩
      exact ⟨_, rfl, rfl, reads_none, (hd.step hV).step hb, t0.trans (D.Two.of_below hb)⟩
  by_cases k4 : kd = 4
  · subst k4
    refine do_4 (P := fun v st w' => st = ((doK 4 sec R W (fun i => (gatL M l 16 R).getD i 0) m K).st : Int) ∧ ReadsF F w' v (doK 4 sec R W (fun i => (gatL M l 16 R).getD i 0) m K).n (doK 4 sec R W (fun i => (gatL M l 16 R).getD i 0) m K).g ∧ D.DiskAt w' db bm (doK 4 sec R W (fun i => (gatL M l 16 R).getD i 0) m K).K ∧ D.Two db bm w w') (fun V hV => ?_)
    have t0 : D.Two db bm w V := D.Two.of_below hV
    by_cases hc : R = 0 ∧ W = 0
    · have e : doK 4 sec R W (fun i => (gatL M l 16 R).getD i 0) m K = ⟨0, fun _ => 0, endN (D.askE K), D.flushK K⟩ := by unfold doK; rw [if_neg (by decide), if_neg (by decide), if_pos rfl, if_pos hc]
      rw [e]
      obtain ⟨rfl, rfl⟩ := hc
      refine (flush_go (below_box h hV) (hd.step hV)).mono ?_
      rintro e w' ⟨rfl, h3, h4⟩
      exact ⟨_, rfl, rfl, reads_none, h3, t0.trans h4⟩
    · have e : doK 4 sec R W (fun i => (gatL M l 16 R).getD i 0) m K = ⟨0, fun _ => 0, 1, K⟩ := by unfold doK; rw [if_neg (by decide), if_neg (by decide), if_pos rfl, if_neg hc]
      rw [e]
      refine (flush_no hc).mono ?_
      rintro e w' ⟨rfl, hb⟩
      exact ⟨_, rfl, rfl, reads_none, (hd.step hV).step hb, t0.trans (D.Two.of_below hb)⟩
  by_cases k8 : kd = 8
  · subst k8
    refine do_8 (P := fun v st w' => st = ((doK 8 sec R W (fun i => (gatL M l 16 R).getD i 0) m K).st : Int) ∧ ReadsF F w' v (doK 8 sec R W (fun i => (gatL M l 16 R).getD i 0) m K).n (doK 8 sec R W (fun i => (gatL M l 16 R).getD i 0) m K).g ∧ D.DiskAt w' db bm (doK 8 sec R W (fun i => (gatL M l 16 R).getD i 0) m K).K ∧ D.Two db bm w w') (fun V hV => ?_)
    have t0 : D.Two db bm w V := D.Two.of_below hV
    by_cases hc : R = 0 ∧ W = 20
    · have e : doK 8 sec R W (fun i => (gatL M l 16 R).getD i 0) m K = ⟨20, m, 0, K⟩ := by unfold doK; rw [if_neg (by decide), if_neg (by decide), if_neg (by decide), if_pos rfl, if_pos hc]
      rw [e]
      obtain ⟨rfl, rfl⟩ := hc
      refine id_go.mono ?_
      rintro e w' ⟨rfl, hb⟩
      exact ⟨_, _, rfl, rfl, name_reads (below_box h (below_to hV hb)) hF, (hd.step hV).step hb, t0.trans (D.Two.of_below hb)⟩
    · have e : doK 8 sec R W (fun i => (gatL M l 16 R).getD i 0) m K = ⟨0, fun _ => 0, 1, K⟩ := by unfold doK; rw [if_neg (by decide), if_neg (by decide), if_neg (by decide), if_pos rfl, if_neg hc]
      rw [e]
      refine (id_no hc).mono ?_
      rintro e w' ⟨rfl, hb⟩
      exact ⟨_, _, rfl, rfl, reads_none, (hd.step hV).step hb, t0.trans (D.Two.of_below hb)⟩
  have e : doK kd sec R W (fun i => (gatL M l 16 R).getD i 0) m K = ⟨0, fun _ => 0, 2, K⟩ := by unfold doK; rw [if_neg k0, if_neg k1, if_neg k4, if_neg k8]
  rw [e]
  refine (do_none k0 k1 k4 k8).mono ?_
  rintro e w' ⟨rfl, hb⟩
  exact ⟨_, _, rfl, rfl, reads_none, hd.step hb, D.Two.of_below hb⟩
end
end Go.Proofs.Ytlkhjekakbckmaa

/- Layer 19: a device with its memory and its disk, as it goes on. -/
namespace Go.Proofs.Ytlkhjekakbckmaa
open Go.RowKit Go.Maps
set_option linter.unusedVariables false
set_option linter.unusedSimpArgs false
set_option maxRecDepth 100000
/-- no block of the memory, the disk, the device -/
structure Oth (db bm bb : Nat) (F : Nat → Prop) (k : Nat) : Prop where
  f : ¬ F k
  d : k ≠ db
  m : k ≠ bm
  b : k ≠ bb
/-- other blocks are as they were -/
structure Fr (db bm bb : Nat) (w : World) (F : Nat → Prop) (V : World) (F' : Nat → Prop) : Prop where
  bel : Below 0 w V
  blk : ∀ k, k < w.heap.size → Oth db bm bb F k → V.heap[k]? = w.heap[k]?
  old : ∀ k, F' k → F k ∨ w.heap.size ≤ k
section
variable {db bm bb : Nat} {w V V' : World} {F F' F'' : Nat → Prop}
theorem Fr.oth (h : Fr db bm bb w F V F') {k : Nat} (hk : k < w.heap.size) (ho : Oth db bm bb F k) : Oth db bm bb F' k := ⟨fun hf => (h.old k hf).elim ho.f (fun h => by omega), ho.d, ho.m, ho.b⟩
theorem Fr.trans (h : Fr db bm bb w F V F') (g : Fr db bm bb V F' V' F'') : Fr db bm bb w F V' F'' :=
  ⟨h.bel.trans g.bel, fun k hk ho => (g.blk k (Nat.lt_of_lt_of_le hk h.bel.size) (h.oth hk ho)).trans (h.blk k hk ho), fun k hf => (g.old k hf).elim (h.old k) (fun h2 => .inr (Nat.le_trans h.bel.size h2))⟩
theorem Fr.below (hb : Below w.heap.size w V) : Fr db bm bb w F V F := ⟨hb.mono (Nat.zero_le _), fun k hk _ => hb.block k hk, fun k hf => .inl hf⟩
theorem Fr.two (h : D.Two db bm w V) : Fr db bm bb w F V F := ⟨h.1, fun k hk ho => h.2 k hk ho.d ho.m, fun k hf => .inl hf⟩
theorem Fr.step (h : Step F w F' V) : Fr db bm bb w F V F' := ⟨⟨h.os, h.tape, h.output, h.size, fun k hk => absurd hk (Nat.not_lt_zero _)⟩, fun k hk ho => h.block k hk ho.f, h.old⟩
theorem Fr.box (h : Fr db bm bb w F V F') {k : Nat} {o : Obj} (hk : w.heap[k]? = some o) (ho : Oth db bm bb F k) : V.heap[k]? = some o ∧ Oth db bm bb F' k := ⟨(h.blk k (Array.getElem?_eq_some_iff.1 hk).1 ho).trans hk, h.oth (Array.getElem?_eq_some_iff.1 hk).1 ho⟩
end
/-- a device over a memory and a disk -/
structure Dv (sz bb gb rb db bm : Nat) (m : Nat → Nat) (V : World) (kk : Nat) (F : Nat → Prop) (M : Nat → Nat) (K : D.Dk) (lv : Value) (n : Nat) (rows : List Value) : Prop where
  ram : RamAt V F rb sz kk (.pointer none) M
  disk : D.DiskAt V db bm K
  blk : BlkAt V bb gb rb db m lv
  log : V.ownsRow 0 60 4 lv n rows
  f1 : ¬ F db
  f2 : ¬ F bm
  f3 : ¬ F bb
  n1 : bb ≠ db
  n2 : bb ≠ bm
  lg : ∀ g, lv.ownBlock = some g → Oth db bm bb F g
section
variable {sz bb gb rb db bm kk kk' n : Nat} {m : Nat → Nat} {V V' : World} {F F' : Nat → Prop} {M M' : Nat → Nat} {K K' : D.Dk} {lv : Value} {rows : List Value}
theorem Dv.below (h : Dv sz bb gb rb db bm m V kk F M K lv n rows) (hb : Below V.heap.size V V') : Dv sz bb gb rb db bm m V' kk F M K lv n rows :=
  ⟨h.ram.below hb, h.disk.step hb, below_box h.blk hb, own_kept h.log (fun g hg => hb.block g (World.ownsRow.lt h.log g hg).2), h.f1, h.f2, h.f3, h.n1, h.n2, h.lg⟩
theorem Dv.two (h : Dv sz bb gb rb db bm m V kk F M K lv n rows) (hd : D.DiskAt V' db bm K') (ht : D.Two db bm V V') : Dv sz bb gb rb db bm m V' kk F M K' lv n rows :=
  ⟨h.ram.kept ht.size (fun k hk => ht.2 k (h.ram.lt k hk) (fun e => h.f1 (e ▸ hk)) (fun e => h.f2 (e ▸ hk))), hd, ht.heap h.blk h.n1 h.n2, own_kept h.log (fun g hg => ht.2 g (World.ownsRow.lt h.log g hg).2 (h.lg g hg).d (h.lg g hg).m), h.f1, h.f2, h.f3, h.n1, h.n2, h.lg⟩
theorem Dv.step (h : Dv sz bb gb rb db bm m V kk F M K lv n rows) (hr : RamAt V' F' rb sz kk' (.pointer none) M') (hs : Step F V F' V') : Dv sz bb gb rb db bm m V' kk' F' M' K lv n rows := by
  have nf : ∀ k, k < V.heap.size → ¬ F k → ¬ F' k := fun k hk hf hf' => (hs.old k hf').elim hf (fun h => by omega)
  have l1 := h.disk.lt
  have l2 := (Array.getElem?_eq_some_iff.1 h.blk).1
  refine ⟨hr, ⟨(hs.block db l1.1 h.f1).trans h.disk.1, h.disk.2.1.kept (hs.block bm l1.2 h.f2), h.disk.2.2⟩, (hs.block bb l2 h.f3).trans h.blk, own_kept h.log (fun g hg => hs.block g (World.ownsRow.lt h.log g hg).2 (h.lg g hg).f), nf _ l1.1 h.f1, nf _ l1.2 h.f2, nf _ l2 h.f3, h.n1, h.n2, fun g hg => ⟨nf _ (World.ownsRow.lt h.log g hg).2 (h.lg g hg).f, (h.lg g hg).d, (h.lg g hg).m, (h.lg g hg).b⟩⟩
end
/-- a chain's row beside it -/
structure Sg (db bm bb : Nat) (V : World) (F : Nat → Prop) (v : Value) (l : List Seg) : Prop where
  row : SegIn 0 V v l
  oth : ∀ g, v.ownBlock = some g → Oth db bm bb F g
theorem Sg.fr {db bm bb : Nat} {V V' : World} {F F' : Nat → Prop} {v : Value} {l : List Seg} (h : Sg db bm bb V F v l) (g : Fr db bm bb V F V' F') : Sg db bm bb V' F' v l :=
  ⟨own_kept h.row (fun k hk => g.blk k (World.ownsRow.lt h.row k hk).2 (h.oth k hk)), fun k hk => g.oth (World.ownsRow.lt h.row k hk).2 (h.oth k hk)⟩
end Go.Proofs.Ytlkhjekakbckmaa
