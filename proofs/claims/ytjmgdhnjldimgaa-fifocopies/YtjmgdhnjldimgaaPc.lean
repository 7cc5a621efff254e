/- Copy, bytes.Equal, Same. -/
import Derived.Test.YtjmgdhnjldimgaaPb
namespace Go.Proofs.Ytjmgdhnjldimgaa
open Go.RowKit
set_option linter.unusedVariables false
set_option linter.unusedSimpArgs false
set_option maxRecDepth 100000
theorem fifoC_one (K : Fi) (a : Option Addr) (n c : Nat) : (fifoC K (.slice a n c)).all (·.oneCell') = true := by simp [fifoC, Value.oneCell']
theorem info53 (K : Fi) (v : Value) : (Try.prog.info? 53).map (·.size) = some (fifoC K v).size := by show _ = some 4; kernel_rfl
def zeroC : Array Value := #[.slice none 0 0, .int .i64 0, .int .u64 0, .int .u64 0]
theorem zinfo53 : (Try.prog.info? 53).map (fun i => (i.zero, i.size)) = some (some (.agg zeroC), 4) := by kernel_rfl
set_option maxHeartbeats 2000000 in
theorem copy_any {w : World} {fb g : Nat} {K : Fi} (h : FifoAt w fb g K) :
    Calls Try.prog 16 #[.pointer (some ⟨fb, 0, none⟩)] w fun e w' => ∃ f2 g2, e = .returned (.pointer (some ⟨f2, 0, none⟩)) ∧ FifoAt w' f2 g2 K ∧ Below w.heap.size w w' ∧ w.heap.size ≤ f2 ∧ w.heap.size ≤ g2 := by
  obtain ⟨v, hx, ha, hg, hk⟩ := h
  obtain ⟨av, cv, hv⟩ := ha.reads.form
  have hle := hk.len
  have hrm := hk.rm.2
  generalize hn : K.l.length = n at *
  subst hv
  have X : Hid (Box 53 w fb (fifoC K (.slice av n cv)) ∧ WA w (.slice av n cv) g K.l ∧ K.Ok) := ⟨hx, ha, hk⟩
  clear hx ha hg hk
  go_enter Try.func16, Try.ntmps16
  go_upto_region 3 with fail
  refine wp_region_list ?_
  (refine wpList_step (fun KK hKK => ?_); go_simp; refine hKK _ _ ?_; clear hKK KK)
  (refine wpList_step (fun KK hKK => ?_); go_simp; refine hKK _ _ ?_; clear hKK KK)
  refine wpList_load_row rfl 53 _ rfl fb rfl 53 _ (0, 0) _ X.out.1 Try.underlying53 rfl (info53 K _) ?_
  refine wpList_alloc_zero 53 zeroC 4 zinfo53 rfl rfl ?_
  have b1 : Below w.heap.size w (w.alloc (.cells zeroC 53)) := (Below.refl _ _).alloc (Nat.le_refl _) _
  refine wpList_store_row rfl 53 _ _ rfl w.heap.size (fifoC K (.slice av n cv)) rfl rfl 53 zeroC (Box.new 53 w _) (info53 K _) rfl (fifoC_one K _ _ _) ?_
  have Y : Hid (Box 53 ((w.alloc (.cells zeroC 53)).setRow w.heap.size (fifoC K (.slice av n cv))) fb (fifoC K (.slice av n cv)) ∧ Box 53 ((w.alloc (.cells zeroC 53)).setRow w.heap.size (fifoC K (.slice av n cv))) w.heap.size (fifoC K (.slice av n cv)) ∧ WA ((w.alloc (.cells zeroC 53)).setRow w.heap.size (fifoC K (.slice av n cv))) (.slice av n cv) g K.l ∧ Below w.heap.size w ((w.alloc (.cells zeroC 53)).setRow w.heap.size (fifoC K (.slice av n cv)))) := by
    have hu : Upon w.heap.size (w.alloc (.cells zeroC 53)) ((w.alloc (.cells zeroC 53)).setRow w.heap.size (fifoC K (.slice av n cv))) := upon_row (Upon.refl _ _) _
    have hb : Below w.heap.size w ((w.alloc (.cells zeroC 53)).setRow w.heap.size (fifoC K (.slice av n cv))) := b1.trans (hu.below (Nat.le_refl _) b1.size)
    exact ⟨X.out.1.step hb, setRow_heap _ _ zeroC _ 53 (0, 0) (Box.new 53 w _), X.out.2.1.step hb, hb⟩
  clear b1
  generalize (w.alloc (.cells zeroC 53)).setRow w.heap.size (fifoC K (.slice av n cv)) = w1 at *
  have c0 := Y.out.1.cell 0 (.slice av n cv) rfl
  go_upto_region 4 with fail
  refine wp_region_list ?_
  (refine wpList_step (fun KK hKK => ?_); go_simp; refine hKK _ _ ?_; clear hKK KK)
  (refine wpList_step (fun KK hKK => ?_); go_simp; refine hKK _ _ ?_; clear hKK KK)
  (refine wpList_step (fun KK hKK => ?_); go_simp; refine hKK _ _ ?_; clear hKK KK)
  (refine wpList_step (fun KK hKK => ?_); go_simp; refine hKK _ _ ?_; clear hKK KK)
  refine wpList_step (fun KK hKK => ?_)
  go_simp
  refine (own_any w.heap.size Y.out.2.2.1.reads (by omega)).mono ?_
  rintro e w2 ⟨v2, g2, rfl, h1, h2, h3⟩
  have Z : Hid (WA w2 v2 g2 K.l ∧ Box 53 w2 w.heap.size (fifoC K (.slice av n cv)) ∧ Below w.heap.size w w2 ∧ w.heap.size ≤ g2 ∧ g2 < w2.heap.size) := by
    have s1 := Y.out.2.2.2.size
    have s2 := h2.size
    have s3 := Y.out.2.1.lt
    exact ⟨h1, Y.out.2.1.step h2, Y.out.2.2.2.trans (h2.mono s1), by omega, by omega⟩
  clear h1 h2 h3 Y c0
  have hform := Z.out.1.reads.form
  rw [hn] at hform
  obtain ⟨a2, cp2, hv⟩ := hform
  subst hv
  refine hKK _ _ ?_
  clear hKK KK
  have c0 := Z.out.2.1.cell 0 (.slice av n cv) rfl
  have f0 := Z.out.2.1.frozen 0
  go_upto_region 5 with fail
  have F : Hid (FifoAt (w2.setCell ⟨w.heap.size, 0, none⟩ (.slice a2 n cp2)) w.heap.size g2 K ∧ Below w.heap.size w (w2.setCell ⟨w.heap.size, 0, none⟩ (.slice a2 n cp2)) ∧ w.heap.size ≤ g2) := by
    obtain ⟨z1, z2, z3, z4, z5⟩ := Z.out
    have hu : Upon w.heap.size w2 (w2.setCell ⟨w.heap.size, 0, none⟩ (.slice a2 n cp2)) := (Upon.refl _ _).set 0 _
    exact ⟨⟨_, z2.set 0 _, wa_cells z2 z1 hu, by simpa using z5, X.out.2.2⟩, z3.setCell (Nat.le_refl _) _, z4⟩
  clear Z c0 f0 X
  generalize w2.setCell ⟨w.heap.size, 0, none⟩ (.slice a2 n cp2) = w3 at *
  go_wp2
  go_ret
  exact ⟨w.heap.size, g2, rfl, F.out.1, F.out.2.1, Nat.le_refl _, F.out.2.2⟩
/-- bytes as a text -/
def textB (l : List Nat) : ByteArray := (l.map fun x => ((x : Nat) : Int)).foldl (fun r n => r.push (UInt8.ofNat n.toNat)) ByteArray.empty
theorem textB_data (l : List Nat) (s : ByteArray) : ((l.map fun x => ((x : Nat) : Int)).foldl (fun r n => r.push (UInt8.ofNat n.toNat)) s).data.toList = s.data.toList ++ l.map UInt8.ofNat := by
  induction l generalizing s with
  | nil => simp
  | cons x l ih =>
    rw [List.map_cons, List.foldl_cons, ih]
    simp [ByteArray.push]
theorem ofNat_inj {x y : Nat} (hx : x ≤ 255) (hy : y ≤ 255) (h : UInt8.ofNat x = UInt8.ofNat y) : x = y := by
  have := congrArg UInt8.toNat h
  simp at this
  omega
theorem map_inj : ∀ {l k : List Nat}, (∀ x ∈ l, x ≤ 255) → (∀ x ∈ k, x ≤ 255) → l.map UInt8.ofNat = k.map UInt8.ofNat → l = k
  | [], [], _, _, _ => rfl
  | [], _ :: _, _, _, h => by simp at h
  | _ :: _, [], _, _, h => by simp at h
  | x :: l, y :: k, hl, hk, h => by
    rw [List.map_cons, List.map_cons, List.cons.injEq] at h
    rw [ofNat_inj (hl x (by simp)) (hk y (by simp)) h.1, map_inj (fun z hz => hl z (by simp [hz])) (fun z hz => hk z (by simp [hz])) h.2]
theorem textB_eq {l k : List Nat} (hl : ∀ x ∈ l, x ≤ 255) (hk : ∀ x ∈ k, x ≤ 255) : ((textB l).toList == (textB k).toList) = decide (l = k) := by
  have h1 : (textB l).data.toList = l.map UInt8.ofNat := by unfold textB; rw [textB_data]; simp
  have h2 : (textB k).data.toList = k.map UInt8.ofNat := by unfold textB; rw [textB_data]; simp
  rw [ByteArray.toList_eq, ByteArray.toList_eq, h1, h2, Bool.eq_iff_iff, decide_eq_true_iff, beq_iff_eq]
  constructor
  · exact map_inj hl hk
  · rintro rfl; rfl
theorem run_text {w : World} {v : Value} {d : Nat} {l : List Nat} (h : RL w v d l) : (convert 25 9 v).run Try.prog w = .ok (.string (textB l)) w := by
  obtain ⟨a, cap, rfl, h1, h2, h3⟩ := h
  rw [run_convert_bytes_string w 25 9 5 a l.length cap Try.underlying25 under5 Try.underlying9]
  cases a with
  | none =>
    have h0 : l = [] := by
      rcases h3 with h3 | ⟨off, e, _⟩
      · exact h3
      · cases e
    subst h0
    simp [Conv.bytesToString, textB]
  | some ad =>
    refine run_bytesToString w ad l.length cap (l.map fun x => ((x : Nat) : Int)) ?_
    have e : (l.map fun x => ((x : Nat) : Int)).map (Value.int .u8) = row8 l := by simp [row8]
    rw [e, ← row8_length l]
    refine run_loadCells_list (P := Try.prog) w ad (row8 l) (fun j u hu => ?_)
    obtain ⟨x, hx, rfl⟩ := row8_at hu
    rcases h3 with rfl | ⟨off, e, hl⟩
    · simp at hx
    · cases e
      rw [addr_add]
      exact hl j x hx
theorem wpList_text {w : World} {ops : Array Oper} {rest : List Oper} {o : Oper} {a : Act} {Q : Exit → Act → World → Prop} {v : Value} {d : Nat} {l : List Nat} (hgd : o.guard = none) (x : Operand) (ho : o.op = Op.convert 25 9 x) (hx : a.eval x = v) (h : RL w v d l) (hK : wpList Try.prog ops Q rest (a.put o.dst (.string (textB l))) w) : wpList Try.prog ops Q (o :: rest) a w := by
  refine wpList_plain hgd fun _ hKK => ?_
  unfold Oper.wp
  simp [execOp, ho, hx, run_text h, Result.andThen]
  exact hKK _ _ hK
set_option maxHeartbeats 1000000 in
theorem equal_any {w : World} {v1 v2 : Value} {d1 d2 : Nat} {l1 l2 : List Nat} (h1 : RL w v1 d1 l1) (h2 : RL w v2 d2 l2) (b1 : ∀ x ∈ l1, x ≤ 255) (b2 : ∀ x ∈ l2, x ≤ 255) : Calls Try.prog 24 #[v1, v2] w fun e w' => e = .returned (.bool (decide (l1 = l2))) ∧ w' = w := by
  have HT : Hid (((textB l1).toList == (textB l2).toList) = decide (l1 = l2)) := textB_eq b1 b2
  have X : Hid (RL w v1 d1 l1 ∧ RL w v2 d2 l2) := ⟨h1, h2⟩
  clear h1 h2 b1 b2
  obtain ⟨a1, c1, e1⟩ := X.out.1.form
  obtain ⟨a2, c2, e2⟩ := X.out.2.form
  subst e1 e2
  go_enter Try.func24, Try.ntmps24
  go_upto_region 1 with fail
  refine wp_region_list ?_
  (refine wpList_step (fun KK hKK => ?_); go_simp; refine hKK _ _ ?_; clear hKK KK)
  refine wpList_text rfl _ rfl rfl X.out.1 ?_
  (refine wpList_step (fun KK hKK => ?_); go_simp; refine hKK _ _ ?_; clear hKK KK)
  refine wpList_text rfl _ rfl rfl X.out.2 ?_
  generalize textB l1 = t1 at *
  generalize textB l2 = t2 at *
  go_wp2
  go_ret
  exact ⟨ret_bool HT.out, rfl⟩
set_option maxHeartbeats 1000000 in
theorem same_any {w : World} {f1 g1 f2 g2 : Nat} {K1 K2 : Fi} (h1 : FifoAt w f1 g1 K1) (h2 : FifoAt w f2 g2 K2) : Calls Try.prog 18 #[.pointer (some ⟨f1, 0, none⟩), .pointer (some ⟨f2, 0, none⟩)] w fun e w' => e = .returned (.bool (decide (K1.l = K2.l))) ∧ w' = w := by
  have X : Hid (FifoAt w f1 g1 K1 ∧ FifoAt w f2 g2 K2) := ⟨h1, h2⟩
  clear h1 h2
  go_enter Try.func18, Try.ntmps18
  go_wp2_with fail
  refine (all_any X.out.1).mono ?_
  rintro e w1 ⟨v1, rfl, a1, hw⟩
  rw [hw]
  clear hw w1
  have A1 : Hid (WA w v1 g1 K1.l) := a1
  clear a1
  obtain ⟨x1, c1, hv⟩ := A1.out.reads.form
  subst hv
  go_wp2_with fail
  refine (all_any X.out.2).mono ?_
  rintro e w1 ⟨v2, rfl, a2, hw⟩
  rw [hw]
  clear hw w1
  have A2 : Hid (WA w v2 g2 K2.l) := a2
  clear a2
  obtain ⟨x2, c2, hv⟩ := A2.out.reads.form
  subst hv
  go_wp2_with fail
  refine (equal_any A1.out.reads A2.out.reads X.out.1.ok.le X.out.2.ok.le).mono ?_
  rintro e w1 ⟨rfl, hw⟩
  rw [hw]
  clear hw w1
  go_wp2
  go_ret
  exact ⟨rfl, rfl⟩
end Go.Proofs.Ytjmgdhnjldimgaa
