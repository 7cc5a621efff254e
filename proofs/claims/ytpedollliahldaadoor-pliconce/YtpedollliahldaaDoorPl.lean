/- The call 'played' of the statements: calls at both sides. -/
import Derived.Test.YtpedollliahldaaDoorOp
import Derived.Test.YtpedollliahldaaDoorAw
namespace Go.Proofs.YtpedollliahldaaDoor
open Go.RowKit
set_option linter.unusedVariables false
set_option linter.unusedSimpArgs false
set_option maxRecDepth 100000
theorem wp_alloc_zero {w : World} {o : Oper} {a : Act} {KK : Act → World → Prop} {Q : Exit → Act → World → Prop} (t : TypeId) (c : Array Value) (n : Nat) (hi : (Tryd.prog.info? t).map (fun i => (i.zero, i.size)) = some (some (.agg c), n)) (hop : o.op = Op.alloc t) (h : KK (a.put o.dst (.pointer (some ⟨w.heap.size, 0, none⟩))) (w.alloc (.cells c t))) : o.wp Tryd.prog a w KK Q := by
  unfold Oper.wp
  simp [execOp, hop, run_alloc_zero t c n hi w, Result.andThen]
  exact h
theorem resultsP {fn : Func} {p q t : Tmp} (h : fn.results = #[.cell p 28, .cell q 34, .tmp t]) (tmps : Array Value) (w : World) (b c : Nat) (S S2 : St)
    (hp : tmps.getD p undef = .pointer (some ⟨b, 0, none⟩)) (hq : tmps.getD q undef = .pointer (some ⟨c, 0, none⟩)) (h1 : Box 28 w b (progC S)) (h2 : Box 34 w c (docC S2)) :
    (results fn tmps).run Tryd.prog w = .ok (.tuple #[.agg (progC S), .agg (docC S2), tmps.getD t undef]) w := by
  have hp' : tmps[p]?.getD undef = .pointer (some ⟨b, 0, none⟩) := by simpa using hp
  have hq' : tmps[q]?.getD undef = .pointer (some ⟨c, 0, none⟩) := by simpa using hq
  simp [results, h, hp', hq', asAddr, load_prog h1, load_doc h2]
/-- the four states of 'played' -/
def Py (w V : World) (R Q Sp Sd : St) : Prop := Box 28 V w.heap.size (progC R) ∧ Box 34 V (w.heap.size + 1) (docC Q) ∧ Box 28 V (w.heap.size + 2) (progC Sp) ∧ Box 34 V (w.heap.size + 3) (docC Sd) ∧ Below w.heap.size w V ∧ TabLies V ∧ 0 < w.heap.size
section
variable {w V V' : World} {R Q Sp Sd S2 : St} {r : Nat}
theorem Py.step (h : Py w V R Q Sp Sd) (hb : Below V.heap.size V V') : Py w V' R Q Sp Sd := by
  obtain ⟨h1, h2, h3, h4, h5, h6, h7⟩ := h
  exact ⟨h1.step hb, h2.step hb, h3.step hb, h4.step hb, below2 h5 hb, h6.step hb, h7⟩
theorem Py.lt (h : Py w V R Q Sp Sd) : w.heap.size + 3 < V.heap.size := h.2.2.2.1.lt
theorem Py.prog (h : Py w V R Q Sp Sd) (hx : Box 28 V' (w.heap.size + 2) (progC S2)) (hu : Upon (w.heap.size + 2) V V') : Py w V' R Q S2 Sd := by
  obtain ⟨h1, h2, h3, h4, h5, h6, h7⟩ := h
  exact ⟨hu.box h1 (by omega), hu.box h2 (by omega), hx, hu.box h4 (by omega), h5.trans (hu.below (by omega) h5.size), h6.upon hu (by omega), h7⟩
theorem Py.doc (h : Py w V R Q Sp Sd) (hx : Box 34 V' (w.heap.size + 3) (docC S2)) (hu : Upon (w.heap.size + 3) V V') : Py w V' R Q Sp S2 := by
  obtain ⟨h1, h2, h3, h4, h5, h6, h7⟩ := h
  exact ⟨hu.box h1 (by omega), hu.box h2 (by omega), hu.box h3 (by omega), hx, h5.trans (hu.below (by omega) h5.size), h6.upon hu (by omega), h7⟩
theorem Py.rprog (h : Py w V R Q Sp Sd) (hx : Box 28 V' w.heap.size (progC S2)) (hu : Upon w.heap.size V V') : Py w V' S2 Q Sp Sd := by
  obtain ⟨h1, h2, h3, h4, h5, h6, h7⟩ := h
  exact ⟨hx, hu.box h2 (by omega), hu.box h3 (by omega), hu.box h4 (by omega), h5.trans (hu.below (by omega) h5.size), h6.upon hu (by omega), h7⟩
theorem Py.rdoc (h : Py w V R Q Sp Sd) (hx : Box 34 V' (w.heap.size + 1) (docC S2)) (hu : Upon (w.heap.size + 1) V V') : Py w V' R S2 Sp Sd := by
  obtain ⟨h1, h2, h3, h4, h5, h6, h7⟩ := h
  exact ⟨hu.box h1 (by omega), hx, hu.box h3 (by omega), hu.box h4 (by omega), h5.trans (hu.below (by omega) h5.size), h6.upon hu (by omega), h7⟩
theorem Py.other (h : Py w V R Q Sp Sd) (hu : Upon r V V') (hr : w.heap.size + 3 < r) : Py w V' R Q Sp Sd := by
  obtain ⟨h1, h2, h3, h4, h5, h6, h7⟩ := h
  exact ⟨hu.box h1 (by omega), hu.box h2 (by omega), hu.box h3 (by omega), hu.box h4 (by omega), h5.trans (hu.below (by omega) h5.size), h6.upon hu (by omega), h7⟩
/-- .. and the next one in a block of its own -/
def Pz (w V : World) (R Q Sp Sd N : St) (r : Nat) : Prop := Py w V R Q Sp Sd ∧ Box 34 V r (docC N) ∧ w.heap.size + 3 < r
theorem Pz.step {N : St} (h : Pz w V R Q Sp Sd N r) (hb : Below V.heap.size V V') : Pz w V' R Q Sp Sd N r := ⟨h.1.step hb, h.2.1.step hb, h.2.2⟩
theorem Pz.new (h : Py w V R Q Sp Sd) : Pz w (V.alloc (.cells (docC zeroS) 34)) R Q Sp Sd zeroS V.heap.size := ⟨h.step ((Below.refl _ _).alloc (Nat.le_refl _) _), Box.new 34 V _, h.lt⟩
theorem Pz.prog {N : St} (h : Pz w V R Q Sp Sd N r) (hx : Box 28 V' (w.heap.size + 2) (progC S2)) (hu : Upon (w.heap.size + 2) V V') : Pz w V' R Q S2 Sd N r := ⟨h.1.prog hx hu, hu.box h.2.1 (by have := h.2.2; omega), h.2.2⟩
theorem Pz.next {N : St} (h : Pz w V R Q Sp Sd N r) (hx : Box 34 V' r (docC S2)) (hu : Upon r V V') : Pz w V' R Q Sp Sd S2 r := ⟨h.1.other hu h.2.2, hx, h.2.2⟩
theorem Pz.doc {N : St} (h : Pz w V R Q Sp Sd N r) (hx : Box 34 V' (w.heap.size + 3) (docC S2)) (hu : Upon (w.heap.size + 3) V V') : Pz w V' R Q Sp S2 N r := ⟨h.1.doc hx hu, hu.box h.2.1 (by have := h.2.2; omega), h.2.2⟩
end
theorem Py.new (w : World) (ht : TabLies w) : Py w ((((w.alloc (.cells (progC zeroS) 28)).alloc (.cells (docC zeroS) 34)).alloc (.cells (progC zeroS) 28)).alloc (.cells (docC zeroS) 34)) zeroS zeroS zeroS zeroS := by
  have b1 : Below w.heap.size w (w.alloc (.cells (progC zeroS) 28)) := (Below.refl _ _).alloc (Nat.le_refl _) _
  have b2 := b1.alloc b1.size (.cells (docC zeroS) 34)
  have b3 := b2.alloc b2.size (.cells (progC zeroS) 28)
  have b4 := b3.alloc b3.size (.cells (docC zeroS) 34)
  have c2 := Box.new 34 (w.alloc (.cells (progC zeroS) 28)) (docC zeroS)
  have c3 := Box.new 28 ((w.alloc (.cells (progC zeroS) 28)).alloc (.cells (docC zeroS) 34)) (progC zeroS)
  have c4 := Box.new 34 (((w.alloc (.cells (progC zeroS) 28)).alloc (.cells (docC zeroS) 34)).alloc (.cells (progC zeroS) 28)) (docC zeroS)
  rw [show (w.alloc (.cells (progC zeroS) 28)).heap.size = w.heap.size + 1 from by simp] at c2
  rw [show ((w.alloc (.cells (progC zeroS) 28)).alloc (.cells (docC zeroS) 34)).heap.size = w.heap.size + 2 from by simp] at c3
  rw [show (((w.alloc (.cells (progC zeroS) 28)).alloc (.cells (docC zeroS) 34)).alloc (.cells (progC zeroS) 28)).heap.size = w.heap.size + 3 from by simp] at c4
  exact ⟨(((Box.new 28 w _).alloc _).alloc _).alloc _, (c2.alloc _).alloc _, c3.alloc _, c4, b4, ht.step b4, ht.lt⟩
set_option maxHeartbeats 8000000 in
theorem played_any (av : Option Addr) (len cap : Nat) (os : Nat → Int × Int × Int × Bool × Nat × Nat) (w : World) (ht : TabLies w) (hos : OpsIn w (.slice av len cap) len os) : Calls Tryd.prog 8 #[.slice av len cap] w fun e w' => ∃ S : St, S.Ok ∧ e = .returned (.tuple #[.agg (progC S), .agg (docC S), .bool true]) ∧ Below w.heap.size w w' := by
  have HO0 : Hid (OpsIn w (.slice av len cap) len os) := hos
  have X0 : Hid (Py w ((((w.alloc (.cells (progC zeroS) 28)).alloc (.cells (docC zeroS) 34)).alloc (.cells (progC zeroS) 28)).alloc (.cells (docC zeroS) 34)) zeroS zeroS zeroS zeroS) := Py.new w ht
  clear hos ht
  go_enter Tryd.func8, Tryd.ntmps8
  go_upto_region 0 with fail
  refine wp_region_list ?_
  refine wpList_alloc_zero 28 (progC zeroS) 39 infoz28 rfl rfl ?_
  refine wpList_alloc_zero 34 (docC zeroS) 194 infoz34 rfl rfl ?_
  go_upto_region 1 with fail
  refine wp_region_list ?_
  refine wpList_alloc_zero 28 (progC zeroS) 39 infoz28 rfl rfl ?_
  go_upto_region 2 with fail
  refine wp_region_list ?_
  refine wpList_alloc_zero 34 (docC zeroS) 194 infoz34 rfl rfl ?_
  rw [show (((w.alloc (.cells (progC zeroS) 28)).alloc (.cells (docC zeroS) 34)).alloc (.cells (progC zeroS) 28)).heap.size = w.heap.size + 3 from by simp]
  simp only [show ((w.alloc (.cells (progC zeroS) 28)).alloc (.cells (docC zeroS) 34)).heap.size = w.heap.size + 2 from by simp, show (w.alloc (.cells (progC zeroS) 28)).heap.size = w.heap.size + 1 from by simp]
  generalize (((w.alloc (.cells (progC zeroS) 28)).alloc (.cells (docC zeroS) 34)).alloc (.cells (progC zeroS) 28)).alloc (.cells (docC zeroS) 34) = W at *
  go_wp2_with fail
  go_loopw [7] (fun i wr => ∃ (j : Nat) (S : St), j ≤ len ∧ j ≤ 60 ∧ i = .int .i64 j ∧ S.Ok ∧ Py w wr zeroS zeroS S S) (fun i _ => 60 - (intOf i).toNat)
  case atStart => exact ⟨0, zeroS, by omega, by omega, rfl, zeroS_ok, X0.out⟩
  case round =>
    obtain ⟨j, S, hj, hj6, rfl, hS, hX⟩ := hrel
    have X : Hid (Py w wr zeroS zeroS S S) := hX
    have HK : Hid S.Ok := hS
    clear hX X0 hS
    by_cases hlt : j < len
    case neg =>
      have hl1 : ¬ (j : Int) < (len : Int) := by omega
      go_upto_region 10 with fail
      have Xd : Hid (Py w wr.drew zeroS zeroS S S) := X.out.step (Below.drew (Below.refl _ _))
      refine wp_region_held_drew (S := fun V => Box 28 V (w.heap.size + 2) (progC S) ∧ Box 34 V (w.heap.size + 3) (docC S)) (by kernel_rfl) ⟨Xd.out.2.2.1, Xd.out.2.2.2.1⟩ ?_
      intro hS
      refine wpAnyH_take (i := 0) (v := .agg (progC S)) rfl (by kernel_rfl) (by kernel_rfl) (by kernel_rfl) (fun _ _ _ h => h) (Or.inl ⟨by kernel_rfl, fun V hV => yield_prog hV.1 _ rfl rfl⟩) hS ?_
      (try simp only [Act.put, List.getElem_toArray, List.getElem_cons_succ, List.getElem_cons_zero, List.setIfInBounds_toArray, List.set_cons_zero, List.set_cons_succ])
      refine wpAnyH_take (i := 1) (v := .agg (docC S)) rfl (by kernel_rfl) (by kernel_rfl) (by kernel_rfl) (fun _ _ _ h => h) (Or.inl ⟨by kernel_rfl, fun V hV => yield_doc hV.2 _ rfl rfl⟩) hS ?_
      (try simp only [Act.put, List.getElem_toArray, List.getElem_cons_succ, List.getElem_cons_zero, List.setIfInBounds_toArray, List.set_cons_zero, List.set_cons_succ])
      refine wpAnyH_ready (rs := [2]) (by kernel_rfl) (by simp) ?_
      refine AllReadyH.cons rfl (fun K1 hK1 => ?_) AllReadyH.nil
      rw [if_pos (by kernel_rfl)]
      refine wp_store_prog _ _ rfl w.heap.size S (progC zeroS) rfl rfl Xd.out.1 (by rw [progC_size, progC_size]) ?_
      intro W8 B8 U8
      have X8 : Hid (Py w W8 S zeroS S S) := Xd.out.rprog B8 U8
      clear B8 U8
      refine hK1.out _ _ ⟨X8.out.2.2.1, X8.out.2.2.2.1⟩ (fun hS8 => ?_)
      clear hK1 K1 hS
      (try simp only [Act.put, List.getElem_toArray, List.getElem_cons_succ, List.getElem_cons_zero, List.setIfInBounds_toArray, List.set_cons_zero, List.set_cons_succ])
      refine wpAnyH_ready (rs := [3]) (by kernel_rfl) (by simp) ?_
      refine AllReadyH.cons rfl (fun K1 hK1 => ?_) AllReadyH.nil
      rw [if_pos (by kernel_rfl)]
      refine wp_store_doc _ _ rfl (w.heap.size + 1) S (docC zeroS) rfl rfl X8.out.2.1 (by rw [docC_size, docC_size]) ?_
      intro W9 B9 U9
      have X9 : Hid (Py w W9 S S S S) := X8.out.rdoc B9 U9
      clear B9 U9
      refine hK1.out _ _ ⟨X9.out.2.2.1, X9.out.2.2.2.1⟩ (fun hS9 => ?_)
      clear hK1 K1 hS8
      (try simp only [Act.put, List.getElem_toArray, List.getElem_cons_succ, List.getElem_cons_zero, List.setIfInBounds_toArray, List.set_cons_zero, List.set_cons_succ])
      refine wpAnyH_take (i := 4) (v := ?_) rfl (by kernel_rfl) (by kernel_rfl) (by kernel_rfl) (fun _ _ _ h => h) (Or.inl ⟨by kernel_rfl, ?_⟩) hS9 ?_
      rotate_left
      · intro w hSw; (try dsimp only at hSw); go_simp; try (with_reducible rfl)
      (try simp only [Act.put, List.getElem_toArray, List.getElem_cons_succ, List.getElem_cons_zero, List.setIfInBounds_toArray, List.set_cons_zero, List.set_cons_succ])
      refine wpAnyH_done (by kernel_rfl) ?_ _
      clear hS9
      go_wp2_with fail
      exact bodyPost_ret (v := .tuple #[.agg (progC S), .agg (docC S), .bool true]) (resultsP (p := 2) (q := 3) (t := 4) rfl _ _ w.heap.size (w.heap.size + 1) S S rfl rfl X9.out.1 X9.out.2.1) rfl ⟨S, HK.out, rfl, X9.out.2.2.2.2.1⟩
    have hl1 : (j : Int) < (len : Int) := by omega
    by_cases h60 : j < 60
    case neg =>
      have hl2 : ¬ (j : Int) < 60 := by omega
      go_upto_region 10 with fail
      have Xd : Hid (Py w wr.drew zeroS zeroS S S) := X.out.step (Below.drew (Below.refl _ _))
      refine wp_region_held_drew (S := fun V => Box 28 V (w.heap.size + 2) (progC S) ∧ Box 34 V (w.heap.size + 3) (docC S)) (by kernel_rfl) ⟨Xd.out.2.2.1, Xd.out.2.2.2.1⟩ ?_
      intro hS
      refine wpAnyH_take (i := 0) (v := .agg (progC S)) rfl (by kernel_rfl) (by kernel_rfl) (by kernel_rfl) (fun _ _ _ h => h) (Or.inl ⟨by kernel_rfl, fun V hV => yield_prog hV.1 _ rfl rfl⟩) hS ?_
      (try simp only [Act.put, List.getElem_toArray, List.getElem_cons_succ, List.getElem_cons_zero, List.setIfInBounds_toArray, List.set_cons_zero, List.set_cons_succ])
      refine wpAnyH_take (i := 1) (v := .agg (docC S)) rfl (by kernel_rfl) (by kernel_rfl) (by kernel_rfl) (fun _ _ _ h => h) (Or.inl ⟨by kernel_rfl, fun V hV => yield_doc hV.2 _ rfl rfl⟩) hS ?_
      (try simp only [Act.put, List.getElem_toArray, List.getElem_cons_succ, List.getElem_cons_zero, List.setIfInBounds_toArray, List.set_cons_zero, List.set_cons_succ])
      refine wpAnyH_ready (rs := [2]) (by kernel_rfl) (by simp) ?_
      refine AllReadyH.cons rfl (fun K1 hK1 => ?_) AllReadyH.nil
      rw [if_pos (by kernel_rfl)]
      refine wp_store_prog _ _ rfl w.heap.size S (progC zeroS) rfl rfl Xd.out.1 (by rw [progC_size, progC_size]) ?_
      intro W8 B8 U8
      have X8 : Hid (Py w W8 S zeroS S S) := Xd.out.rprog B8 U8
      clear B8 U8
      refine hK1.out _ _ ⟨X8.out.2.2.1, X8.out.2.2.2.1⟩ (fun hS8 => ?_)
      clear hK1 K1 hS
      (try simp only [Act.put, List.getElem_toArray, List.getElem_cons_succ, List.getElem_cons_zero, List.setIfInBounds_toArray, List.set_cons_zero, List.set_cons_succ])
      refine wpAnyH_ready (rs := [3]) (by kernel_rfl) (by simp) ?_
      refine AllReadyH.cons rfl (fun K1 hK1 => ?_) AllReadyH.nil
      rw [if_pos (by kernel_rfl)]
      refine wp_store_doc _ _ rfl (w.heap.size + 1) S (docC zeroS) rfl rfl X8.out.2.1 (by rw [docC_size, docC_size]) ?_
      intro W9 B9 U9
      have X9 : Hid (Py w W9 S S S S) := X8.out.rdoc B9 U9
      clear B9 U9
      refine hK1.out _ _ ⟨X9.out.2.2.1, X9.out.2.2.2.1⟩ (fun hS9 => ?_)
      clear hK1 K1 hS8
      (try simp only [Act.put, List.getElem_toArray, List.getElem_cons_succ, List.getElem_cons_zero, List.setIfInBounds_toArray, List.set_cons_zero, List.set_cons_succ])
      refine wpAnyH_take (i := 4) (v := ?_) rfl (by kernel_rfl) (by kernel_rfl) (by kernel_rfl) (fun _ _ _ h => h) (Or.inl ⟨by kernel_rfl, ?_⟩) hS9 ?_
      rotate_left
      · intro w hSw; (try dsimp only at hSw); go_simp; try (with_reducible rfl)
      (try simp only [Act.put, List.getElem_toArray, List.getElem_cons_succ, List.getElem_cons_zero, List.setIfInBounds_toArray, List.set_cons_zero, List.set_cons_succ])
      refine wpAnyH_done (by kernel_rfl) ?_ _
      clear hS9
      go_wp2_with fail
      exact bodyPost_ret (v := .tuple #[.agg (progC S), .agg (docC S), .bool true]) (resultsP (p := 2) (q := 3) (t := 4) rfl _ _ w.heap.size (w.heap.size + 1) S S rfl rfl X9.out.1 X9.out.2.1) rfl ⟨S, HK.out, rfl, X9.out.2.2.2.2.1⟩
    have hl2 : (j : Int) < 60 := by omega
    rcases HO0.out with ⟨h0, _⟩ | ⟨sb, off, cp, hv, hbW, hcs⟩
    · omega
    simp only [Value.slice.injEq] at hv
    obtain ⟨rfl, -, rfl⟩ := hv
    obtain ⟨hce, ha, hv⟩ := hcs j hlt
    have e0 := hce 0 (by omega)
    have e1 := hce 1 (by omega)
    have e2 := hce 2 (by omega)
    have e3 := hce 3 (by omega)
    have e4 := hce 4 (by omega)
    have e5 := hce 5 (by omega)
    clear hce hcs
    generalize hq1 : (os j).1 = kd at *
    generalize hq2 : (os j).2.1 = n at *
    generalize hq3 : (os j).2.2.1 = m at *
    generalize hq4 : (os j).2.2.2.1 = hi at *
    generalize hq5 : (os j).2.2.2.2.1 = a at *
    generalize hq6 : (os j).2.2.2.2.2 = v at *
    clear hq1 hq2 hq3 hq4 hq5 hq6
    simp only [List.getElem?_cons_zero, List.getElem?_cons_succ] at e0 e1 e2 e3 e4 e5
    have HO : Hid (w.cell? ⟨sb, off + j * 6, none⟩ = some (.int .i64 kd) ∧ w.cell? ⟨sb, off + j * 6 + 1, none⟩ = some (.int .i64 n) ∧ w.cell? ⟨sb, off + j * 6 + 2, none⟩ = some (.int .i64 m) ∧ w.cell? ⟨sb, off + j * 6 + 3, none⟩ = some (.bool hi) ∧ w.cell? ⟨sb, off + j * 6 + 4, none⟩ = some (.int .u64 (a : Int)) ∧ w.cell? ⟨sb, off + j * 6 + 5, none⟩ = some (.int .u64 (v : Int))) := ⟨e0, e1, e2, e3, e4, e5⟩
    have HB : Hid (sb < w.heap.size) := hbW
    obtain ⟨S2, hk2, hq⟩ := do_any S HK.out (w.heap.size + 2) kd n m hi a v ha hv
    have HK2 : Hid S2.Ok := hk2
    have HQ : Hid (∀ V, Box 28 V (w.heap.size + 2) (progC S) → TabLies V → w.heap.size + 2 ≠ 0 → Calls Tryd.prog 14 #[.pointer (some ⟨w.heap.size + 2, 0, none⟩), .agg (docC S), .agg #[.int .i64 kd, .int .i64 n, .int .i64 m, .bool hi, .int .u64 (a : Int), .int .u64 (v : Int)]] V fun e w' => e = .returned (.tuple #[.agg (docC S2), .bool true]) ∧ Box 28 w' (w.heap.size + 2) (progC S2) ∧ Upon (w.heap.size + 2) V w') := hq
    have HJ : Hid (j + 1 ≤ len ∧ j + 1 ≤ 60) := ⟨hlt, h60⟩
    clear e0 e1 e2 e3 e4 e5 hbW ha hv hk2 hq hlt h60 hj hj6 HO0 HK
    go_upto_region 6 with fail
    have Xd : Hid (Py w wr.drew zeroS zeroS S S) := X.out.step (Below.drew (Below.refl _ _))
    refine wp_region_held_drew (S := fun V => Box 34 V (w.heap.size + 3) (docC S) ∧ V.cell? ⟨sb, off + j * 6, none⟩ = some (.int .i64 kd) ∧ V.cell? ⟨sb, off + j * 6 + 1, none⟩ = some (.int .i64 n) ∧ V.cell? ⟨sb, off + j * 6 + 2, none⟩ = some (.int .i64 m) ∧ V.cell? ⟨sb, off + j * 6 + 3, none⟩ = some (.bool hi) ∧ V.cell? ⟨sb, off + j * 6 + 4, none⟩ = some (.int .u64 (a : Int)) ∧ V.cell? ⟨sb, off + j * 6 + 5, none⟩ = some (.int .u64 (v : Int))) (by kernel_rfl) ⟨Xd.out.2.2.2.1, (Xd.out.2.2.2.2.1.cell (p := ⟨sb, off + j * 6, none⟩) HB.out).trans HO.out.1, (Xd.out.2.2.2.2.1.cell (p := ⟨sb, off + j * 6 + 1, none⟩) HB.out).trans HO.out.2.1, (Xd.out.2.2.2.2.1.cell (p := ⟨sb, off + j * 6 + 2, none⟩) HB.out).trans HO.out.2.2.1, (Xd.out.2.2.2.2.1.cell (p := ⟨sb, off + j * 6 + 3, none⟩) HB.out).trans HO.out.2.2.2.1, (Xd.out.2.2.2.2.1.cell (p := ⟨sb, off + j * 6 + 4, none⟩) HB.out).trans HO.out.2.2.2.2.1, (Xd.out.2.2.2.2.1.cell (p := ⟨sb, off + j * 6 + 5, none⟩) HB.out).trans HO.out.2.2.2.2.2⟩ ?_
    intro hS
    refine wpAnyH_take (i := 0) (v := .agg (docC S)) rfl (by kernel_rfl) (by kernel_rfl) (by kernel_rfl) (fun _ _ _ h => h) (Or.inl ⟨by kernel_rfl, fun V hV => yield_doc hV.1 _ rfl rfl⟩) hS ?_
    (try simp only [Act.put, List.getElem_toArray, List.getElem_cons_succ, List.getElem_cons_zero, List.setIfInBounds_toArray, List.set_cons_zero, List.set_cons_succ])
    refine wpAnyH_take (i := 1) (v := ?_) rfl (by kernel_rfl) (by kernel_rfl) (by kernel_rfl) (fun _ _ _ h => h) (Or.inl ⟨by kernel_rfl, ?_⟩) hS ?_
    rotate_left
    · intro w hSw; (try dsimp only at hSw); go_simp; try (with_reducible rfl)
    (try simp only [Act.put, List.getElem_toArray, List.getElem_cons_succ, List.getElem_cons_zero, List.setIfInBounds_toArray, List.set_cons_zero, List.set_cons_succ])
    refine wpAnyH_take (i := 2) (v := ?_) rfl (by kernel_rfl) (by kernel_rfl) (by kernel_rfl) (fun _ _ _ h => h) (Or.inl ⟨by kernel_rfl, ?_⟩) hS ?_
    rotate_left
    · intro w hSw; (try dsimp only at hSw); go_simp; try (with_reducible rfl)
    (try simp only [Act.put, List.getElem_toArray, List.getElem_cons_succ, List.getElem_cons_zero, List.setIfInBounds_toArray, List.set_cons_zero, List.set_cons_succ])
    refine wpAnyH_take (i := 3) (v := ?_) rfl (by kernel_rfl) (by kernel_rfl) (by kernel_rfl) (fun _ _ _ h => h) (Or.inl ⟨by kernel_rfl, ?_⟩) hS ?_
    rotate_left
    · intro w hSw; (try dsimp only at hSw); go_simp; try (with_reducible rfl)
    (try simp only [Act.put, List.getElem_toArray, List.getElem_cons_succ, List.getElem_cons_zero, List.setIfInBounds_toArray, List.set_cons_zero, List.set_cons_succ])
    refine wpAnyH_take (i := 4) (v := ?_) rfl (by kernel_rfl) (by kernel_rfl) (by kernel_rfl) (fun _ _ _ h => h) (Or.inl ⟨by kernel_rfl, ?_⟩) hS ?_
    rotate_left
    · intro w hSw; (try dsimp only at hSw); go_simp; try (with_reducible rfl)
    (try simp only [Act.put, List.getElem_toArray, List.getElem_cons_succ, List.getElem_cons_zero, List.setIfInBounds_toArray, List.set_cons_zero, List.set_cons_succ])
    refine wpAnyH_ready (rs := [5, 9]) (by kernel_rfl) (by simp) ?_
    refine AllReadyH.cons rfl (fun K1 hK1 => ?_) (AllReadyH.cons rfl (fun K1 hK1 => ?_) AllReadyH.nil)
    · have _hm : True := trivial
      go_simp
      refine (HQ.out _ Xd.out.2.2.1 Xd.out.2.2.2.2.2.1 (by omega)).mono ?_
      rintro e w20 ⟨rfl, hB, hU⟩
      have X20 : Hid (Py w w20 zeroS zeroS S2 S) := Xd.out.prog hB hU
      clear hB hU
      refine hK1.out _ _ ⟨X20.out.2.2.2.1, (X20.out.2.2.2.2.1.cell (p := ⟨sb, off + j * 6, none⟩) HB.out).trans HO.out.1, (X20.out.2.2.2.2.1.cell (p := ⟨sb, off + j * 6 + 1, none⟩) HB.out).trans HO.out.2.1, (X20.out.2.2.2.2.1.cell (p := ⟨sb, off + j * 6 + 2, none⟩) HB.out).trans HO.out.2.2.1, (X20.out.2.2.2.2.1.cell (p := ⟨sb, off + j * 6 + 3, none⟩) HB.out).trans HO.out.2.2.2.1, (X20.out.2.2.2.2.1.cell (p := ⟨sb, off + j * 6 + 4, none⟩) HB.out).trans HO.out.2.2.2.2.1, (X20.out.2.2.2.2.1.cell (p := ⟨sb, off + j * 6 + 5, none⟩) HB.out).trans HO.out.2.2.2.2.2⟩ (fun hS20 => ?_)
      clear hK1 K1 hS
      (try simp only [Act.put, List.getElem_toArray, List.getElem_cons_succ, List.getElem_cons_zero, List.setIfInBounds_toArray, List.set_cons_zero, List.set_cons_succ])
      refine wpAnyH_take (i := 6) (v := ?_) rfl (by kernel_rfl) (by kernel_rfl) (by kernel_rfl) (fun _ _ _ h => h) (Or.inl ⟨by kernel_rfl, ?_⟩) hS20 ?_
      rotate_left
      · intro w hSw; (try dsimp only at hSw); go_simp; try (with_reducible rfl)
      (try simp only [Act.put, List.getElem_toArray, List.getElem_cons_succ, List.getElem_cons_zero, List.setIfInBounds_toArray, List.set_cons_zero, List.set_cons_succ])
      refine wpAnyH_take (i := 7) (v := ?_) rfl (by kernel_rfl) (by kernel_rfl) (by kernel_rfl) (fun _ _ _ h => h) (Or.inl ⟨by kernel_rfl, ?_⟩) hS20 ?_
      rotate_left
      · intro w hSw; (try dsimp only at hSw); go_simp; try (with_reducible rfl)
      (try simp only [Act.put, List.getElem_toArray, List.getElem_cons_succ, List.getElem_cons_zero, List.setIfInBounds_toArray, List.set_cons_zero, List.set_cons_succ])
      refine wpAnyH_take (i := 8) (v := ?_) rfl (by kernel_rfl) (by kernel_rfl) (by kernel_rfl) (fun _ _ _ h => h) (Or.inl ⟨by kernel_rfl, ?_⟩) hS20 ?_
      rotate_left
      · intro w hSw; (try dsimp only at hSw); go_simp; try (with_reducible rfl)
      (try simp only [Act.put, List.getElem_toArray, List.getElem_cons_succ, List.getElem_cons_zero, List.setIfInBounds_toArray, List.set_cons_zero, List.set_cons_succ])
      refine wpAnyH_ready (rs := [9]) (by kernel_rfl) (by simp) ?_
      refine AllReadyH.cons rfl (fun K1 hK1 => ?_) AllReadyH.nil
      rw [if_pos (by kernel_rfl)]
      refine wp_alloc_zero 34 (docC zeroS) 194 infoz34 rfl ?_
      have X21 : Hid (Pz w (w20.alloc (.cells (docC zeroS) 34)) zeroS zeroS S2 S zeroS w20.heap.size) := Pz.new X20.out
      generalize w20.alloc (.cells (docC zeroS) 34) = w21 at *
      generalize w20.heap.size = r at *
      refine hK1.out _ _ ⟨X21.out.1.2.2.2.1, (X21.out.1.2.2.2.2.1.cell (p := ⟨sb, off + j * 6, none⟩) HB.out).trans HO.out.1, (X21.out.1.2.2.2.2.1.cell (p := ⟨sb, off + j * 6 + 1, none⟩) HB.out).trans HO.out.2.1, (X21.out.1.2.2.2.2.1.cell (p := ⟨sb, off + j * 6 + 2, none⟩) HB.out).trans HO.out.2.2.1, (X21.out.1.2.2.2.2.1.cell (p := ⟨sb, off + j * 6 + 3, none⟩) HB.out).trans HO.out.2.2.2.1, (X21.out.1.2.2.2.2.1.cell (p := ⟨sb, off + j * 6 + 4, none⟩) HB.out).trans HO.out.2.2.2.2.1, (X21.out.1.2.2.2.2.1.cell (p := ⟨sb, off + j * 6 + 5, none⟩) HB.out).trans HO.out.2.2.2.2.2⟩ (fun hS21 => ?_)
      clear hK1 K1 hS20
      (try simp only [Act.put, List.getElem_toArray, List.getElem_cons_succ, List.getElem_cons_zero, List.setIfInBounds_toArray, List.set_cons_zero, List.set_cons_succ])
      refine wpAnyH_ready (rs := [10]) (by kernel_rfl) (by simp) ?_
      refine AllReadyH.cons rfl (fun K1 hK1 => ?_) AllReadyH.nil
      rw [if_pos (by kernel_rfl)]
      refine wp_store_doc _ _ rfl r S2 (docC zeroS) rfl rfl X21.out.2.1 (by rw [docC_size, docC_size]) ?_
      intro W9 B9 U9
      have X9 : Hid (Pz w W9 zeroS zeroS S2 S S2 r) := X21.out.next B9 U9
      clear B9 U9
      refine hK1.out _ _ ⟨X9.out.1.2.2.2.1, (X9.out.1.2.2.2.2.1.cell (p := ⟨sb, off + j * 6, none⟩) HB.out).trans HO.out.1, (X9.out.1.2.2.2.2.1.cell (p := ⟨sb, off + j * 6 + 1, none⟩) HB.out).trans HO.out.2.1, (X9.out.1.2.2.2.2.1.cell (p := ⟨sb, off + j * 6 + 2, none⟩) HB.out).trans HO.out.2.2.1, (X9.out.1.2.2.2.2.1.cell (p := ⟨sb, off + j * 6 + 3, none⟩) HB.out).trans HO.out.2.2.2.1, (X9.out.1.2.2.2.2.1.cell (p := ⟨sb, off + j * 6 + 4, none⟩) HB.out).trans HO.out.2.2.2.2.1, (X9.out.1.2.2.2.2.1.cell (p := ⟨sb, off + j * 6 + 5, none⟩) HB.out).trans HO.out.2.2.2.2.2⟩ (fun hS9 => ?_)
      clear hK1 K1 hS21
      (try simp only [Act.put, List.getElem_toArray, List.getElem_cons_succ, List.getElem_cons_zero, List.setIfInBounds_toArray, List.set_cons_zero, List.set_cons_succ])
      refine wpAnyH_take (i := 11) (v := ?_) rfl (by kernel_rfl) (by kernel_rfl) (by kernel_rfl) (fun _ _ _ h => h) (Or.inl ⟨by kernel_rfl, ?_⟩) hS9 ?_
      rotate_left
      · intro w hSw; (try dsimp only at hSw); go_simp; try (with_reducible rfl)
      (try simp only [Act.put, List.getElem_toArray, List.getElem_cons_succ, List.getElem_cons_zero, List.setIfInBounds_toArray, List.set_cons_zero, List.set_cons_succ])
      refine wpAnyH_done (by kernel_rfl) ?_ _
      clear hS9
      go_upto_region 7 with fail
      refine wp_region_list ?_
      (refine wpList_step (fun KK hKK => ?_); go_simp; refine hKK _ _ ?_; clear hKK KK)
      (refine wpList_step (fun KK hKK => ?_); go_simp; refine hKK _ _ ?_; clear hKK KK)
      (refine wpList_step (fun KK hKK => ?_); go_simp; refine hKK _ _ ?_; clear hKK KK)
      refine wpList_load_progG (by first | rfl | kernel_rfl) _ rfl (w.heap.size + 2) S2 rfl X9.out.1.2.2.1 ?_
      refine wpList_load_docG (by first | rfl | kernel_rfl) _ rfl r S2 rfl X9.out.2.1 ?_
      refine wpList_step (fun KK hKK => ?_)
      go_simp
      refine (same_any S2 HK2.out _ X9.out.1.2.2.2.2.2.1).mono ?_
      rintro e w10 ⟨rfl, hb10⟩
      have X10 : Hid (Pz w w10 zeroS zeroS S2 S S2 r) := X9.out.step hb10
      clear hb10 X9
      refine hKK _ _ ?_
      clear hKK KK
      go_upto_region 9 with fail
      refine wp_region_list ?_
      refine wpList_load_doc rfl _ rfl r (S2) rfl X10.out.2.1 ?_
      refine wpList_store_doc rfl _ _ rfl (w.heap.size + 3) S2 (docC S) rfl rfl X10.out.1.2.2.2.1 (by rw [docC_size, docC_size]) ?_
      intro W11 B11 U11
      have X11 : Hid (Py w W11 zeroS zeroS S2 S2) := X10.out.1.doc B11 U11
      clear B11 U11 X10
      go_wp2_with fail
      go_roundw
      case rel => exact ⟨j + 1, S2, HJ.out.1, HJ.out.2, by go_num, HK2.out, X11.out⟩
      case measure => simp [intOf]; have := HJ.out.2; omega
    · have _hm : True := trivial
      rw [if_pos (by kernel_rfl)]
      refine wp_alloc_zero 34 (docC zeroS) 194 infoz34 rfl ?_
      have X20 : Hid (Pz w (wr.drew.alloc (.cells (docC zeroS) 34)) zeroS zeroS S S zeroS wr.drew.heap.size) := Pz.new Xd.out
      generalize wr.drew.alloc (.cells (docC zeroS) 34) = w20 at *
      generalize wr.drew.heap.size = r at *
      refine hK1.out _ _ ⟨X20.out.1.2.2.2.1, (X20.out.1.2.2.2.2.1.cell (p := ⟨sb, off + j * 6, none⟩) HB.out).trans HO.out.1, (X20.out.1.2.2.2.2.1.cell (p := ⟨sb, off + j * 6 + 1, none⟩) HB.out).trans HO.out.2.1, (X20.out.1.2.2.2.2.1.cell (p := ⟨sb, off + j * 6 + 2, none⟩) HB.out).trans HO.out.2.2.1, (X20.out.1.2.2.2.2.1.cell (p := ⟨sb, off + j * 6 + 3, none⟩) HB.out).trans HO.out.2.2.2.1, (X20.out.1.2.2.2.2.1.cell (p := ⟨sb, off + j * 6 + 4, none⟩) HB.out).trans HO.out.2.2.2.2.1, (X20.out.1.2.2.2.2.1.cell (p := ⟨sb, off + j * 6 + 5, none⟩) HB.out).trans HO.out.2.2.2.2.2⟩ (fun hS20 => ?_)
      clear hK1 K1 hS
      (try simp only [Act.put, List.getElem_toArray, List.getElem_cons_succ, List.getElem_cons_zero, List.setIfInBounds_toArray, List.set_cons_zero, List.set_cons_succ])
      refine wpAnyH_ready (rs := [5]) (by kernel_rfl) (by simp) ?_
      refine AllReadyH.cons rfl (fun K1 hK1 => ?_) AllReadyH.nil
      go_simp
      refine (HQ.out _ X20.out.1.2.2.1 X20.out.1.2.2.2.2.2.1 (by omega)).mono ?_
      rintro e w21 ⟨rfl, hB, hU⟩
      have X21 : Hid (Pz w w21 zeroS zeroS S2 S zeroS r) := X20.out.prog hB hU
      clear hB hU
      refine hK1.out _ _ ⟨X21.out.1.2.2.2.1, (X21.out.1.2.2.2.2.1.cell (p := ⟨sb, off + j * 6, none⟩) HB.out).trans HO.out.1, (X21.out.1.2.2.2.2.1.cell (p := ⟨sb, off + j * 6 + 1, none⟩) HB.out).trans HO.out.2.1, (X21.out.1.2.2.2.2.1.cell (p := ⟨sb, off + j * 6 + 2, none⟩) HB.out).trans HO.out.2.2.1, (X21.out.1.2.2.2.2.1.cell (p := ⟨sb, off + j * 6 + 3, none⟩) HB.out).trans HO.out.2.2.2.1, (X21.out.1.2.2.2.2.1.cell (p := ⟨sb, off + j * 6 + 4, none⟩) HB.out).trans HO.out.2.2.2.2.1, (X21.out.1.2.2.2.2.1.cell (p := ⟨sb, off + j * 6 + 5, none⟩) HB.out).trans HO.out.2.2.2.2.2⟩ (fun hS21 => ?_)
      clear hK1 K1 hS20
      (try simp only [Act.put, List.getElem_toArray, List.getElem_cons_succ, List.getElem_cons_zero, List.setIfInBounds_toArray, List.set_cons_zero, List.set_cons_succ])
      refine wpAnyH_take (i := 6) (v := ?_) rfl (by kernel_rfl) (by kernel_rfl) (by kernel_rfl) (fun _ _ _ h => h) (Or.inl ⟨by kernel_rfl, ?_⟩) hS21 ?_
      rotate_left
      · intro w hSw; (try dsimp only at hSw); go_simp; try (with_reducible rfl)
      (try simp only [Act.put, List.getElem_toArray, List.getElem_cons_succ, List.getElem_cons_zero, List.setIfInBounds_toArray, List.set_cons_zero, List.set_cons_succ])
      refine wpAnyH_take (i := 7) (v := ?_) rfl (by kernel_rfl) (by kernel_rfl) (by kernel_rfl) (fun _ _ _ h => h) (Or.inl ⟨by kernel_rfl, ?_⟩) hS21 ?_
      rotate_left
      · intro w hSw; (try dsimp only at hSw); go_simp; try (with_reducible rfl)
      (try simp only [Act.put, List.getElem_toArray, List.getElem_cons_succ, List.getElem_cons_zero, List.setIfInBounds_toArray, List.set_cons_zero, List.set_cons_succ])
      refine wpAnyH_take (i := 8) (v := ?_) rfl (by kernel_rfl) (by kernel_rfl) (by kernel_rfl) (fun _ _ _ h => h) (Or.inl ⟨by kernel_rfl, ?_⟩) hS21 ?_
      rotate_left
      · intro w hSw; (try dsimp only at hSw); go_simp; try (with_reducible rfl)
      (try simp only [Act.put, List.getElem_toArray, List.getElem_cons_succ, List.getElem_cons_zero, List.setIfInBounds_toArray, List.set_cons_zero, List.set_cons_succ])
      refine wpAnyH_ready (rs := [10]) (by kernel_rfl) (by simp) ?_
      refine AllReadyH.cons rfl (fun K1 hK1 => ?_) AllReadyH.nil
      rw [if_pos (by kernel_rfl)]
      refine wp_store_doc _ _ rfl r S2 (docC zeroS) rfl rfl X21.out.2.1 (by rw [docC_size, docC_size]) ?_
      intro W9 B9 U9
      have X9 : Hid (Pz w W9 zeroS zeroS S2 S S2 r) := X21.out.next B9 U9
      clear B9 U9
      refine hK1.out _ _ ⟨X9.out.1.2.2.2.1, (X9.out.1.2.2.2.2.1.cell (p := ⟨sb, off + j * 6, none⟩) HB.out).trans HO.out.1, (X9.out.1.2.2.2.2.1.cell (p := ⟨sb, off + j * 6 + 1, none⟩) HB.out).trans HO.out.2.1, (X9.out.1.2.2.2.2.1.cell (p := ⟨sb, off + j * 6 + 2, none⟩) HB.out).trans HO.out.2.2.1, (X9.out.1.2.2.2.2.1.cell (p := ⟨sb, off + j * 6 + 3, none⟩) HB.out).trans HO.out.2.2.2.1, (X9.out.1.2.2.2.2.1.cell (p := ⟨sb, off + j * 6 + 4, none⟩) HB.out).trans HO.out.2.2.2.2.1, (X9.out.1.2.2.2.2.1.cell (p := ⟨sb, off + j * 6 + 5, none⟩) HB.out).trans HO.out.2.2.2.2.2⟩ (fun hS9 => ?_)
      clear hK1 K1 hS21
      (try simp only [Act.put, List.getElem_toArray, List.getElem_cons_succ, List.getElem_cons_zero, List.setIfInBounds_toArray, List.set_cons_zero, List.set_cons_succ])
      refine wpAnyH_take (i := 11) (v := ?_) rfl (by kernel_rfl) (by kernel_rfl) (by kernel_rfl) (fun _ _ _ h => h) (Or.inl ⟨by kernel_rfl, ?_⟩) hS9 ?_
      rotate_left
      · intro w hSw; (try dsimp only at hSw); go_simp; try (with_reducible rfl)
      (try simp only [Act.put, List.getElem_toArray, List.getElem_cons_succ, List.getElem_cons_zero, List.setIfInBounds_toArray, List.set_cons_zero, List.set_cons_succ])
      refine wpAnyH_done (by kernel_rfl) ?_ _
      clear hS9
      go_upto_region 7 with fail
      refine wp_region_list ?_
      (refine wpList_step (fun KK hKK => ?_); go_simp; refine hKK _ _ ?_; clear hKK KK)
      (refine wpList_step (fun KK hKK => ?_); go_simp; refine hKK _ _ ?_; clear hKK KK)
      (refine wpList_step (fun KK hKK => ?_); go_simp; refine hKK _ _ ?_; clear hKK KK)
      refine wpList_load_progG (by first | rfl | kernel_rfl) _ rfl (w.heap.size + 2) S2 rfl X9.out.1.2.2.1 ?_
      refine wpList_load_docG (by first | rfl | kernel_rfl) _ rfl r S2 rfl X9.out.2.1 ?_
      refine wpList_step (fun KK hKK => ?_)
      go_simp
      refine (same_any S2 HK2.out _ X9.out.1.2.2.2.2.2.1).mono ?_
      rintro e w10 ⟨rfl, hb10⟩
      have X10 : Hid (Pz w w10 zeroS zeroS S2 S S2 r) := X9.out.step hb10
      clear hb10 X9
      refine hKK _ _ ?_
      clear hKK KK
      go_upto_region 9 with fail
      refine wp_region_list ?_
      refine wpList_load_doc rfl _ rfl r (S2) rfl X10.out.2.1 ?_
      refine wpList_store_doc rfl _ _ rfl (w.heap.size + 3) S2 (docC S) rfl rfl X10.out.1.2.2.2.1 (by rw [docC_size, docC_size]) ?_
      intro W11 B11 U11
      have X11 : Hid (Py w W11 zeroS zeroS S2 S2) := X10.out.1.doc B11 U11
      clear B11 U11 X10
      go_wp2_with fail
      go_roundw
      case rel => exact ⟨j + 1, S2, HJ.out.1, HJ.out.2, by go_num, HK2.out, X11.out⟩
      case measure => simp [intOf]; have := HJ.out.2; omega
end Go.Proofs.YtpedollliahldaaDoor
