/- A state is equal to itself. -/
import Derived.Test.YtpedollliahldaaDoorLc
import Derived.ChangeKeysEq
namespace Go.Proofs.YtpedollliahldaaDoor
open Go.RowKit
set_option linter.unusedVariables false
set_option linter.unusedSimpArgs false
set_option maxRecDepth 100000
theorem part24 (w : World) {xs : Array Value} {off : Nat} {v : Value} (h : xs[off]? = some v) : (part 24 xs off).run Tryd.prog w = .ok v w := run_part_plain (P := Tryd.prog) w (by kernel_rfl) h
theorem cells24 : Tryd.prog.cellsOf 24 = 1 := by kernel_rfl
theorem eq24 (w : World) (d : Nat) (z : Int) : (Op.equalIn (d + 1) 24 (.int .u32 z) (.int .u32 z)).run Tryd.prog w = .ok true w := by
  rw [run_equalIn_int (P := Tryd.prog) w d 24 .u32 .u32 z z Tryd.underlying24]
  simp
theorem items_same (w : World) (d : Nat) (xs : Array Value) : ∀ is : List Nat, (∀ i ∈ is, ∃ z, xs[i]? = some (.int .u32 z)) → (Op.eqItems (d + 1) 24 1 xs xs is).run Tryd.prog w = .ok true w
  | [], _ => by simp [Op.eqItems]
  | i :: is, h => by
    obtain ⟨z, hz⟩ := h i (by simp)
    simp only [Op.eqItems, Sem.run_bind, Nat.mul_one, part24 w hz, Result.andThen_ok, eq24 w d z]
    simpa using items_same w d xs is (fun j hj => h j (by simp [hj]))
theorem arr_same (w : World) (d n t : Nat) (xs : Array Value) (hu : Tryd.prog.underlying t = some (.array n 24)) (h : ∀ i, i < n → ∃ z, xs[i]? = some (.int .u32 z)) : (Op.equalIn (d + 2) t (.agg xs) (.agg xs)).run Tryd.prog w = .ok true w := by
  cases hq : Tryd.prog.info? 24 with
  | none =>
    have : (Tryd.prog.info? 24).isSome = true := by kernel_rfl
    simp [hq] at this
  | some i =>
    rw [run_equalIn_array (P := Tryd.prog) w (d + 1) xs xs hu hq, cells24]
    exact items_same w d xs _ (fun i hi => h i (by simpa using hi))
theorem part_arr (w : World) (t n : Nat) (xs : Array Value) (off : Nat) (hu : Tryd.prog.underlying t = some (.array n 24)) (hs : (Tryd.prog.info? t).map (·.size) = some n) : (part t xs off).run Tryd.prog w = .ok (.agg (xs.extract off (off + n))) w := by
  cases hq : Tryd.prog.info? t with
  | none => simp [hq] at hs
  | some i =>
    have hsz : i.size = n := by simpa [hq] using hs
    have hagg : (isAgg t).run Tryd.prog w = .ok true w := by
      unfold isAgg
      rw [Sem.run_bind, run_underlying hu w]
      rfl
    simp [part, Sem.run_bind, hagg, sizeOf, typeInfo, hq, hsz]
theorem progF_int (S : St) (j : Nat) : ∃ z, progF S j = .int .u32 z := by
  unfold progF
  split
  · exact ⟨_, rfl⟩
  split
  · exact ⟨_, rfl⟩
  split
  · exact ⟨_, rfl⟩
  split
  · exact ⟨_, rfl⟩
  split
  · exact ⟨_, rfl⟩
  · exact ⟨_, rfl⟩
theorem prog_get (S : St) (j : Nat) (hj : j < 39) : ∃ z, (progC S)[j]? = some (.int .u32 z) := by
  obtain ⟨z, hz⟩ := progF_int S j
  exact ⟨z, by rw [← hz]; exact rowC_get _ _ _ hj⟩
theorem ext_get (S : St) (off n i : Nat) (hi : i < n) (hn : off + n ≤ 39) : ∃ z, ((progC S).extract off (off + n))[i]? = some (.int .u32 z) := by
  obtain ⟨z, hz⟩ := prog_get S (off + i) (by omega)
  refine ⟨z, ?_⟩
  rw [Array.getElem?_extract, if_pos (by rw [progC_size]; omega)]
  exact hz
theorem fields28 : (Tryd.prog.fieldsOf 28).toList.map (fun f => (f.name, f.type, f.offset)) = [("Prio", 25, 0), ("High", 24, 32), ("Waits", 24, 33), ("Serving", 24, 34), ("Lets", 26, 35), ("Least", 26, 37)] := by kernel_rfl
theorem size25 : (Tryd.prog.info? 25).map (·.size) = some 32 := by kernel_rfl
theorem size26 : (Tryd.prog.info? 26).map (·.size) = some 2 := by kernel_rfl
theorem list6 {α β : Type} {g : α → β} {l : List α} {a b c d e f : β} (h : l.map g = [a, b, c, d, e, f]) : ∃ x0 x1 x2 x3 x4 x5, l = [x0, x1, x2, x3, x4, x5] ∧ g x0 = a ∧ g x1 = b ∧ g x2 = c ∧ g x3 = d ∧ g x4 = e ∧ g x5 = f := by
  match l, h with
  | [x0, x1, x2, x3, x4, x5], h =>
    simp at h
    exact ⟨x0, x1, x2, x3, x4, x5, rfl, h.1, h.2.1, h.2.2.1, h.2.2.2.1, h.2.2.2.2.1, h.2.2.2.2.2⟩
theorem fields_step (w : World) (d : Nat) (xs : Array Value) (f : Field) (fs : List Field) (a : Value) (nm : f.name ≠ "_") (hp : (part f.type xs f.offset).run Tryd.prog w = .ok a w) (he : (Op.equalIn d f.type a a).run Tryd.prog w = .ok true w) (hr : (Op.eqFields d xs xs fs).run Tryd.prog w = .ok true w) : (Op.eqFields d xs xs (f :: fs)).run Tryd.prog w = .ok true w := by
  rw [Op.eqFields, if_pos nm]
  simp only [Sem.run_bind, hp, he, Result.andThen_ok]
  simpa using hr
theorem eq_prog_d (S : St) (w : World) (d : Nat) : (Op.equalIn (d + 2 + 1) 28 (.agg (progC S)) (.agg (progC S))).run Tryd.prog w = .ok true w := by
  refine (run_equalIn_struct (P := Tryd.prog) w (d + 2) 28 (progC S) (progC S) (by kernel_rfl) (by kernel_rfl)).trans ?_
  obtain ⟨x0, x1, x2, x3, x4, x5, hl, e0, e1, e2, e3, e4, e5⟩ := list6 fields28
  rw [hl]
  clear hl
  simp only [Prod.mk.injEq] at e0 e1 e2 e3 e4 e5
  obtain ⟨z1, h1⟩ := prog_get S 32 (by omega)
  obtain ⟨z2, h2⟩ := prog_get S 33 (by omega)
  obtain ⟨z3, h3⟩ := prog_get S 34 (by omega)
  have q0 := arr_same w d 32 25 ((progC S).extract 0 (0 + 32)) Tryd.underlying25 (fun i hi => ext_get S 0 32 i hi (by omega))
  have q4 := arr_same w d 2 26 ((progC S).extract 35 (35 + 2)) Tryd.underlying26 (fun i hi => ext_get S 35 2 i hi (by omega))
  have q5 := arr_same w d 2 26 ((progC S).extract 37 (37 + 2)) Tryd.underlying26 (fun i hi => ext_get S 37 2 i hi (by omega))
  have p0 := part_arr w 25 32 (progC S) 0 Tryd.underlying25 size25
  have p4 := part_arr w 26 2 (progC S) 35 Tryd.underlying26 size26
  have p5 := part_arr w 26 2 (progC S) 37 Tryd.underlying26 size26
  have p1 := part24 w h1
  have p2 := part24 w h2
  have p3 := part24 w h3
  have r1 := eq24 w (d + 1) z1
  have r2 := eq24 w (d + 1) z2
  have r3 := eq24 w (d + 1) z3
  clear h1 h2 h3
  generalize (progC S).extract 0 (0 + 32) = y0 at *
  generalize (progC S).extract 35 (35 + 2) = y4 at *
  generalize (progC S).extract 37 (37 + 2) = y5 at *
  generalize progC S = xs at *
  exact fields_step w (d + 2) xs x0 _ _ (by rw [e0.1]; decide) (by rw [e0.2.1, e0.2.2]; exact p0) (by rw [e0.2.1]; exact q0)
    (fields_step w (d + 2) xs x1 _ _ (by rw [e1.1]; decide) (by rw [e1.2.1, e1.2.2]; exact p1) (by rw [e1.2.1]; exact r1)
    (fields_step w (d + 2) xs x2 _ _ (by rw [e2.1]; decide) (by rw [e2.2.1, e2.2.2]; exact p2) (by rw [e2.2.1]; exact r2)
    (fields_step w (d + 2) xs x3 _ _ (by rw [e3.1]; decide) (by rw [e3.2.1, e3.2.2]; exact p3) (by rw [e3.2.1]; exact r3)
    (fields_step w (d + 2) xs x4 _ _ (by rw [e4.1]; decide) (by rw [e4.2.1, e4.2.2]; exact p4) (by rw [e4.2.1]; exact q4)
    (fields_step w (d + 2) xs x5 _ _ (by rw [e5.1]; decide) (by rw [e5.2.1, e5.2.2]; exact p5) (by rw [e5.2.1]; exact q5) (by simp [Op.eqFields]))))))
theorem eq_prog (S : St) (w : World) : (Op.equalIn 10000 28 (.agg (progC S)) (.agg (progC S))).run Tryd.prog w = .ok true w := eq_prog_d S w 9997
theorem guard28 : Tryd.prog.eqGuardType Tryd.prog.depth 28 = false := by kernel_rfl
theorem wpList_eq_progG {w : World} {ops : Array Oper} {rest : List Oper} {o : Oper} {a : Act} {Q : Exit → Act → World → Prop} (hw : Region.wanted o (yielded ops a.tmps) = true) (x y : Operand) (r : TypeId) (hop : o.op = Op.binOp .eql 28 x y r) (S : St) (hx : a.eval x = .agg (progC S)) (hy : a.eval y = .agg (progC S)) (h : wpList Tryd.prog ops Q rest (a.put o.dst (.bool true)) w) : wpList Tryd.prog ops Q (o :: rest) a w := by
  refine wpList_want hw fun KK hKK => ?_
  unfold Oper.wp
  simp [execOp, hop, hx, hy, run_eql_struct (P := Tryd.prog) w, eq_prog S w, run_eqGuard_agg (P := Tryd.prog) w _ _ _ _ _ _ guard28, Result.andThen]
  exact hKK _ _ h
end Go.Proofs.YtpedollliahldaaDoor
