/- The statement on whose the bytes are returns true for every input. -/
import Derived.Test.YtcgjfklglckjcaaAwake
import Derived.Deep.AppendSrc
namespace Go.Proofs.Ytcgjfklglckjcaa
open Go.RowKit Go.Maps
set_option linter.unusedVariables false
theorem bytes_same (f : Nat → Nat) (n : Nat) (v1 v2 : Value) (hn : n ≤ 1000000) (w : World) (r1 : Reads .u8 w v1 n f) (r2 : Reads .u8 w v2 n f) :
    Calls Try.prog 24 #[v1, v2] w fun e w' => e = .returned (.bool true) ∧ ∃ q, w' = w.drewN q := by
  obtain ⟨a1, c1, rfl⟩ := reads_form r1
  obtain ⟨a2, c2, rfl⟩ := reads_form r2
  by_cases h0 : n = 0
  · subst h0
    go_enter Try.func24, Try.ntmps24
    go_wp2
    go_loopw [5] (fun i wr => i = .int .i64 0 ∧ ∃ q, wr = w.drewN q) (fun _ _ => 0)
    case atStart => exact ⟨rfl, 0, rfl⟩
    case round =>
      obtain ⟨rfl, q, rfl⟩ := hrel
      go_wp2
      go_ret
      exact ⟨rfl, q, rfl⟩
  · obtain ⟨b1, o1, c1', e1, hc1⟩ := reads_some r1 (by omega)
    obtain ⟨b2, o2, c2', e2, hc2⟩ := reads_some r2 (by omega)
    simp only [Value.slice.injEq] at e1 e2
    obtain ⟨rfl, -, rfl⟩ := e1
    obtain ⟨rfl, -, rfl⟩ := e2
    go_enter Try.func24, Try.ntmps24
    go_wp2
    go_loopw [5] (fun i wr => ∃ k : Nat, k ≤ n ∧ i = .int .i64 k ∧ ∃ q, wr = w.drewN q) (fun i _ => n - (intOf i).toNat)
    case atStart => exact ⟨0, by omega, rfl, 0, rfl⟩
    case round =>
      obtain ⟨k, hk, rfl, q, rfl⟩ := hrel
      by_cases hlt : k < n
      · have h1 := hc1 k hlt
        have h2 := hc2 k hlt
        have hkL : (k : Int) < n := by omega
        clear hc1 hc2 r1 r2
        go_wp2
        go_quiet (fail)
        go_wp2
        go_roundw
        case rel => exact ⟨k + 1, by omega, by go_num, _, rfl⟩
        case measure => simp [intOf]; omega
      · clear hc1 hc2 r1 r2
        go_wp2
        go_ret
        exact ⟨rfl, q, rfl⟩
theorem src_zero {w : World} {x : Option Addr} {c : Nat} : Src Try.prog 1 64 (.slice x 0 c) 0 [] w := by
  cases x with
  | none => exact Src.ofNil w Try.underlying64 c
  | some a => exact Src.ofSlice w Try.underlying64 a 0 c [] rfl (by simp) (by simp)
theorem rowK_nil (k : IntKind) (f : Nat → Nat) : rowK k f 0 = [] := rfl
/-- 'append([]byte{}, data...)' -/
theorem wpList_append_all {w : World} {ops : Array Oper} {rest : List Oper} {o : Oper} {a : Act} {Q : Exit → Act → World → Prop} (hgd : o.guard = none) (s x : Operand) (ho : o.op = .call { callee := .builtin .append, args := #[s, x], argTypes := #[64, 64] })
    (B g : Nat) (hs : a.eval s = .slice (some ⟨g, 0, none⟩) 0 0) (hown : w.ownsRow B 5 1 (.slice (some ⟨g, 0, none⟩) 0 0) 0 []) (v : Value) (hx : a.eval x = v) (L : Nat) (f : Nat → Nat) (hr : Reads .u8 w v L f) (hL : L ≤ 100) (hB : B ≤ w.heap.size)
    (h : ∀ g' cap w', w'.ownsRow B 5 1 (.slice (some ⟨g', 0, none⟩) L cap) L (rowK .u8 f L) → Below B w w' → B ≤ g' → wpList Try.prog ops Q rest (a.put o.dst (.slice (some ⟨g', 0, none⟩) L cap)) w') : wpList Try.prog ops Q (o :: rest) a w := by
  obtain ⟨i0, hi, hz0, hz1, hz2⟩ := info_parts Try.info5
  have hg := (hown.lt g rfl).1
  rcases hr with ⟨rfl, ax, c, rfl⟩ | ⟨b, off, c, rfl, hc⟩
  · refine wpList_plain hgd fun K hK => ?_
    have hrun := run_append_room_src (P := Try.prog) w 64 64 o.type 5 i0 Try.underlying64 hi g 0 0 0 (.slice ax 0 c) 0 [] (by rw [hz1]; exact src_zero) (by omega) (by simp) (by simp)
    unfold Oper.wp
    simp [execOp, ho, resolve, invoke, builtin, hs, hx, hrun, Result.andThen]
    exact hK _ _ (h g 0 w (by rw [rowK_nil]; exact hown) (Below.refl _ _) hg)
  · refine wpList_append_own w hgd s x 64 ho B 5 i0 (.int .u8 0) 1 1 Try.underlying64 hi hz0 hz1 hz2 rfl (by decide) _ 0 [] hs hown ⟨b, off, none⟩ L c (rowK .u8 f L) hx (by rw [rowK_length]; omega) (fun j u hu => by obtain ⟨h1, rfl⟩ := rowK_at _ _ _ _ _ hu; rw [addr_add]; exact hc j h1) (rowK_one _ _ _) (by unfold maxLen; omega) (by omega) hB ?_
    intro v' w' hown' hgrow hnil
    rw [Nat.zero_add, List.nil_append] at hown'
    rcases hown'.2 with ⟨rfl, _⟩ | ⟨g', cap, cur, rfl, hb', _⟩
    · have := hnil.1 rfl; simp at this
    · exact h g' cap w' hown' (Below.grown (Below.refl _ _) hgrow hB (fun j hj => by cases hj; exact hg)) hb'
/-- L cells of a block hold bytes, and may be written -/
def Bytey (w : World) (g L : Nat) : Prop := ∀ i, i < L → ∃ z, w.cell? ⟨g, i, none⟩ = some (.int .u8 z) ∧ w.frozen? ⟨g, i, none⟩ = false
theorem bytey_row {w : World} {base g L cap : Nat} {f : Nat → Nat} (h : w.ownsRow base 5 1 (.slice (some ⟨g, 0, none⟩) L cap) L (rowK .u8 f L)) : Bytey w g L := fun i hi =>
  ⟨f i, by rw [h.cellAt i (by omega)]; exact rowK_get _ _ _ _ hi, h.frozenAt i⟩
theorem bytey_set {w : World} {g L k : Nat} {z : Int} (h : Bytey w g L) : Bytey (w.setCell ⟨g, k, none⟩ (.int .u8 z)) g L := fun i hi => by
  obtain ⟨y, h1, h2⟩ := h i hi
  rw [World.frozen?_setCell]
  by_cases e : i = k
  · subst e
    exact ⟨z, World.cell?_setCell_same _ _ _ h1, h2⟩
  · exact ⟨y, by rw [World.cell?_setCell_other _ _ _ _ (fun h => e (by cases h; rfl))]; exact h1, h2⟩
theorem step_setCell (w : World) (g k : Nat) (v : Value) : Step (fun x => x = g) w (fun x => x = g) (w.setCell ⟨g, k, none⟩ v) :=
  ⟨rfl, rfl, rfl, by simp [World.setCell], fun x hx hne => by simp only [World.setCell]; rw [Array.getElem?_modify, if_neg (fun e => hne e.symm)], fun _ h => .inl h, fun _ h => h⟩
theorem row_step {w w' : World} {base : Nat} {e : TypeId} {g n cap : Nat} {xs : List Value} {F F' : Nat → Prop} (h : w.ownsRow base e 1 (.slice (some ⟨g, 0, none⟩) n cap) n xs) (hs : Step F w F' w') (hg : ¬ F g) : w'.ownsRow base e 1 (.slice (some ⟨g, 0, none⟩) n cap) n xs := by
  refine ⟨h.1, ?_⟩
  rcases h.2 with ⟨h1, _⟩ | ⟨g', cap', cur, hv, hb, hgg, rest⟩
  · cases h1
  · cases hv
    exact .inr ⟨g, cap, cur, rfl, hb, (hs.block g (Array.getElem?_eq_some_iff.1 hgg).1 hg).trans hgg, rest⟩
theorem over_in (M : Nat → Nat) (x L : Nat) (f : Nat → Nat) (i : Nat) (hi : i < L) : over M x L f (x + i) = f i := by
  unfold over; rw [if_pos (by omega)]; congr 1; omega
theorem read_over {w : World} {F : Nat → Prop} {rb size n : Nat} {M f : Nat → Nat} {x L : Nat} (h : RamAt w F rb size n (.pointer none) (over M x L f)) (hs : size ≤ 268435456) (hx : x < 18446744073709551616) (hL : L < 18446744073709551616) (hin : inB x L 2147483648 size = true) :
    Calls Try.prog 46 #[.pointer (some ⟨rb, 0, none⟩), .int .u64 (x : Nat), .int .u64 (L : Nat)] w fun e w' => e = .returned (.tuple #[.slice (some ⟨w.heap.size, 0, none⟩) L L, .bool true]) ∧ w'.ownsRow w.heap.size 5 1 (.slice (some ⟨w.heap.size, 0, none⟩) L L) L (rowK .u8 f L) ∧ Below w.heap.size w w' :=
  (read_in h hs x L hx hL hin).mono fun e w' ⟨he, h1, h2⟩ => by
    rw [rowK_congr .u8 _ f L (fun i hi => over_in M x L f i hi)] at h1
    exact ⟨he, h1, h2⟩
end Go.Proofs.Ytcgjfklglckjcaa
