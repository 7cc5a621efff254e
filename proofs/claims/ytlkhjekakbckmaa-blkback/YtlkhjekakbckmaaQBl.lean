/- Layer 19: a start comes in; what the registers tell at the first of a device's own places. -/
import Derived.Test.YtlkhjekakbckmaaQBj
import Derived.Test.YtlkhjekakbckmaaQBk
import Derived.Test.YtlkhjekakbckmaaYe
import Derived.ProofKit
import Derived.OpenShut
import Derived.ShutString
namespace Go.Proofs.Ytlkhjekakbckmaa
open Go.RowKit Go.Maps Go.ChangeShapes Go.WideShapes Go.ChangeAt
set_option linter.unusedVariables false
set_option linter.unusedSimpArgs false
set_option maxRecDepth 100000
theorem low_256 (w : World) : Calls Try.prog 64 #[.int .u64 256, .int .i64 8] w fun e w' => e = .returned (.bool true) ∧ w' = w := by
  have HA : Hid (Calls Try.prog 60 #[.int .u64 0, .int .u64 8] w fun e w' => e = .returned (.bool true) ∧ w' = w) := aligned_pos (0 : Int) 8 (by omega) (by omega) w
  have HW : Hid (Calls Try.prog 94 #[.int .u64 256, .int .u64 8, .int .u64 256, .int .u64 3840] w fun e w' => e = .returned (.bool true) ∧ w' = w) := within_any (256 : Int) 8 256 3840 (by omega) (by omega) (by omega) (by omega) w
  go_enter Try.func64, Try.ntmps64
  go_wp2_with (first | (go_at_call 60; refine (HA.out).mono ?_; rintro e w1 ⟨rfl, hw⟩; rw [hw]; clear hw w1) | (go_at_call 94; refine (HW.out).mono ?_; rintro e w1 ⟨rfl, hw⟩; rw [hw]; clear hw w1))
  all_goals (first | go_ret | skip)
  all_goals exact ⟨rfl, rfl⟩
theorem load_256 {w : World} {gb qb : Nat} {K : Rg} {sa : Option Addr} {sn sc : Nat} (h : Rgs w gb qb K (.slice sa sn sc)) (hs : SpIn w sa sn sc K.sp) : Calls Try.prog 24 #[.pointer (some ⟨gb, 0, none⟩), .int .u64 256, .int .i64 8] w fun e w' => e = .returned (.tuple #[.int .u64 (spaceK K 0 8 : Int), .bool true]) ∧ w' = w := by
  have HT : Hid (Calls Try.prog 65 #[.pointer (some ⟨gb, 0, none⟩), .int .u64 0, .int .u64 8] w fun e w' => e = .returned (.int .u64 (spaceK K 0 8 : Int)) ∧ w' = w) := told_space h hs 0 8 (by omega) (by omega)
  clear h hs
  generalize spaceK K 0 8 = r at *
  go_enter Try.func24, Try.ntmps24
  go_wp2_with (first | (go_at_call 64; refine (low_256 w).mono ?_; rintro e w1 ⟨rfl, hw⟩; rw [hw]; clear hw w1) | (go_at_call 65; refine (HT.out).mono ?_; rintro e w1 ⟨rfl, hw⟩; rw [hw]; clear hw w1))
  all_goals go_ret2
  all_goals exact ⟨rfl, rfl⟩
theorem bdisk_any {w : World} {bb gb rb db : Nat} {m : Nat → Nat} {lv : Value} (h : BlkAt w bb gb rb db m lv) : Calls Try.prog 25 #[.pointer (some ⟨bb, 0, none⟩)] w fun e w' => e = .returned (.pointer (some ⟨db, 0, none⟩)) ∧ w' = w := by
  have c2 := cellOf h 2 (.pointer (some ⟨db, 0, none⟩)) rfl
  clear h
  go_enter Try.func25, Try.ntmps25
  go_wp2_with fail
  go_ret
  exact ⟨rfl, rfl⟩
theorem cells4 : Try.prog.cellsOf 4 = 1 := by kernel_rfl
theorem cells22 : Try.prog.cellsOf 22 = 1 := by kernel_rfl
theorem cells23 : Try.prog.cellsOf 23 = 1 := by kernel_rfl
theorem cells9 : Try.prog.cellsOf 9 = 1 := by kernel_rfl
theorem cells25 : Try.prog.cellsOf 25 = 4 := by kernel_rfl
/-- a start as it lies in the world -/
def StartIn (W : World) (v : Value) (lk : Bool) (dl : Nat) (ft : Nat) (s : ByteArray) : Prop := ∃ da dc f, v = .agg #[.bool lk, .slice da dl dc, .int .u64 (ft : Int), .string s] ∧ Reads .u8 W (.slice da dl dc) dl f ∧ (∀ i, f i ≤ 255) ∧ ft < 18446744073709551616 ∧ s.size < 9223372036854775808
section
variable {H : Type} {enc : TypeId × Value → H} {W : World} {spare : Nat → Bool} {held : Bool}
theorem open_start {v : Value} {d : DataW H} {p : List MemPlace} (hv : ∃ cs, v = .agg cs) (h : DataW.Trod enc Try.prog W 0 (fun _ => true) held 25 v d p) : ∃ lk dl ft s, StartIn W v lk dl ft s := by
  obtain ⟨cs, rfl⟩ := hv
  obtain ⟨fuel, hf⟩ := h
  obtain ⟨xs, m, _, _, hl, hlen, hf⟩ := DataW.trod_struct Try.underlying25 hf
  simp only [Value.cells] at hf hl
  rw [cells25] at hl
  obtain ⟨c0, c1, c2, c3, e⟩ := list_four cs.toList hl
  rw [e] at hf
  obtain ⟨y0, y1, y2, y3, rfl⟩ := list_four xs hlen
  have h0 := hf 0 _ rfl
  have h1 := hf 1 _ rfl
  have h2 := hf 2 _ rfl
  have h3 := hf 3 _ rfl
  simp [cells4, cells22, cells23, cells9] at h0 h1 h2 h3
  obtain ⟨z, e2, _, w2⟩ := DataW.trod_int Try.underlying23 h2
  simp at e2
  obtain ⟨lk, e0, _⟩ := DataW.trod_bool Try.underlying4 h0
  obtain ⟨s, e3, _, w3⟩ := DataW.trod_string Try.underlying9 h3
  simp at e0 e3
  have e1 : ∃ da dl dc, c1 = .slice da dl dc ∧ ∃ f, (∀ i, f i ≤ 255) ∧ Reads .u8 W (.slice da dl dc) dl f := by
    rcases open_ints Try.underlying22 Try.underlying5 (by kernel_rfl) h1 with ⟨hcs, _⟩ | ⟨ad, l, cap, zs, hcs, _, hl, hm, hz, _, hcell, hwz⟩
    · simp at hcs
      exact ⟨none, 0, 0, hcs, fun _ => 0, fun _ => Nat.zero_le _, .inl ⟨rfl, _, _, rfl⟩⟩
    · simp at hcs
      exact ⟨some ad, l, cap, hcs, isRow_reads (.inr ⟨_, rfl, hl, hm, by simpa using hz, hcell, hwz⟩)⟩
  obtain ⟨da, dl, dc, e1, f, hf2, hr⟩ := e1
  have hz := bounds_u64 w2
  refine ⟨lk, dl, z.toNat, s, da, dc, f, ?_, hr, hf2, by omega, by unfold maxLen at w3; omega⟩
  congr 1
  apply Array.toList_inj.1
  rw [e, e0, e1, e2, e3, Int.toNat_of_nonneg (by omega)]
end
end Go.Proofs.Ytlkhjekakbckmaa
