/- IndexRune of a rune above 127 in a set of ASCII bytes: none. -/
import Derived.Test.YtooaafbdjnlmfaaGreatDoorQDInt
import Derived.Laws.RangeAny
import Derived.BigQuiet
import Derived.Laws.RangeString
import Derived.Deep.LoopGhost
namespace Go.Proofs.YtooaafbdjnlmfaaGreatDoor
open Go.RowKit
set_option linter.unusedVariables false
set_option linter.unusedSimpArgs false
theorem ibyte_none : ∀ (l : List UInt8) (b : UInt8), b ∉ l → Lib.indexByte l b = -1
  | [], _, _ => rfl
  | x :: l, b, h => by
    have h1 : x ≠ b := fun e => h (by simp [e])
    have h2 := ibyte_none l b (fun e => h (by simp [e]))
    unfold Lib.indexByte
    simp [h1, h2]
theorem ibyte_high (s : ByteArray) (b : UInt8) (hb : b ∉ s.data.toList) (w : World) : Calls Tryz.prog 126 #[.string s, .int .u8 (b.toNat : Int)] w fun e w' => e = .returned (.int .i64 (-1)) ∧ w' = w := by
  have h := Any.strings_IndexByte (P := Tryz.prog) (ρ := Tryz.lays153_ren) { Tryz.lays153 with } s (b.toNat : Int) w
  rw [show ((b.toNat : Int)).toNat.toUInt8 = b from by simp, ibyte_none _ _ hb] at h
  exact h
theorem of_high (x : Nat) (h : x < 64) : 128 ≤ (UInt8.ofNat (128 + x)).toNat := by
  rw [UInt8.toNat_ofNat']
  omega
theorem enc_last (r : Int) (h0 : 128 ≤ r) : ∃ (E : ByteArray) (c : Nat), Utf8.encode r = E ∧ c + 1 = E.size ∧ 1 ≤ c ∧ c ≤ 3 ∧ ∀ h : c < E.size, 128 ≤ E[c].toNat := by
  have hc : 128 ≤ (if Utf8.valid r then r.toNat else Utf8.runeError) := by
    split
    · omega
    · decide
  unfold Utf8.encode
  generalize (if Utf8.valid r then r.toNat else Utf8.runeError) = c at *
  simp only
  rw [if_neg (by omega)]
  split
  · exact ⟨_, 1, rfl, rfl, by omega, by omega, fun _ => of_high _ (Nat.mod_lt _ (by omega))⟩
  · split
    · exact ⟨_, 2, rfl, rfl, by omega, by omega, fun _ => of_high _ (Nat.mod_lt _ (by omega))⟩
    · exact ⟨_, 3, rfl, rfl, by omega, by omega, fun _ => of_high _ (Nat.mod_lt _ (by omega))⟩
set_option maxRecDepth 100000 in
set_option maxHeartbeats 1000000 in
theorem irune_high (s : ByteArray) (r : Int) (hs : s.size ≤ 100) (HA : Hid (∀ b ∈ s.data.toList, b.toNat < 128)) (h0 : 128 ≤ r) (h1 : r ≤ 1114111) (hne : (r == 65533) = false) (v : Bool) (HV : Hid (∀ V, Calls Tryz.prog 127 #[.int .i32 r] V fun e w' => e = .returned (.bool v) ∧ w' = V)) (w : World) : Calls Tryz.prog 101 #[.string s, .int .i32 r] w fun e w' => e = .returned (.int .i64 (-1)) ∧ Below w.heap.size w w' := by
  have hlt : decide (r < 128) = false := by simp; omega
  have h00 : (0 : Int) ≤ r := by omega
  cases v
  · go_enter Tryz.func101, Tryz.ntmps101
    go_wp2_with (go_at_call 127; (with_reducible refine Calls.mono (HV.out _) ?_); rintro e w' ⟨rfl, rfl⟩)
    go_ret
    exact ⟨rfl, Below.refl _ _⟩
  · go_enter Tryz.func101, Tryz.ntmps101
    go_wp2_with (go_at_call 127; (with_reducible refine Calls.mono (HV.out _) ?_); rintro e w' ⟨rfl, rfl⟩)
    obtain ⟨E, c, hE, hcE, hc1, hc3, hl⟩ := enc_last r h0
    have hlt0 : c < E.size := by omega
    have hl128 : 128 ≤ (E[c]'hlt0).toNat := hl hlt0
    have HL : Hid _ := hl
    clear hl
    have hcE1 : (E.size : Int) - 1 = c := by omega
    have hE4 : E.size ≤ 4 := by omega
    have hcc : (c : Int) < E.size := by omega
    have hc0 : (0 : Int) ≤ c := by omega
    clear hcE
    go_wp2_with fail
    go_step3
    go_wp2_with fail
    go_loop [9] (fun iv => iv = .int .i64 c) (fun _ => 0)
    case atStart => rfl
    case round =>
      obtain rfl := hrel
      by_cases hcs : c < s.size
      · have hcs1 : (c : Int) < s.size := by omega
        have hmem : s[c] ∈ s.data.toList := by simp [ByteArray.getElem_eq_getElem_data]
        have hne2 : ((s[c].toNat : Int) != (E[c]'hlt0).toNat) = true := by
          have := HA.out _ hmem
          simp; omega
        have TB : Hid (∀ V, Calls Tryz.prog 126 #[.string (s.extract (c + 1) s.size), .int .u8 ((E[c]'hlt0).toNat : Int)] V fun e w' => e = .returned (.int .i64 (-1)) ∧ w' = V) := by
          intro V
          refine ibyte_high _ _ ?_ V
          intro hm
          have hm2 : (E[c]'hlt0) ∈ s.data.toList := by
            rw [ByteArray.data_extract] at hm
            simp at hm
            exact List.mem_of_mem_drop (List.mem_of_mem_take hm)
          have := HA.out _ hm2
          omega
        have hc2 : (c : Int) + 1 ≤ s.size := by omega
        have hc10 : (0 : Int) ≤ (c : Int) + 1 := by omega
        have hwr : IntKind.i64.wrap ((c : Int) + 1) = (c : Int) + 1 := by rw [IntKind.wrap_i64]; omega
        go_wp2_with fail
        go_step3
        go_wp2_with fail
        go_quiet (fail)
        have BV : Hid (Below w'.heap.size w' (w'.drewN nq)) := drewN_b w' nq
        generalize w'.drewN nq = V at *
        go_wp2_with fail
        go_quiet ((go_at_call 126; with_reducible exact Calls.quiet_of_same (TB.out _)))
        go_wp2_with fail
        rw [Exit.noGoto_ret]
        go_wp2_with fail
        try rw [Exit.noGoto_ret]
        go_ret
        exact ⟨rfl, below_call BV.out (drewN_b V _)⟩
      · have hcs1 : decide ((c : Int) < s.size) = false := by simp; omega
        go_wp2_with fail
        go_ret
        exact ⟨rfl, Below.refl _ _⟩
end Go.Proofs.YtooaafbdjnlmfaaGreatDoor

namespace Go.Proofs.YtooaafbdjnlmfaaGreatDoor
open Go.RowKit
set_option linter.unusedVariables false
set_option linter.unusedSimpArgs false
theorem iter_below (w : World) (s : ByteArray) (p : Nat) : Below w.heap.size w (w.iter s p) := by
  unfold World.iter
  exact (Below.refl _ _).alloc (Nat.le_refl _) _
set_option maxRecDepth 100000 in
set_option maxHeartbeats 1000000 in
theorem irune_err (s : ByteArray) (hs : s.size ≤ 100) (HA : Hid (∀ b ∈ s.data.toList, b.toNat < 128)) (w : World) : Calls Tryz.prog 101 #[.string s, .int .i32 65533] w fun e w' => e = .returned (.int .i64 (-1)) ∧ Below w.heap.size w w' := by
  go_enter Tryz.func101, Tryz.ntmps101
  go_wp2_with fail
  go_loopg [5, 6] s.size (fun g _ _ wx => ∃ i : Nat, i + g = s.size ∧ wx = w.iter s i)
  case atStart => exact ⟨0, by omega, rfl⟩
  case round =>
    obtain ⟨i, hig, rfl⟩ := hrel
    cases gk with
    | zero =>
      obtain rfl : i = s.size := by omega
      have hnx := run_next_end (P := Tryz.prog) w s s.size
      go_wp2_with fail
      go_ret
      exact ⟨rfl, iter_below _ _ _⟩
    | succ g =>
      have hi : i < s.size := by omega
      have hmem : s[i] ∈ s.data.toList := by simp [ByteArray.getElem_eq_getElem_data]
      have hx128 : (s[i]'hi).toNat < 128 := HA.out _ hmem
      have hnx := fun ty => run_next_ascii (P := Tryz.prog) w s i ty hi hx128
      have hne : (((s[i]'hi).toNat : Int) == 65533) = false := by simp; omega
      clear hmem
      generalize (s[i]'hi).toNat = x at *
      go_wp2_with fail
      go_roundg g
      case measure => omega
      case rel => exact ⟨i + 1, by omega, rfl⟩
end Go.Proofs.YtooaafbdjnlmfaaGreatDoor

namespace Go.Proofs.YtooaafbdjnlmfaaGreatDoor
open Go.RowKit
set_option linter.unusedVariables false
set_option linter.unusedSimpArgs false
theorem dec_high (s : ByteArray) (i : Nat) (h : 128 ≤ (s.get! i).toNat) : 128 ≤ (Utf8.decode s i).1 ∧ (Utf8.decode s i).1 ≤ 1114111 ∧ 1 ≤ (Utf8.decode s i).2 ∧ ∀ k, k < (Utf8.decode s i).2 → k = 0 ∨ (i + k < s.size ∧ 128 ≤ (s.get! (i + k)).toNat) := by
  have b0 := (s.get! i).toNat_lt
  have b1 := (s.get! (i + 1)).toNat_lt
  have b2 := (s.get! (i + 2)).toNat_lt
  have b3 := (s.get! (i + 3)).toNat_lt
  unfold Utf8.decode
  simp only [Nat.add_zero]
  rw [if_neg (by omega)]
  split
  · rename_i h1
    simp at h1
    split
    · refine ⟨by omega, by omega, by omega, fun k hk => ?_⟩
      have : k = 0 ∨ k = 1 := by simp at hk; omega
      rcases this with rfl | rfl
      · exact .inl rfl
      · exact .inr ⟨h1.2.1, by omega⟩
    · exact ⟨by decide, by decide, by simp, fun k hk => .inl (by simp at hk; omega)⟩
  · split
    · rename_i h1
      simp at h1
      split
      · rename_i h2
        simp at h2
        refine ⟨by omega, by omega, by omega, fun k hk => ?_⟩
        have : k = 0 ∨ k = 1 ∨ k = 2 := by simp at hk; omega
        rcases this with rfl | rfl | rfl
        · exact .inl rfl
        · exact .inr ⟨h1.1.2.1, by omega⟩
        · exact .inr ⟨h1.2.1, by omega⟩
      · exact ⟨by decide, by decide, by simp, fun k hk => .inl (by simp at hk; omega)⟩
    · split
      · rename_i h1
        simp at h1
        split
        · rename_i h2
          simp [Utf8.valid] at h2
          refine ⟨by omega, by omega, by omega, fun k hk => ?_⟩
          have : k = 0 ∨ k = 1 ∨ k = 2 ∨ k = 3 := by simp at hk; omega
          rcases this with rfl | rfl | rfl | rfl
          · exact .inl rfl
          · exact .inr ⟨h1.1.1.2.1, by omega⟩
          · exact .inr ⟨h1.1.2.1, by omega⟩
          · exact .inr ⟨h1.2.1, by omega⟩
        · exact ⟨by decide, by decide, by simp, fun k hk => .inl (by simp at hk; omega)⟩
      · exact ⟨by decide, by decide, by simp, fun k hk => .inl (by simp at hk; omega)⟩
theorem valid_any (r : Int) (h0 : 128 ≤ r) (h1 : r ≤ 1114111) : ∃ v : Bool, ∀ w, Calls Tryz.prog 127 #[.int .i32 r] w fun e w' => e = .returned (.bool v) ∧ w' = w := by
  by_cases h2 : r < 55296
  · refine ⟨true, fun w => ?_⟩
    go_enter Tryz.func127, Tryz.ntmps127
    go_wp2
    go_ret
    exact ⟨rfl, rfl⟩
  · by_cases h3 : 57343 < r
    · refine ⟨true, fun w => ?_⟩
      go_enter Tryz.func127, Tryz.ntmps127
      go_wp2
      go_ret
      exact ⟨rfl, rfl⟩
    · refine ⟨false, fun w => ?_⟩
      go_enter Tryz.func127, Tryz.ntmps127
      go_wp2
      go_ret
      exact ⟨rfl, rfl⟩
end Go.Proofs.YtooaafbdjnlmfaaGreatDoor

namespace Go.Proofs.YtooaafbdjnlmfaaGreatDoor
open Go.RowKit
set_option linter.unusedVariables false
set_option linter.unusedSimpArgs false
theorem get_bang (s : ByteArray) (i : Nat) (h : i < s.size) : s.get! i = s[i] := by
  have h2 : i < s.data.size := h
  show s.data[i]! = _
  rw [getElem!_pos s.data i h2]; rfl
theorem noany_add (l cs : List UInt8) (i n : Nat) (h : Lib.NoAny l cs i) (hx : ∀ k, k < n → ∃ x, l[i + k]? = some x ∧ cs.contains x = false) : Lib.NoAny l cs (i + n) := by
  induction n with
  | zero => exact h
  | succ n ih =>
    obtain ⟨x, h1, h2⟩ := hx n (by omega)
    exact (ih fun k hk => hx k (by omega)).succ h1 h2
theorem high_not (cs : List UInt8) (ha : ∀ b ∈ cs, b.toNat < 128) (x : UInt8) (h : 128 ≤ x.toNat) : cs.contains x = false := by
  rw [Bool.eq_false_iff]
  intro hc
  rw [List.contains_iff_mem] at hc
  have := ha x hc
  omega
theorem irune_any (s : ByteArray) (r : Nat) (hs : s.size ≤ 100) (HA : Hid (∀ b ∈ s.data.toList, b.toNat < 128)) (h0 : 128 ≤ r) (h1 : r ≤ 1114111) (w : World) : Calls Tryz.prog 101 #[.string s, .int .i32 (r : Int)] w fun e w' => e = .returned (.int .i64 (-1)) ∧ Below w.heap.size w w' := by
  by_cases h : r = 65533
  · subst h; exact irune_err s hs HA w
  · obtain ⟨v, hv⟩ := valid_any r (by omega) (by omega)
    exact irune_high s r hs HA (by omega) (by omega) (by simp; omega) v hv w
end Go.Proofs.YtooaafbdjnlmfaaGreatDoor

namespace Go.Proofs.YtooaafbdjnlmfaaGreatDoor
open Go.RowKit
set_option linter.unusedVariables false
set_option linter.unusedSimpArgs false
/-- a world whose block b is a text's reader at a place -/
def setIter (w : World) (b : Nat) (s : ByteArray) (p : Nat) : World := { w with heap := w.heap.setIfInBounds b (.stringIter s p) }
theorem setIter_size (w : World) (b : Nat) (s : ByteArray) (p : Nat) : (setIter w b s p).heap.size = w.heap.size := by simp [setIter]
theorem setIter_at (w : World) (b : Nat) (s : ByteArray) (p : Nat) (h : b < w.heap.size) : (setIter w b s p).heap[b]? = some (.stringIter s p) := by
  simp [setIter, h]
theorem setIter_below {B : Nat} {w v : World} (h : Below B w v) (b : Nat) (s : ByteArray) (p : Nat) (hb : B ≤ b) : Below B w (setIter v b s p) :=
  ⟨h.os, h.tape, h.output, by rw [setIter_size]; exact h.size, fun k hk => by
    have : k ≠ b := by omega
    rw [← h.block k hk]
    simp [setIter, Array.getElem?_setIfInBounds, Ne.symm this]⟩
theorem run_next_at (P : Program) (w : World) (b : Nat) (s : ByteArray) (pos : Nat) (hb : w.heap[b]? = some (.stringIter s pos)) (ty : TypeId) (h : pos < s.size) :
    (Instr.next (.pointer (some ⟨b, 0, none⟩)) true ty).run P w = .ok (.tuple #[.bool true, .int .i64 pos, .int .i32 (Utf8.decode s pos).1]) (setIter w b s (pos + (Utf8.decode s pos).2)) := by
  simp only [Instr.next, getObj, setObj, Sem.run_bind, Sem.run, hb, Result.andThen, h, if_true, setIter]
  simp [goInt]
theorem run_next_stop (P : Program) (w : World) (b : Nat) (s : ByteArray) (pos : Nat) (hb : w.heap[b]? = some (.stringIter s pos)) (ty : TypeId) (h : ¬ pos < s.size) :
    (Instr.next (.pointer (some ⟨b, 0, none⟩)) true ty).run P w = .ok (.tuple #[.bool false]) w := by
  simp [Instr.next, getObj, Sem.run, hb, h]
theorem dec_low (s : ByteArray) (i : Nat) (h : (s.get! i).toNat < 128) : (Utf8.decode s i).1 = (s.get! i).toNat ∧ (Utf8.decode s i).2 = 1 := by
  simp [Utf8.decode, h]
set_option maxRecDepth 100000 in
set_option maxHeartbeats 1000000 in
theorem index_short (s chars : ByteArray) (w : World) (h2 : 2 ≤ chars.size) (hc : chars.size ≤ 100) (h8 : s.size ≤ 8) (HA : Hid (∀ b ∈ chars.data.toList, b.toNat < 128)) :
    Calls Tryz.prog 73 #[.string s, .string chars] w fun e w' => e = .returned (.int .i64 (Lib.indexAny s.data.toList chars.data.toList)) ∧ Below w.heap.size w w' := by
  have hemp : chars.toList.isEmpty = false := by
    rw [Lib.toList_data]
    cases h : chars.data.toList with
    | nil => have := Lib.size_eq chars; rw [h, List.length_nil] at this; omega
    | cons _ _ => rfl
  have hn1 : ((chars.size : Int) == 1) = false := beq_eq_false_iff_ne.2 (by omega)
  have h8z : decide ((8 : Int) < (s.size : Int)) = false := decide_eq_false (by omega)
  have HU : Hid (∀ V, Calls Tryz.prog 102 #[.int .i64 (s.size : Int)] V fun e w' => e = .returned (.bool false) ∧ w' = V) := by
    intro V
    have h := Any.strings_shouldUseASCIISet (P := Tryz.prog) (ρ := Tryz.lays153_ren) { Tryz.lays153 with } (s.size : Int) V
    rw [h8z] at h
    exact h
  go_enter Tryz.func73, Tryz.ntmps73
  go_wp2_with (go_at_call 102; (with_reducible refine Calls.mono (HU.out _) ?_); rintro e w' ⟨rfl, rfl⟩)
  go_loopg [9, 10] s.size (fun g _ _ wx => ∃ i : Nat, i + g = s.size ∧ Below w'.heap.size w' wx ∧ w'.heap.size < wx.heap.size ∧ wx.heap[w'.heap.size]? = some (.stringIter s i) ∧ Lib.NoAny s.data.toList chars.data.toList i)
  case atStart => exact ⟨0, by omega, (Below.refl _ _).alloc (Nat.le_refl _) _, (Array.getElem?_eq_some_iff.1 (World.iter_heap w' s 0)).1, World.iter_heap w' s 0, Lib.NoAny.zero _ _⟩
  case round =>
    obtain ⟨i, hig, hbe, hlt, hit, hno⟩ := hrel
    have HN : Hid (Lib.NoAny s.data.toList chars.data.toList i) := hno
    have HB : Hid (Below w'.heap.size w' wr) := hbe
    have HL : Hid (w'.heap.size < wr.heap.size) := hlt
    have HI : Hid (wr.heap[w'.heap.size]? = some (.stringIter s i)) := hit
    clear hno hbe hlt hit
    cases gk with
    | zero =>
      obtain rfl : i = s.size := by omega
      have hnx := fun ty => run_next_stop Tryz.prog wr w'.heap.size s s.size HI.out ty (by omega)
      go_wp2_with fail
      go_ret
      exact ⟨by rw [Lib.indexAny_none (by rw [← Lib.size_eq]; exact HN.out)]; rfl, HB.out⟩
    | succ g =>
      have hi : i < s.size := by omega
      have hnx := fun ty => run_next_at Tryz.prog wr w'.heap.size s i HI.out ty hi
      obtain ⟨x, hx⟩ : ∃ x : UInt8, s[i]'hi = x := ⟨_, rfl⟩
      have hxl : s.data.toList[i]? = some x := by rw [← hx]; exact Lib.data_getElem? s i hi
      have hxg : s.get! i = x := (get_bang s i hi).trans hx
      have Hx : Hid (s.data.toList[i]? = some x) := hxl
      by_cases hx128 : x.toNat < 128
      · obtain ⟨d1, d2⟩ := dec_low s i (by rw [hxg]; exact hx128)
        rw [d1, d2, hxg] at hnx
        have HV : Hid (Below w'.heap.size w' (setIter wr w'.heap.size s (i + 1))) := setIter_below HB.out _ _ _ (Nat.le_refl _)
        have HS : Hid (w'.heap.size < (setIter wr w'.heap.size s (i + 1)).heap.size) := by rw [setIter_size]; exact HL.out
        have HT : Hid ((setIter wr w'.heap.size s (i + 1)).heap[w'.heap.size]? = some (.stringIter s (i + 1))) := setIter_at _ _ _ _ HL.out
        have hcon := Lib.contains_iff_indexByte chars.data.toList x
        have hback : ((x.toNat : Int)).toNat.toUInt8 = x := by simp
        have HR : Hid (∀ V, Calls Tryz.prog 101 #[.string chars, .int .i32 (x.toNat : Int)] V fun e w' => e = .returned (.int .i64 (Lib.indexByte chars.data.toList x)) ∧ w' = V) := by
          intro V
          have h := Any.strings_IndexRune_ascii (P := Tryz.prog) (ρ := Tryz.lays153_ren) { Tryz.lays153 with } chars (x.toNat : Int) V (by omega) (by omega)
          rw [hback] at h
          exact h
        clear hxl hx hxg d1 d2
        generalize setIter wr w'.heap.size s (i + 1) = V1 at *
        cases hin : chars.data.toList.contains x
        · rw [hin] at hcon
          have hlt : ¬ ((0 : Int) ≤ Lib.indexByte chars.data.toList x) := of_decide_eq_false hcon.symm
          have HIN : Hid (chars.data.toList.contains x = false) := hin
          clear hcon hback hin
          generalize Lib.indexByte chars.data.toList x = ib at *
          go_wp2_with (go_at_call 101; (with_reducible refine Calls.mono (HR.out _) ?_); rintro e w2 ⟨rfl, rfl⟩)
          go_roundg g
          case measure => omega
          case rel => exact ⟨i + 1, by omega, HV.out, HS.out, HT.out, HN.out.succ Hx.out HIN.out⟩
        · rw [hin] at hcon
          have hge : (0 : Int) ≤ Lib.indexByte chars.data.toList x := of_decide_eq_true hcon.symm
          have HIN : Hid (chars.data.toList.contains x = true) := hin
          clear hcon hback hin
          generalize Lib.indexByte chars.data.toList x = ib at *
          go_wp2_with (go_at_call 101; (with_reducible refine Calls.mono (HR.out _) ?_); rintro e w2 ⟨rfl, rfl⟩)
          go_ret
          exact ⟨by rw [Lib.indexAny_hit HN.out Hx.out HIN.out]; rfl, HV.out⟩
      · obtain ⟨d0, d1, d2, d3⟩ := dec_high s i (by rw [hxg]; omega)
        have hwid : i + (Utf8.decode s i).2 ≤ s.size := by
          rcases d3 ((Utf8.decode s i).2 - 1) (by omega) with h | h <;> omega
        have HNO : Hid (Lib.NoAny s.data.toList chars.data.toList (i + (Utf8.decode s i).2)) := by
          refine noany_add _ _ _ _ HN.out fun k hk => ?_
          rcases d3 k hk with rfl | ⟨hk1, hk2⟩
          · exact ⟨x, hxl, high_not _ HA.out x (by omega)⟩
          · exact ⟨s[i + k]'hk1, Lib.data_getElem? s (i + k) hk1, high_not _ HA.out _ (by rw [← get_bang s (i + k) hk1]; exact hk2)⟩
        have HR : Hid (∀ V, Calls Tryz.prog 101 #[.string chars, .int .i32 ((Utf8.decode s i).1 : Int)] V fun e w' => e = .returned (.int .i64 (-1)) ∧ Below V.heap.size V w') := fun V => irune_any chars _ hc HA d0 d1 V
        clear hxl hx hxg d3
        generalize (Utf8.decode s i).1 = r at *
        obtain ⟨g2, hg2⟩ : ∃ g2, i + (Utf8.decode s i).2 + g2 = s.size := ⟨s.size - (i + (Utf8.decode s i).2), by omega⟩
        generalize (Utf8.decode s i).2 = n at *
        have HV : Hid (Below w'.heap.size w' (setIter wr w'.heap.size s (i + n))) := setIter_below HB.out _ _ _ (Nat.le_refl _)
        have HS : Hid (w'.heap.size < (setIter wr w'.heap.size s (i + n)).heap.size) := by rw [setIter_size]; exact HL.out
        have HT : Hid ((setIter wr w'.heap.size s (i + n)).heap[w'.heap.size]? = some (.stringIter s (i + n))) := setIter_at _ _ _ _ HL.out
        generalize setIter wr w'.heap.size s (i + n) = V1 at *
        have hm1 : ¬ ((0 : Int) ≤ -1) := by decide
        go_wp2_with (go_at_call 101; (with_reducible refine Calls.mono (HR.out _) ?_); rintro e w2 ⟨rfl, hb2⟩; have X2 : Hid (Below V1.heap.size V1 w2) := hb2; clear hb2)
        go_roundg g2
        case measure => omega
        case rel => exact ⟨i + n, hg2, HV.out.trans (X2.out.mono HV.out.size), Nat.lt_of_lt_of_le HS.out X2.out.size, (X2.out.block _ HS.out).trans HT.out, HNO.out⟩
theorem index_all (l cs : List UInt8) (hl : l.length ≤ 1000) (hc2 : 2 ≤ cs.length) (hc : cs.length ≤ 100) (hca : ∀ b ∈ cs, b.toNat < 128) (w : World) : Calls Tryz.prog 73 #[.string (mk l), .string (mk cs)] w fun e w' => e = .returned (.int .i64 (Lib.indexAny l cs)) ∧ Below w.heap.size w w' := by
  by_cases h8 : l.length ≤ 8
  · exact index_short (mk l) (mk cs) w (by rw [mk_size]; exact hc2) (by rw [mk_size]; exact hc) (by rw [mk_size]; exact h8) hca
  · have h116 : (Tryz.prog.info? (Tryz.lays153_ren.t 116)).map (fun i => (i.zero, i.size)) = some (some (.agg (Array.replicate 256 (.bool false))), 256) := by kernel_rfl
    refine (Any.strings_IndexAny_long (P := Tryz.prog) (ρ := Tryz.lays153_ren) Tryz.lays153 (zero_of_info h116).1 (zero_of_info h116).2 (mk l) (mk cs) w (by rw [mk_size]; exact hc2) (by rw [mk_size]; omega) (by rw [mk_size]; omega) (by rw [mk_size]; omega) (fun j b h => hca b (List.mem_of_getElem? h))).mono ?_
    rintro e w' ⟨rfl, rfl⟩
    exact ⟨rfl, ((Below.refl _ _).alloc (Nat.le_refl _) _).alloc (by simp) _⟩
end Go.Proofs.YtooaafbdjnlmfaaGreatDoor
