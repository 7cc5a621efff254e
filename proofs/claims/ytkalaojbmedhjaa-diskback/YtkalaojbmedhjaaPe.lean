/- Package disk: Copy; the library's maps.Clone of a map of sectors. -/
import Derived.Test.YtkalaojbmedhjaaPd
import Derived.Shelf.SlMaps.Clone
import Derived.Laws.Externs
namespace Go.Proofs.Ytkalaojbmedhjaa
open Go.RowKit Go.Maps
set_option linter.unusedVariables false
set_option linter.unusedSimpArgs false
set_option maxRecDepth 100000
set_option maxHeartbeats 1000000 in
theorem clone_any {w : World} {bm c : Nat} {M : Nat → Nat} (h : MapAt w bm c M) : Calls Try.prog 28 #[.map (some bm)] w fun e w' => e = .returned (.map (some w.heap.size)) ∧ MapAt w' w.heap.size c M ∧ Below w.heap.size w w' := by
  obtain ⟨D, ⟨es, clock, hb, hF, hs, hD⟩, hp⟩ := h
  have hq := fun w => run_eql_map_nil_sl (P := Try.prog) w 58 _ _ (some bm) Try.underlying58
  have X : Hid (MapAt (w.alloc (.map es clock)) w.heap.size c M ∧ Below w.heap.size w (w.alloc (.map es clock))) := ⟨⟨D, ⟨es, clock, heap_alloc_new w _, hF, hs, hD⟩, hp⟩, (Below.refl _ _).alloc (Nat.le_refl _) _⟩
  clear hF hs hD hp
  go_enter Try.func28, Try.ntmps28
  go_wp2
  rw [run_callFunc_extern Try.func39 (by kernel_rfl) (by kernel_rfl) (by kernel_rfl) (e := Extern.MapsClone.clone) (by kernel_rfl), run_maps_clone_sl w 58 hb]
  simp only [Result.andThen]
  rw [Oper.upon_value]
  go_wp2
  rw [run_typeAssert_map_sl _ 58 20 _ _ _ Try.underlying58]
  simp only [Result.andThen]
  rw [Oper.upon_value]
  go_wp2
  go_ret
  exact ⟨rfl, X.out.1, X.out.2⟩
set_option maxHeartbeats 1000000 in
theorem copy_any {w : World} {db bm : Nat} {K : Dk} (h : DiskAt w db bm K) : Calls Try.prog 16 #[.pointer (some ⟨db, 0, none⟩)] w fun e w' => ∃ db2 bm2, e = .returned (.pointer (some ⟨db2, 0, none⟩)) ∧ DiskAt w' db2 bm2 K ∧ w.heap.size ≤ db2 ∧ w.heap.size ≤ bm2 ∧ Below w.heap.size w w' := by
  have c0 := h.c0
  have c1 := h.c1
  have c2 := h.c2
  have c3 := h.c3
  have c4 := h.c4
  have c5 := h.c5
  have H : Hid (DiskAt w db bm K) := h
  clear h
  go_enter Try.func16, Try.ntmps16
  go_upto_region 4 with fail
  have b1 : Below w.heap.size w (w.alloc (.cells (diskC K bm) 60)) := (Below.refl _ _).alloc (Nat.le_refl _) _
  have X : Hid (DiskAt (w.alloc (.cells (diskC K bm) 60)) db bm K ∧ Box 60 (w.alloc (.cells (diskC K bm) 60)) w.heap.size (diskC K bm) ∧ Below w.heap.size w (w.alloc (.cells (diskC K bm) 60))) := ⟨H.out.step b1, Box.new 60 w _, b1⟩
  clear b1 c0 c1 c2 c3 c4 c5
  rw [show (Obj.cells #[.int .u64 (K.count : Nat), .bool K.locked, .map (some bm), .int .u64 (K.reqs : Nat), .int .u64 (K.fl : Nat), .int .u64 (K.fail : Nat)] 60) = .cells (diskC K bm) 60 from rfl]
  generalize w.alloc (.cells (diskC K bm) 60) = w1 at *
  have c2 := X.out.1.c2
  go_wp2_with fail
  refine (clone_any X.out.1.2.1).mono ?_
  rintro e w2 ⟨rfl, hm, hb⟩
  have hx := X.out.2.1.step hb
  have hc2 := hx.cell 2 _ rfl
  have hf2 := hx.frozen 2
  have hsz := X.out.2.1.lt
  have hs2 := hm.lt
  have Y : Hid (MapAt w2 w1.heap.size K.count K.M ∧ Box 60 w2 w.heap.size (diskC K bm) ∧ Below w1.heap.size w1 w2) := ⟨hm, hx, hb⟩
  clear hm hx hb
  generalize w1.heap.size = b2 at *
  go_wp2
  go_ret
  have hu : Upon w.heap.size w2 (w2.setCell ⟨w.heap.size, 2, none⟩ (.map (some b2))) := (Upon.refl _ _).set 2 _
  refine ⟨w.heap.size, b2, rfl, ⟨Y.out.2.1.set 2 _, Y.out.1.kept (hu.2 _ Y.out.1.lt (by omega)), H.out.2.2⟩, Nat.le_refl _, by omega, ?_⟩
  exact (X.out.2.2.trans (Y.out.2.2.mono (by omega))).trans (hu.below (Nat.le_refl _) (by omega))
end Go.Proofs.Ytkalaojbmedhjaa
