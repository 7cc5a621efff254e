/- The document's calls flag, Is, Set and Delegated of layer 9. -/
import Derived.Test.YtdljceeoofhfnaaDoorLa
import Derived.Test.YtdljceeoofhfnaaDoorTc
import Derived.Test.YtdljceeoofhfnaaDoorTe
import Derived.Test.YtdljceeoofhfnaaDoorBg
namespace Go.Proofs.YtdljceeoofhfnaaDoor
open Go.RowKit Go.Maps
set_option linter.unusedVariables false
set_option linter.unusedSimpArgs false
set_option maxRecDepth 100000
theorem dis_any (m : Int) (K : Nat → Nat) (j : Int) (hK : Ok K) (w : World) : Calls Tryd.prog 22 #[.agg (docC m K), .int .i64 j] w fun e w' => e = .returned (.bool (isB K j)) ∧ Below w.heap.size w w' := by
  have HX : Hid (Box 32 (w.alloc (.cells (docC m K) 32)) w.heap.size (docC m K) ∧ Below w.heap.size w (w.alloc (.cells (docC m K) 32))) := ⟨Box.new _ _ _, (Below.refl _ _).alloc (Nat.le_refl _) _⟩
  have HB : Hid (∀ V, Calls Tryd.prog 36 #[.agg (docC m K), .int .i64 0, .int .i64 j] V fun e w' => e = .returned (.bool (isB K j)) ∧ Below V.heap.size V w') := fun V => dbit_any m K 0 j hK (by omega) V
  generalize isB K j = y at *
  clear hK
  go_enter Tryd.func22, Tryd.ntmps22
  go_upto_region 1 with fail
  generalize w.alloc (.cells (docC m K) 32) = W at *
  refine wp_region_list ?_
  refine wpList_load_doc rfl _ rfl w.heap.size m K rfl HX.out.1 ?_
  (refine wpList_step (fun KK hKK => ?_); go_simp; refine hKK _ _ ?_; clear hKK KK)
  refine wpList_step (fun KK hKK => ?_)
  go_simp
  refine (HB.out _).mono ?_
  rintro e w1 ⟨rfl, hb1⟩
  refine hKK _ _ ?_
  clear hKK KK
  go_wp2_with fail
  go_ret
  exact ⟨rfl, HX.out.2.trans (hb1.mono HX.out.2.size)⟩
end Go.Proofs.YtdljceeoofhfnaaDoor
