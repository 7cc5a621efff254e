/- The document's disk: Flush, Fill. -/
import Derived.Test.YtlkhjekakbckmaaYe
namespace Go.Proofs.Ytlkhjekakbckmaa.D
open Go.RowKit Go.Maps
set_option linter.unusedVariables false
set_option linter.unusedSimpArgs false
set_option maxRecDepth 100000
set_option maxHeartbeats 2000000 in
theorem dfill_any (K : Dk) (g N L : Nat) (f : Nat → Nat) (v : Value) (w : World) (hd : DocAt w g N K) (hr : Reads .u8 w v L f) (hf : ∀ i, f i ≤ 255) (hL : L ≤ 1000000) :
    Calls Try.prog 44 #[.agg (docC K g N), v] w fun e w' => ∃ q, e = .returned (.agg (docC (fillK K L f) q N)) ∧ DocAt w' q N (fillK K L f) ∧ w.heap.size ≤ q ∧ Below w.heap.size w w' := by
  obtain ⟨av, cv, rfl⟩ := reads_form hr
  have LY : Hid (∀ V, DocAt V g N K → Reads .u8 V (.slice av L cv) L f → Calls Try.prog 83 #[.agg (docC K g N), .int .i64 0, .slice av L cv, .int .i64 (up L : Nat)] V fun e w' => ∃ q, e = .returned (.agg (docC (fillK K L f) q N)) ∧ DocAt w' q N (fillK K L f) ∧ V.heap.size ≤ q ∧ Below V.heap.size V w') := fun V h1 h2 => by
    have := dlay_any K g N 0 (up L) L f (.slice av L cv) V h1 h2 hf (by omega) (by unfold up; omega) (by omega)
    rw [show ({ K with M := layN K.M N 0 (up L) L f } : Dk) = fillK K L f from by
      unfold fillK putK
      rw [hd.2.1, Nat.zero_mul]] at this
    exact this
  have H : Hid (DocAt w g N K ∧ Reads .u8 w (.slice av L cv) L f) := ⟨hd, hr⟩
  have hu : ((L : Int) + 511) / 512 * 512 = ((up L : Nat) : Int) := by unfold up; omega
  have hu2 : up L ≤ 1000512 := by unfold up; omega
  clear hd hr
  generalize hZ : fillK K L f = Z at *
  clear hZ
  generalize up L = U at *
  go_enter Try.func44, Try.ntmps44
  go_upto_region 0 with fail
  refine wp_region_list ?_
  refine wpList_enter2 K g N _ rfl rfl rfl rfl rfl ?_
  intro W hT
  have T0 : Hid (Tw w W (docC K g N) zeroC) := hT
  clear hT
  go_upto_region 2 with fail
  refine wp_region_list ?_
  refine wpList_load28 rfl _ rfl w.heap.size K g N rfl T0.out.1 ?_
  (refine wpList_step (fun KK hKK => ?_); go_simp; refine hKK _ _ ?_; clear hKK KK)
  (refine wpList_step (fun KK hKK => ?_); go_simp; refine hKK _ _ ?_; clear hKK KK)
  refine wpList_step (fun KK hKK => ?_)
  go_simp
  refine (LY.out _ (H.out.1.step T0.out.2.2) (reads_below H.out.2 T0.out.2.2)).mono ?_
  rintro e w5 ⟨q, rfl, hd5, hq5, hb5⟩
  have T5 : Hid (Tw w w5 (docC K g N) zeroC) := T0.out.step hb5
  have D5 : Hid (DocAt w5 q N Z ∧ w.heap.size + 1 < q) := ⟨hd5, by have := T0.out.lt; omega⟩
  clear hd5 hq5 hb5 T0
  refine hKK _ _ ?_
  clear hKK KK
  refine wpList_store28 rfl _ _ rfl (w.heap.size + 1) Z q N zeroC rfl rfl T5.out.2.1 rfl ?_
  intro W9 B9 U9
  have V9 : Hid (Box 37 W9 (w.heap.size + 1) (docC Z q N) ∧ DocAt W9 q N Z ∧ Below w.heap.size w W9 ∧ w.heap.size ≤ q) := ⟨B9, D5.out.1.upon U9 (by have := D5.out.2; omega), (T5.out.res B9 U9).2.2, by have := D5.out.2; omega⟩
  clear B9 U9
  go_wp2_with fail
  exact bodyPost_ret (v := .agg (docC Z q N)) (results1 (p := 4) rfl _ _ (w.heap.size + 1) Z q N rfl V9.out.1) rfl ⟨q, rfl, V9.out.2.1, V9.out.2.2.2, V9.out.2.2.1⟩
end Go.Proofs.Ytlkhjekakbckmaa.D
