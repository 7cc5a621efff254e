/- A memory that isn't watched. -/
import Derived.Test.YtcgjfklglckjcaaCg
namespace Go.Proofs.Ytcgjfklglckjcaa
open Go.RowKit Go.Maps
set_option linter.unusedVariables false
set_option linter.unusedSimpArgs false
set_option maxRecDepth 100000
/-- a memory that isn't watched, all of its blocks as they were in w0 -/
def NilI (w0 : World) (G : Nat → Prop) (rb k : Nat) (M : Nat → Nat) (F : Nat → Prop) (w : World) : Prop := F = G ∧ RamAt w G rb 8192 k (.pointer none) M ∧ ∀ z, G z → w.heap[z]? = w0.heap[z]?
theorem NilI.below {w0 : World} {G : Nat → Prop} {rb k : Nat} {M : Nat → Nat} {F : Nat → Prop} {w w' : World} (h : NilI w0 G rb k M F w) (hb : Below w.heap.size w w') : NilI w0 G rb k M F w' := ⟨h.1, h.2.1.below hb, fun z hz => (hb.block z (h.2.1.lt z hz)).trans (h.2.2 z hz)⟩
theorem nil_mem (w0 : World) (G : Nat → Prop) (rb k : Nat) (M : Nat → Nat) : Wm rb M (NilI w0 G rb k M) :=
  ⟨fun F w h => ⟨G, k, _, h.2.1⟩, fun F w h => by rw [h.1]; exact h.2.1.lt, fun F w G2 G' w' h hs hd => by
    obtain ⟨rfl, h1, h2⟩ := h
    exact ⟨rfl, h1.step hs hd, fun z hz => (hs.block z (h1.lt z hz) (hd z hz)).trans (h2 z hz)⟩⟩
theorem nil_desc (w0 : World) (G : Nat → Prop) (rb k : Nat) (M : Nat → Nat) (t n : Nat) : DescOk rb M (NilI w0 G rb k M) t n := by
  intro F w i hi h
  cases hb : deB t i with
  | false =>
    rw [deN_no hb]
    by_cases h5 : i ≤ 255
    · have hin : inB (deX t i) 16 2147483648 8192 = false := by simpa [deB, h5] using hb
      exact (desc_out h.2.1 t (deX t i) i h5 rfl hin).mono fun e w' ⟨he, hw⟩ => ⟨he, F, h.below hw, Step.of_below hw⟩
    · exact (desc_no _ t (i : Int) (.inr (by omega)) w).mono fun e w' ⟨he, hw⟩ => ⟨he, F, h.below hw, Step.of_below hw⟩
  | true =>
    have h5 : i ≤ 255 := by simp only [deB, Bool.and_eq_true, decide_eq_true_iff] at hb; exact hb.1
    have hin : inB (deX t i) 16 2147483648 8192 = true := by simp only [deB, Bool.and_eq_true, decide_eq_true_iff] at hb; exact hb.2
    exact (desc_in h.2.1 t (deX t i) i h5 rfl hin _ _ _ _ (deN_at hb)).mono fun e w' ⟨he, hw⟩ => ⟨he, F, h.below hw, Step.of_below hw⟩
/-- Walk of a memory that isn't watched -/
theorem walk_nil {rb k : Nat} {M : Nat → Nat} {F : Nat → Prop} {w : World} (h : RamAt w F rb 8192 k (.pointer none) M) (n D A Uu : Nat) (hn : n ≤ 256) (hd : Int) (al : Bool) :
    Calls Try.prog 12 #[.pointer (some ⟨rb, 0, none⟩), .agg #[.int .i64 (n : Int), .int .u64 (D : Int), .int .u64 (A : Int), .int .u64 (Uu : Int)], .int .i64 hd, .bool al] w fun e w' => ∃ v, e = .returned (.tuple #[.agg #[v, .int .u64 ((walkR M D n hd al).ta : Int), .int .u64 ((walkR M D n hd al).tl : Int)], .int .i64 ((walkR M D n hd al).e : Int)]) ∧ SegIn w.heap.size w' v (walkR M D n hd al).l ∧ Below w.heap.size w w' := by
  refine (walk_any (F := F) (nil_mem w F rb k M) h.le n D A Uu hn hd al ⟨rfl, h, fun _ _ => rfl⟩ (nil_desc w F rb k M D n) (fun r _ _ _ _ => nil_desc w F rb k M _ _)).mono ?_
  rintro e w' ⟨v, he, F', ⟨rfl, hr, hk⟩, hs, hsg, hg⟩
  refine ⟨v, he, hsg, ⟨hs.os, hs.tape, hs.output, hs.size, fun z hz => ?_⟩⟩
  by_cases hf : F' z
  · exact hk z hf
  · exact hs.block z hz hf
end Go.Proofs.Ytcgjfklglckjcaa
