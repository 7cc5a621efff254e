/- The document's call Right of layer 3: may an instruction be? -/
import Derived.Test.YtooaafbdjnlmfaaGreatDoorQDocRowsW
import Derived.Deep.DeepCutAuto
import Derived.Deep.CutBlock
import Derived.Deep.QuietTactic
import Derived.BigQuiet
namespace Go.Proofs.YtooaafbdjnlmfaaGreatDoor
open Go.RowKit
set_option linter.unusedVariables false
set_option linter.unusedSimpArgs false
/-- an instruction's box lies in the world, and all old blocks are as they were -/
def BoxIn (w w' : World) (c : Array Value) : Prop := Below w.heap.size w w' ∧ w'.heap[w.heap.size]? = some (.cells c 23 (0, 0))
theorem BoxIn.new (w : World) (c : Array Value) : BoxIn w (w.alloc (.cells c 23)) c := ⟨(Below.refl _ _).alloc (Nat.le_refl _) _, heap_alloc_new w (.cells c 23)⟩
theorem BoxIn.step {w w1 w2 : World} {c : Array Value} (h : BoxIn w w1 c) (hb : Below w1.heap.size w1 w2) : BoxIn w w2 c := ⟨h.1.trans (hb.mono h.1.size), below_box h.2 hb⟩
theorem BoxIn.alloc {w w1 : World} {c : Array Value} (h : BoxIn w w1 c) (o : Obj) : BoxIn w (w1.alloc o) c := h.step ((Below.refl _ _).alloc (Nat.le_refl _) o)
theorem BoxIn.drew {w w1 : World} {c : Array Value} (h : BoxIn w w1 c) : BoxIn w w1.drew c := h.step ((Below.refl _ _).drew)
theorem field72 (s : ByteArray) (a b c d : Int) (w : World) : (Instr.field 72 (.agg #[.string s, .int .i64 a, .int .i64 b, .int .i64 c, .int .i64 d]) 1).run Tryz.prog w = .ok (.int .i64 a) w ∧ (Instr.field 72 (.agg #[.string s, .int .i64 a, .int .i64 b, .int .i64 c, .int .i64 d]) 0).run Tryz.prog w = .ok (.string s) w := by
  constructor <;> (simp [Instr.field, run_underlying Tryz.underlying72]; kernel_rfl)
theorem drd_b (f : Int) (b : Bool) (h : hasD f = b) (w : World) : Calls Tryz.prog 68 #[.int .i64 f] w fun e w' => e = .returned (.bool b) ∧ Below w.heap.size w w' := by subst h; exact drd_any f w
theorem drs1_b (f : Int) (b : Bool) (h : hasA f = b) (w : World) : Calls Tryz.prog 69 #[.int .i64 f] w fun e w' => e = .returned (.bool b) ∧ Below w.heap.size w w' := by subst h; exact drs1_any f w
theorem drs2_b (f : Int) (b : Bool) (h : hasB f = b) (w : World) : Calls Tryz.prog 70 #[.int .i64 f] w fun e w' => e = .returned (.bool b) ∧ Below w.heap.size w w' := by subst h; exact drs2_any f w
theorem docstep_of (g : Nat) : (docSpan g).1.2.2 = 1 ∨ (docSpan g).1.2.2 = 2 ∨ (docSpan g).1.2.2 = 4096 := by
  unfold docSpan
  repeat' split
  all_goals simp
theorem in2 (f a b : Int) (n : Nat) (w : World) (hn : w.heap.size = n) (r : Bool) (hr : ([a, b] : List Int).contains f = r) :
    Calls Tryz.prog 46 #[.int .i64 f, .slice (some ⟨n, 0, none⟩) 2 2] (w.alloc (.cells #[.int .i64 a, .int .i64 b] 3)) fun e w' => e = .returned (.bool r) ∧ w' = w.alloc (.cells #[.int .i64 a, .int .i64 b] 3) := by
  subst hn hr
  exact in_new f [a, b] 2 rfl (by decide) 3 w
theorem in2b (f a b : Int) (n : Nat) (w : World) (hn : w.heap.size = n) (r : Bool) (hr : ([a, b] : List Int).contains f = r) :
    Calls Tryz.prog 46 #[.int .i64 f, .slice (some ⟨n, 0, none⟩) 2 2] (w.alloc (.cells #[.int .i64 a, .int .i64 b] 3)) fun e w' => e = .returned (.bool r) ∧ Below w.heap.size w w' := by
  refine (in2 f a b n w hn r hr).mono ?_
  rintro e w' ⟨rfl, rfl⟩
  exact ⟨rfl, (Below.refl _ _).alloc (Nat.le_refl _) _⟩
set_option maxRecDepth 100000 in
set_option maxHeartbeats 400000 in
theorem dright_none (op rd rs1 rs2 imm csr : Int) (aq rl : Bool) (h : ¬ (1 ≤ op ∧ op ≤ 98)) (w : World) :
    Calls Tryz.prog 30 #[.agg (instrC op rd rs1 rs2 imm csr aq rl)] w fun e w' => e = .returned (.bool false) ∧ Below w.heap.size w w' := by
  have K : Hid _ := known_no op h
  clear h
  go_enter Tryz.func30, Tryz.ntmps30
  go_wp2_with (first | (go_at_call 67; refine (K.out _).mono ?_; rintro e w' ⟨rfl, hw⟩; rw [hw]; clear hw))
  go_ret
  exact ⟨rfl, (Below.refl _ _).alloc (Nat.le_refl _) _⟩
set_option maxRecDepth 100000 in
set_option maxHeartbeats 4000000 in
theorem dright_raw (op rd rs1 rs2 imm csr : Int) (g : Nat) (aq rl : Bool) (s : ByteArray) (cc f3 f7 : Int) (h1 : 1 ≤ op) (h2 : op ≤ 98) (hg : g < 17) (w : World) (hO : ∀ w, Calls Tryz.prog 45 #[.int .i64 op] w fun e w' => e = .returned (.agg #[.string s, .int .i64 (g : Nat), .int .i64 cc, .int .i64 f3, .int .i64 f7]) ∧ Below w.heap.size w w')
    (r : Bool) (hr : (dR1 rd rs1 rs2 csr && (dR2 (g : Nat) rd rs1 rs2 && (dR3 (g : Nat) csr aq rl && dR4 g imm))) = r) :
    Calls Tryz.prog 30 #[.agg (instrC op rd rs1 rs2 imm csr aq rl)] w fun e w' => e = .returned (.bool r) ∧ Below w.heap.size w w' := by
  have K : Hid _ := known_yes op h1 h2
  have HO : Hid _ := hO
  have HR : Hid _ := hr
  have HI : Hid _ := dimm_any g hg
  have HS : Hid _ := docstep_of g
  have H4 : Hid (dR4 g imm = decide ((docSpan g).1.1 ≤ imm ∧ imm ≤ (docSpan g).1.2.1 ∧ imm % (docSpan g).1.2.2 = 0)) := (rfl : dR4 g imm = _)
  have S0 : Hid (BoxIn w (w.alloc (.cells (instrC op rd rs1 rs2 imm csr aq rl) 23)) (instrC op rd rs1 rs2 imm csr aq rl)) := BoxIn.new w (instrC op rd rs1 rs2 imm csr aq rl)
  clear h1 h2 hO hr hg
  generalize (docSpan g).1.1 = lo at *
  generalize (docSpan g).1.2.1 = hi at *
  generalize (docSpan g).1.2.2 = st at *
  generalize (docSpan g).2 = ok at *
  generalize dR4 g imm = r4 at *
  generalize ((g : Nat) : Int) = g at *
  go_enter Tryz.func30, Tryz.ntmps30
  go_upto_region 4 with (first | (go_at_call 67; refine (K.out _).mono ?_; rintro e w' ⟨rfl, hw⟩; rw [hw]; clear hw) | (go_at_call 45; refine (HO.out _).mono ?_; rintro e w1 ⟨rfl, hb1⟩; have hfl := (field72 s g cc f3 f7 w1).1; have S1 : Hid (BoxIn w w1 (instrC op rd rs1 rs2 imm csr aq rl)) := S0.out.step hb1; obtain ⟨q0, q1, q2, q3, q4, q5, q6, q7⟩ := box8_facts S1.out.2; clear hb1))
  go_cut [53] (fun c wx => c = .bool (!dR1 rd rs1 rs2 csr) ∧ BoxIn w wx (instrC op rd rs1 rs2 imm csr aq rl))
  case first =>
    by_cases a0 : rd < 0
    · go_wp2
      go_meet
      exact ⟨congrArg Value.bool (by rw [show dR1 rd rs1 rs2 csr = false from decide_eq_false (by omega)]; rfl), S1.out⟩
    by_cases a1 : 31 < rd
    · go_wp2
      go_meet
      exact ⟨congrArg Value.bool (by rw [show dR1 rd rs1 rs2 csr = false from decide_eq_false (by omega)]; rfl), S1.out⟩
    by_cases a2 : rs1 < 0
    · go_wp2
      go_meet
      exact ⟨congrArg Value.bool (by rw [show dR1 rd rs1 rs2 csr = false from decide_eq_false (by omega)]; rfl), S1.out⟩
    by_cases a3 : 31 < rs1
    · go_wp2
      go_meet
      exact ⟨congrArg Value.bool (by rw [show dR1 rd rs1 rs2 csr = false from decide_eq_false (by omega)]; rfl), S1.out⟩
    by_cases a4 : rs2 < 0
    · go_wp2
      go_meet
      exact ⟨congrArg Value.bool (by rw [show dR1 rd rs1 rs2 csr = false from decide_eq_false (by omega)]; rfl), S1.out⟩
    by_cases a5 : 31 < rs2
    · go_wp2
      go_meet
      exact ⟨congrArg Value.bool (by rw [show dR1 rd rs1 rs2 csr = false from decide_eq_false (by omega)]; rfl), S1.out⟩
    by_cases a6 : csr < 0
    · go_wp2
      go_meet
      exact ⟨congrArg Value.bool (by rw [show dR1 rd rs1 rs2 csr = false from decide_eq_false (by omega)]; rfl), S1.out⟩
    by_cases a7 : 4095 < csr
    · go_wp2
      go_meet
      exact ⟨congrArg Value.bool (by rw [show dR1 rd rs1 rs2 csr = false from decide_eq_false (by omega)]; rfl), S1.out⟩
    go_wp2
    go_meet
    exact ⟨congrArg Value.bool (by rw [show dR1 rd rs1 rs2 csr = true from decide_eq_true (by omega)]; rfl), S1.out⟩
  case rest =>
  obtain ⟨rfl, hS⟩ := hcut
  have S2 : Hid (BoxIn w wc (instrC op rd rs1 rs2 imm csr aq rl)) := hS
  clear hS S1 S0 hfl q0 q1 q2 q3 q4 q5 q6 q7
  obtain ⟨q0, q1, q2, q3, q4, q5, q6, q7⟩ := box8_facts S2.out.2
  cases hd1 : dR1 rd rs1 rs2 csr
  · have HR2 : Hid (false = r) := (by rw [← HR.out, hd1]; rfl : false = r)
    clear HR hd1
    go_wp2
    go_ret
    exact ⟨by rw [← HR2.out]; first | rfl | simp, S2.out.1⟩
  have HR2 : Hid ((dR2 g rd rs1 rs2 && (dR3 g csr aq rl && r4)) = r) := (by rw [← HR.out, hd1]; rfl : (dR2 g rd rs1 rs2 && (dR3 g csr aq rl && r4)) = r)
  clear HR hd1
  go_upto_region 6 with fail
  go_cut [81] (fun c wx => c = .bool (!dR2 g rd rs1 rs2) ∧ BoxIn w wx (instrC op rd rs1 rs2 imm csr aq rl))
  case first =>
    cases hD : hasD g
    · have HD : Hid (hasD g = false) := hD
      clear hD
      by_cases zD : rd = 0
      · have bD : (rd != 0) = false := by simp [zD]
        have ZD : Hid (rd = 0) := zD
        clear zD
        cases hA : hasA g
        · have HA : Hid (hasA g = false) := hA
          clear hA
          by_cases zA : rs1 = 0
          · have bA : (rs1 != 0) = false := by simp [zA]
            have ZA : Hid (rs1 = 0) := zA
            clear zA
            cases hB : hasB g
            · have HB : Hid (hasB g = false) := hB
              clear hB
              by_cases zB : rs2 = 0
              · have bB : (rs2 != 0) = false := by simp [zB]
                have ZB : Hid (rs2 = 0) := zB
                clear zB
                go_wp2_with (first | (go_at_call 68; refine (drd_b _ _ HD.out _).mono ?_; rintro e w31 ⟨rfl, hb⟩; have S31 : Hid (BoxIn w w31 (instrC op rd rs1 rs2 imm csr aq rl)) := BoxIn.step (by exact S2.out) hb; obtain ⟨q0, q1, q2, q3, q4, q5, q6, q7⟩ := box8_facts S31.out.2; clear hb) | (go_at_call 69; refine (drs1_b _ _ HA.out _).mono ?_; rintro e w32 ⟨rfl, hb⟩; have S32 : Hid (BoxIn w w32 (instrC op rd rs1 rs2 imm csr aq rl)) := BoxIn.step (by exact S31.out) hb; obtain ⟨q0, q1, q2, q3, q4, q5, q6, q7⟩ := box8_facts S32.out.2; clear hb) | (go_at_call 70; refine (drs2_b _ _ HB.out _).mono ?_; rintro e w33 ⟨rfl, hb⟩; have S33 : Hid (BoxIn w w33 (instrC op rd rs1 rs2 imm csr aq rl)) := BoxIn.step (by exact S32.out) hb; obtain ⟨q0, q1, q2, q3, q4, q5, q6, q7⟩ := box8_facts S33.out.2; clear hb))
                go_meet
                exact ⟨congrArg Value.bool (by unfold dR2; rw [HD.out, decide_eq_true ZD.out, HA.out, decide_eq_true ZA.out, HB.out, decide_eq_true ZB.out]; first | rfl | simp), S33.out⟩
              · have bB : (rs2 != 0) = true := by simp [zB]
                have ZB : Hid (¬ rs2 = 0) := zB
                clear zB
                go_wp2_with (first | (go_at_call 68; refine (drd_b _ _ HD.out _).mono ?_; rintro e w31 ⟨rfl, hb⟩; have S31 : Hid (BoxIn w w31 (instrC op rd rs1 rs2 imm csr aq rl)) := BoxIn.step (by exact S2.out) hb; obtain ⟨q0, q1, q2, q3, q4, q5, q6, q7⟩ := box8_facts S31.out.2; clear hb) | (go_at_call 69; refine (drs1_b _ _ HA.out _).mono ?_; rintro e w32 ⟨rfl, hb⟩; have S32 : Hid (BoxIn w w32 (instrC op rd rs1 rs2 imm csr aq rl)) := BoxIn.step (by exact S31.out) hb; obtain ⟨q0, q1, q2, q3, q4, q5, q6, q7⟩ := box8_facts S32.out.2; clear hb) | (go_at_call 70; refine (drs2_b _ _ HB.out _).mono ?_; rintro e w33 ⟨rfl, hb⟩; have S33 : Hid (BoxIn w w33 (instrC op rd rs1 rs2 imm csr aq rl)) := BoxIn.step (by exact S32.out) hb; obtain ⟨q0, q1, q2, q3, q4, q5, q6, q7⟩ := box8_facts S33.out.2; clear hb))
                go_meet
                exact ⟨congrArg Value.bool (by unfold dR2; rw [HD.out, decide_eq_true ZD.out, HA.out, decide_eq_true ZA.out, HB.out, decide_eq_false ZB.out]; first | rfl | simp), S33.out⟩
            · have HB : Hid (hasB g = true) := hB
              clear hB
              go_wp2_with (first | (go_at_call 68; refine (drd_b _ _ HD.out _).mono ?_; rintro e w31 ⟨rfl, hb⟩; have S31 : Hid (BoxIn w w31 (instrC op rd rs1 rs2 imm csr aq rl)) := BoxIn.step (by exact S2.out) hb; obtain ⟨q0, q1, q2, q3, q4, q5, q6, q7⟩ := box8_facts S31.out.2; clear hb) | (go_at_call 69; refine (drs1_b _ _ HA.out _).mono ?_; rintro e w32 ⟨rfl, hb⟩; have S32 : Hid (BoxIn w w32 (instrC op rd rs1 rs2 imm csr aq rl)) := BoxIn.step (by exact S31.out) hb; obtain ⟨q0, q1, q2, q3, q4, q5, q6, q7⟩ := box8_facts S32.out.2; clear hb) | (go_at_call 70; refine (drs2_b _ _ HB.out _).mono ?_; rintro e w33 ⟨rfl, hb⟩; have S33 : Hid (BoxIn w w33 (instrC op rd rs1 rs2 imm csr aq rl)) := BoxIn.step (by exact S32.out) hb; obtain ⟨q0, q1, q2, q3, q4, q5, q6, q7⟩ := box8_facts S33.out.2; clear hb))
              go_meet
              exact ⟨congrArg Value.bool (by unfold dR2; rw [HD.out, decide_eq_true ZD.out, HA.out, decide_eq_true ZA.out, HB.out]; first | rfl | simp), S33.out⟩
          · have bA : (rs1 != 0) = true := by simp [zA]
            have ZA : Hid (¬ rs1 = 0) := zA
            clear zA
            go_wp2_with (first | (go_at_call 68; refine (drd_b _ _ HD.out _).mono ?_; rintro e w31 ⟨rfl, hb⟩; have S31 : Hid (BoxIn w w31 (instrC op rd rs1 rs2 imm csr aq rl)) := BoxIn.step (by exact S2.out) hb; obtain ⟨q0, q1, q2, q3, q4, q5, q6, q7⟩ := box8_facts S31.out.2; clear hb) | (go_at_call 69; refine (drs1_b _ _ HA.out _).mono ?_; rintro e w32 ⟨rfl, hb⟩; have S32 : Hid (BoxIn w w32 (instrC op rd rs1 rs2 imm csr aq rl)) := BoxIn.step (by exact S31.out) hb; obtain ⟨q0, q1, q2, q3, q4, q5, q6, q7⟩ := box8_facts S32.out.2; clear hb))
            go_meet
            exact ⟨congrArg Value.bool (by unfold dR2; rw [HD.out, decide_eq_true ZD.out, HA.out, decide_eq_false ZA.out]; first | rfl | simp), S32.out⟩
        · have HA : Hid (hasA g = true) := hA
          clear hA
          cases hB : hasB g
          · have HB : Hid (hasB g = false) := hB
            clear hB
            by_cases zB : rs2 = 0
            · have bB : (rs2 != 0) = false := by simp [zB]
              have ZB : Hid (rs2 = 0) := zB
              clear zB
              go_wp2_with (first | (go_at_call 68; refine (drd_b _ _ HD.out _).mono ?_; rintro e w31 ⟨rfl, hb⟩; have S31 : Hid (BoxIn w w31 (instrC op rd rs1 rs2 imm csr aq rl)) := BoxIn.step (by exact S2.out) hb; obtain ⟨q0, q1, q2, q3, q4, q5, q6, q7⟩ := box8_facts S31.out.2; clear hb) | (go_at_call 69; refine (drs1_b _ _ HA.out _).mono ?_; rintro e w32 ⟨rfl, hb⟩; have S32 : Hid (BoxIn w w32 (instrC op rd rs1 rs2 imm csr aq rl)) := BoxIn.step (by exact S31.out) hb; obtain ⟨q0, q1, q2, q3, q4, q5, q6, q7⟩ := box8_facts S32.out.2; clear hb) | (go_at_call 70; refine (drs2_b _ _ HB.out _).mono ?_; rintro e w33 ⟨rfl, hb⟩; have S33 : Hid (BoxIn w w33 (instrC op rd rs1 rs2 imm csr aq rl)) := BoxIn.step (by exact S32.out) hb; obtain ⟨q0, q1, q2, q3, q4, q5, q6, q7⟩ := box8_facts S33.out.2; clear hb))
              go_meet
              exact ⟨congrArg Value.bool (by unfold dR2; rw [HD.out, decide_eq_true ZD.out, HA.out, HB.out, decide_eq_true ZB.out]; first | rfl | simp), S33.out⟩
            · have bB : (rs2 != 0) = true := by simp [zB]
              have ZB : Hid (¬ rs2 = 0) := zB
              clear zB
              go_wp2_with (first | (go_at_call 68; refine (drd_b _ _ HD.out _).mono ?_; rintro e w31 ⟨rfl, hb⟩; have S31 : Hid (BoxIn w w31 (instrC op rd rs1 rs2 imm csr aq rl)) := BoxIn.step (by exact S2.out) hb; obtain ⟨q0, q1, q2, q3, q4, q5, q6, q7⟩ := box8_facts S31.out.2; clear hb) | (go_at_call 69; refine (drs1_b _ _ HA.out _).mono ?_; rintro e w32 ⟨rfl, hb⟩; have S32 : Hid (BoxIn w w32 (instrC op rd rs1 rs2 imm csr aq rl)) := BoxIn.step (by exact S31.out) hb; obtain ⟨q0, q1, q2, q3, q4, q5, q6, q7⟩ := box8_facts S32.out.2; clear hb) | (go_at_call 70; refine (drs2_b _ _ HB.out _).mono ?_; rintro e w33 ⟨rfl, hb⟩; have S33 : Hid (BoxIn w w33 (instrC op rd rs1 rs2 imm csr aq rl)) := BoxIn.step (by exact S32.out) hb; obtain ⟨q0, q1, q2, q3, q4, q5, q6, q7⟩ := box8_facts S33.out.2; clear hb))
              go_meet
              exact ⟨congrArg Value.bool (by unfold dR2; rw [HD.out, decide_eq_true ZD.out, HA.out, HB.out, decide_eq_false ZB.out]; first | rfl | simp), S33.out⟩
          · have HB : Hid (hasB g = true) := hB
            clear hB
            go_wp2_with (first | (go_at_call 68; refine (drd_b _ _ HD.out _).mono ?_; rintro e w31 ⟨rfl, hb⟩; have S31 : Hid (BoxIn w w31 (instrC op rd rs1 rs2 imm csr aq rl)) := BoxIn.step (by exact S2.out) hb; obtain ⟨q0, q1, q2, q3, q4, q5, q6, q7⟩ := box8_facts S31.out.2; clear hb) | (go_at_call 69; refine (drs1_b _ _ HA.out _).mono ?_; rintro e w32 ⟨rfl, hb⟩; have S32 : Hid (BoxIn w w32 (instrC op rd rs1 rs2 imm csr aq rl)) := BoxIn.step (by exact S31.out) hb; obtain ⟨q0, q1, q2, q3, q4, q5, q6, q7⟩ := box8_facts S32.out.2; clear hb) | (go_at_call 70; refine (drs2_b _ _ HB.out _).mono ?_; rintro e w33 ⟨rfl, hb⟩; have S33 : Hid (BoxIn w w33 (instrC op rd rs1 rs2 imm csr aq rl)) := BoxIn.step (by exact S32.out) hb; obtain ⟨q0, q1, q2, q3, q4, q5, q6, q7⟩ := box8_facts S33.out.2; clear hb))
            go_meet
            exact ⟨congrArg Value.bool (by unfold dR2; rw [HD.out, decide_eq_true ZD.out, HA.out, HB.out]; first | rfl | simp), S33.out⟩
      · have bD : (rd != 0) = true := by simp [zD]
        have ZD : Hid (¬ rd = 0) := zD
        clear zD
        go_wp2_with (first | (go_at_call 68; refine (drd_b _ _ HD.out _).mono ?_; rintro e w31 ⟨rfl, hb⟩; have S31 : Hid (BoxIn w w31 (instrC op rd rs1 rs2 imm csr aq rl)) := BoxIn.step (by exact S2.out) hb; obtain ⟨q0, q1, q2, q3, q4, q5, q6, q7⟩ := box8_facts S31.out.2; clear hb))
        go_meet
        exact ⟨congrArg Value.bool (by unfold dR2; rw [HD.out, decide_eq_false ZD.out]; first | rfl | simp), S31.out⟩
    · have HD : Hid (hasD g = true) := hD
      clear hD
      cases hA : hasA g
      · have HA : Hid (hasA g = false) := hA
        clear hA
        by_cases zA : rs1 = 0
        · have bA : (rs1 != 0) = false := by simp [zA]
          have ZA : Hid (rs1 = 0) := zA
          clear zA
          cases hB : hasB g
          · have HB : Hid (hasB g = false) := hB
            clear hB
            by_cases zB : rs2 = 0
            · have bB : (rs2 != 0) = false := by simp [zB]
              have ZB : Hid (rs2 = 0) := zB
              clear zB
              go_wp2_with (first | (go_at_call 68; refine (drd_b _ _ HD.out _).mono ?_; rintro e w31 ⟨rfl, hb⟩; have S31 : Hid (BoxIn w w31 (instrC op rd rs1 rs2 imm csr aq rl)) := BoxIn.step (by exact S2.out) hb; obtain ⟨q0, q1, q2, q3, q4, q5, q6, q7⟩ := box8_facts S31.out.2; clear hb) | (go_at_call 69; refine (drs1_b _ _ HA.out _).mono ?_; rintro e w32 ⟨rfl, hb⟩; have S32 : Hid (BoxIn w w32 (instrC op rd rs1 rs2 imm csr aq rl)) := BoxIn.step (by exact S31.out) hb; obtain ⟨q0, q1, q2, q3, q4, q5, q6, q7⟩ := box8_facts S32.out.2; clear hb) | (go_at_call 70; refine (drs2_b _ _ HB.out _).mono ?_; rintro e w33 ⟨rfl, hb⟩; have S33 : Hid (BoxIn w w33 (instrC op rd rs1 rs2 imm csr aq rl)) := BoxIn.step (by exact S32.out) hb; obtain ⟨q0, q1, q2, q3, q4, q5, q6, q7⟩ := box8_facts S33.out.2; clear hb))
              go_meet
              exact ⟨congrArg Value.bool (by unfold dR2; rw [HD.out, HA.out, decide_eq_true ZA.out, HB.out, decide_eq_true ZB.out]; first | rfl | simp), S33.out⟩
            · have bB : (rs2 != 0) = true := by simp [zB]
              have ZB : Hid (¬ rs2 = 0) := zB
              clear zB
              go_wp2_with (first | (go_at_call 68; refine (drd_b _ _ HD.out _).mono ?_; rintro e w31 ⟨rfl, hb⟩; have S31 : Hid (BoxIn w w31 (instrC op rd rs1 rs2 imm csr aq rl)) := BoxIn.step (by exact S2.out) hb; obtain ⟨q0, q1, q2, q3, q4, q5, q6, q7⟩ := box8_facts S31.out.2; clear hb) | (go_at_call 69; refine (drs1_b _ _ HA.out _).mono ?_; rintro e w32 ⟨rfl, hb⟩; have S32 : Hid (BoxIn w w32 (instrC op rd rs1 rs2 imm csr aq rl)) := BoxIn.step (by exact S31.out) hb; obtain ⟨q0, q1, q2, q3, q4, q5, q6, q7⟩ := box8_facts S32.out.2; clear hb) | (go_at_call 70; refine (drs2_b _ _ HB.out _).mono ?_; rintro e w33 ⟨rfl, hb⟩; have S33 : Hid (BoxIn w w33 (instrC op rd rs1 rs2 imm csr aq rl)) := BoxIn.step (by exact S32.out) hb; obtain ⟨q0, q1, q2, q3, q4, q5, q6, q7⟩ := box8_facts S33.out.2; clear hb))
              go_meet
              exact ⟨congrArg Value.bool (by unfold dR2; rw [HD.out, HA.out, decide_eq_true ZA.out, HB.out, decide_eq_false ZB.out]; first | rfl | simp), S33.out⟩
          · have HB : Hid (hasB g = true) := hB
            clear hB
            go_wp2_with (first | (go_at_call 68; refine (drd_b _ _ HD.out _).mono ?_; rintro e w31 ⟨rfl, hb⟩; have S31 : Hid (BoxIn w w31 (instrC op rd rs1 rs2 imm csr aq rl)) := BoxIn.step (by exact S2.out) hb; obtain ⟨q0, q1, q2, q3, q4, q5, q6, q7⟩ := box8_facts S31.out.2; clear hb) | (go_at_call 69; refine (drs1_b _ _ HA.out _).mono ?_; rintro e w32 ⟨rfl, hb⟩; have S32 : Hid (BoxIn w w32 (instrC op rd rs1 rs2 imm csr aq rl)) := BoxIn.step (by exact S31.out) hb; obtain ⟨q0, q1, q2, q3, q4, q5, q6, q7⟩ := box8_facts S32.out.2; clear hb) | (go_at_call 70; refine (drs2_b _ _ HB.out _).mono ?_; rintro e w33 ⟨rfl, hb⟩; have S33 : Hid (BoxIn w w33 (instrC op rd rs1 rs2 imm csr aq rl)) := BoxIn.step (by exact S32.out) hb; obtain ⟨q0, q1, q2, q3, q4, q5, q6, q7⟩ := box8_facts S33.out.2; clear hb))
            go_meet
            exact ⟨congrArg Value.bool (by unfold dR2; rw [HD.out, HA.out, decide_eq_true ZA.out, HB.out]; first | rfl | simp), S33.out⟩
        · have bA : (rs1 != 0) = true := by simp [zA]
          have ZA : Hid (¬ rs1 = 0) := zA
          clear zA
          go_wp2_with (first | (go_at_call 68; refine (drd_b _ _ HD.out _).mono ?_; rintro e w31 ⟨rfl, hb⟩; have S31 : Hid (BoxIn w w31 (instrC op rd rs1 rs2 imm csr aq rl)) := BoxIn.step (by exact S2.out) hb; obtain ⟨q0, q1, q2, q3, q4, q5, q6, q7⟩ := box8_facts S31.out.2; clear hb) | (go_at_call 69; refine (drs1_b _ _ HA.out _).mono ?_; rintro e w32 ⟨rfl, hb⟩; have S32 : Hid (BoxIn w w32 (instrC op rd rs1 rs2 imm csr aq rl)) := BoxIn.step (by exact S31.out) hb; obtain ⟨q0, q1, q2, q3, q4, q5, q6, q7⟩ := box8_facts S32.out.2; clear hb))
          go_meet
          exact ⟨congrArg Value.bool (by unfold dR2; rw [HD.out, HA.out, decide_eq_false ZA.out]; first | rfl | simp), S32.out⟩
      · have HA : Hid (hasA g = true) := hA
        clear hA
        cases hB : hasB g
        · have HB : Hid (hasB g = false) := hB
          clear hB
          by_cases zB : rs2 = 0
          · have bB : (rs2 != 0) = false := by simp [zB]
            have ZB : Hid (rs2 = 0) := zB
            clear zB
            go_wp2_with (first | (go_at_call 68; refine (drd_b _ _ HD.out _).mono ?_; rintro e w31 ⟨rfl, hb⟩; have S31 : Hid (BoxIn w w31 (instrC op rd rs1 rs2 imm csr aq rl)) := BoxIn.step (by exact S2.out) hb; obtain ⟨q0, q1, q2, q3, q4, q5, q6, q7⟩ := box8_facts S31.out.2; clear hb) | (go_at_call 69; refine (drs1_b _ _ HA.out _).mono ?_; rintro e w32 ⟨rfl, hb⟩; have S32 : Hid (BoxIn w w32 (instrC op rd rs1 rs2 imm csr aq rl)) := BoxIn.step (by exact S31.out) hb; obtain ⟨q0, q1, q2, q3, q4, q5, q6, q7⟩ := box8_facts S32.out.2; clear hb) | (go_at_call 70; refine (drs2_b _ _ HB.out _).mono ?_; rintro e w33 ⟨rfl, hb⟩; have S33 : Hid (BoxIn w w33 (instrC op rd rs1 rs2 imm csr aq rl)) := BoxIn.step (by exact S32.out) hb; obtain ⟨q0, q1, q2, q3, q4, q5, q6, q7⟩ := box8_facts S33.out.2; clear hb))
            go_meet
            exact ⟨congrArg Value.bool (by unfold dR2; rw [HD.out, HA.out, HB.out, decide_eq_true ZB.out]; first | rfl | simp), S33.out⟩
          · have bB : (rs2 != 0) = true := by simp [zB]
            have ZB : Hid (¬ rs2 = 0) := zB
            clear zB
            go_wp2_with (first | (go_at_call 68; refine (drd_b _ _ HD.out _).mono ?_; rintro e w31 ⟨rfl, hb⟩; have S31 : Hid (BoxIn w w31 (instrC op rd rs1 rs2 imm csr aq rl)) := BoxIn.step (by exact S2.out) hb; obtain ⟨q0, q1, q2, q3, q4, q5, q6, q7⟩ := box8_facts S31.out.2; clear hb) | (go_at_call 69; refine (drs1_b _ _ HA.out _).mono ?_; rintro e w32 ⟨rfl, hb⟩; have S32 : Hid (BoxIn w w32 (instrC op rd rs1 rs2 imm csr aq rl)) := BoxIn.step (by exact S31.out) hb; obtain ⟨q0, q1, q2, q3, q4, q5, q6, q7⟩ := box8_facts S32.out.2; clear hb) | (go_at_call 70; refine (drs2_b _ _ HB.out _).mono ?_; rintro e w33 ⟨rfl, hb⟩; have S33 : Hid (BoxIn w w33 (instrC op rd rs1 rs2 imm csr aq rl)) := BoxIn.step (by exact S32.out) hb; obtain ⟨q0, q1, q2, q3, q4, q5, q6, q7⟩ := box8_facts S33.out.2; clear hb))
            go_meet
            exact ⟨congrArg Value.bool (by unfold dR2; rw [HD.out, HA.out, HB.out, decide_eq_false ZB.out]; first | rfl | simp), S33.out⟩
        · have HB : Hid (hasB g = true) := hB
          clear hB
          go_wp2_with (first | (go_at_call 68; refine (drd_b _ _ HD.out _).mono ?_; rintro e w31 ⟨rfl, hb⟩; have S31 : Hid (BoxIn w w31 (instrC op rd rs1 rs2 imm csr aq rl)) := BoxIn.step (by exact S2.out) hb; obtain ⟨q0, q1, q2, q3, q4, q5, q6, q7⟩ := box8_facts S31.out.2; clear hb) | (go_at_call 69; refine (drs1_b _ _ HA.out _).mono ?_; rintro e w32 ⟨rfl, hb⟩; have S32 : Hid (BoxIn w w32 (instrC op rd rs1 rs2 imm csr aq rl)) := BoxIn.step (by exact S31.out) hb; obtain ⟨q0, q1, q2, q3, q4, q5, q6, q7⟩ := box8_facts S32.out.2; clear hb) | (go_at_call 70; refine (drs2_b _ _ HB.out _).mono ?_; rintro e w33 ⟨rfl, hb⟩; have S33 : Hid (BoxIn w w33 (instrC op rd rs1 rs2 imm csr aq rl)) := BoxIn.step (by exact S32.out) hb; obtain ⟨q0, q1, q2, q3, q4, q5, q6, q7⟩ := box8_facts S33.out.2; clear hb))
          go_meet
          exact ⟨congrArg Value.bool (by unfold dR2; rw [HD.out, HA.out, HB.out]; first | rfl | simp), S33.out⟩
  case rest =>
  obtain ⟨rfl, hS⟩ := hcut
  have S4 : Hid (BoxIn w wc (instrC op rd rs1 rs2 imm csr aq rl)) := hS
  clear hS S2 q0 q1 q2 q3 q4 q5 q6 q7
  obtain ⟨q0, q1, q2, q3, q4, q5, q6, q7⟩ := box8_facts S4.out.2
  cases hd2 : dR2 g rd rs1 rs2
  · have HR3 : Hid (false = r) := (by rw [← HR2.out, hd2]; rfl : false = r)
    clear HR2 hd2
    go_wp2
    go_ret
    exact ⟨by rw [← HR3.out]; first | rfl | simp, S4.out.1⟩
  have HR3 : Hid ((dR3 g csr aq rl && r4) = r) := (by rw [← HR2.out, hd2]; rfl : (dR3 g csr aq rl && r4) = r)
  clear HR2 hd2
  go_upto_region 8 with fail
  go_cut [104] (fun c wx => c = .bool (!dR3 g csr aq rl) ∧ BoxIn w wx (instrC op rd rs1 rs2 imm csr aq rl))
  case first =>
    cases hC : hasC g
    · have HC : Hid (hasC g = false) := hC
      clear hC
      by_cases zC : csr = 0
      · have bC : (csr != 0) = false := by simp [zC]
        have ZC : Hid (csr = 0) := zC
        clear zC
        cases hO2 : hasO g
        · have HO2 : Hid (hasO g = false) := hO2
          clear hO2
          cases aq
          · cases rl
            · skip
              go_wp2_with fail
              refine (in2b g 12 13 _ _ (by simp) _ HC.out).mono ?_
              rintro e w51 ⟨rfl, hb⟩
              have S51 : Hid (BoxIn w w51 _) := BoxIn.step S4.out hb
              obtain ⟨q0, q1, q2, q3, q4, q5, q6, q7⟩ := box8_facts S51.out.2
              clear hb
              go_wp2_with fail
              refine (in2b g 14 15 _ _ (by simp) _ HO2.out).mono ?_
              rintro e w52 ⟨rfl, hb⟩
              have S52 : Hid (BoxIn w w52 _) := BoxIn.step S51.out hb
              obtain ⟨q0, q1, q2, q3, q4, q5, q6, q7⟩ := box8_facts S52.out.2
              clear hb
              go_wp2
              go_meet
              exact ⟨congrArg Value.bool (by unfold dR3; rw [HC.out, decide_eq_true ZC.out, HO2.out]; first | rfl | simp), S52.out⟩
            · skip
              go_wp2_with fail
              refine (in2b g 12 13 _ _ (by simp) _ HC.out).mono ?_
              rintro e w51 ⟨rfl, hb⟩
              have S51 : Hid (BoxIn w w51 _) := BoxIn.step S4.out hb
              obtain ⟨q0, q1, q2, q3, q4, q5, q6, q7⟩ := box8_facts S51.out.2
              clear hb
              go_wp2_with fail
              refine (in2b g 14 15 _ _ (by simp) _ HO2.out).mono ?_
              rintro e w52 ⟨rfl, hb⟩
              have S52 : Hid (BoxIn w w52 _) := BoxIn.step S51.out hb
              obtain ⟨q0, q1, q2, q3, q4, q5, q6, q7⟩ := box8_facts S52.out.2
              clear hb
              go_wp2
              go_meet
              exact ⟨congrArg Value.bool (by unfold dR3; rw [HC.out, decide_eq_true ZC.out, HO2.out]; first | rfl | simp), S52.out⟩
          · skip
            go_wp2_with fail
            refine (in2b g 12 13 _ _ (by simp) _ HC.out).mono ?_
            rintro e w51 ⟨rfl, hb⟩
            have S51 : Hid (BoxIn w w51 _) := BoxIn.step S4.out hb
            obtain ⟨q0, q1, q2, q3, q4, q5, q6, q7⟩ := box8_facts S51.out.2
            clear hb
            go_wp2_with fail
            refine (in2b g 14 15 _ _ (by simp) _ HO2.out).mono ?_
            rintro e w52 ⟨rfl, hb⟩
            have S52 : Hid (BoxIn w w52 _) := BoxIn.step S51.out hb
            obtain ⟨q0, q1, q2, q3, q4, q5, q6, q7⟩ := box8_facts S52.out.2
            clear hb
            go_wp2
            go_meet
            exact ⟨congrArg Value.bool (by unfold dR3; rw [HC.out, decide_eq_true ZC.out, HO2.out]; first | rfl | simp), S52.out⟩
        · have HO2 : Hid (hasO g = true) := hO2
          clear hO2
          go_wp2_with fail
          refine (in2b g 12 13 _ _ (by simp) _ HC.out).mono ?_
          rintro e w51 ⟨rfl, hb⟩
          have S51 : Hid (BoxIn w w51 _) := BoxIn.step S4.out hb
          obtain ⟨q0, q1, q2, q3, q4, q5, q6, q7⟩ := box8_facts S51.out.2
          clear hb
          go_wp2_with fail
          refine (in2b g 14 15 _ _ (by simp) _ HO2.out).mono ?_
          rintro e w52 ⟨rfl, hb⟩
          have S52 : Hid (BoxIn w w52 _) := BoxIn.step S51.out hb
          obtain ⟨q0, q1, q2, q3, q4, q5, q6, q7⟩ := box8_facts S52.out.2
          clear hb
          go_wp2
          go_meet
          exact ⟨congrArg Value.bool (by unfold dR3; rw [HC.out, decide_eq_true ZC.out, HO2.out]; first | rfl | simp), S52.out⟩
      · have bC : (csr != 0) = true := by simp [zC]
        have ZC : Hid (¬ csr = 0) := zC
        clear zC
        go_wp2_with fail
        refine (in2b g 12 13 _ _ (by simp) _ HC.out).mono ?_
        rintro e w51 ⟨rfl, hb⟩
        have S51 : Hid (BoxIn w w51 _) := BoxIn.step S4.out hb
        obtain ⟨q0, q1, q2, q3, q4, q5, q6, q7⟩ := box8_facts S51.out.2
        clear hb
        go_wp2
        go_meet
        exact ⟨congrArg Value.bool (by unfold dR3; rw [HC.out, decide_eq_false ZC.out]; first | rfl | simp), S51.out⟩
    · have HC : Hid (hasC g = true) := hC
      clear hC
      cases hO2 : hasO g
      · have HO2 : Hid (hasO g = false) := hO2
        clear hO2
        cases aq
        · cases rl
          · skip
            go_wp2_with fail
            refine (in2b g 12 13 _ _ (by simp) _ HC.out).mono ?_
            rintro e w51 ⟨rfl, hb⟩
            have S51 : Hid (BoxIn w w51 _) := BoxIn.step S4.out hb
            obtain ⟨q0, q1, q2, q3, q4, q5, q6, q7⟩ := box8_facts S51.out.2
            clear hb
            go_wp2_with fail
            refine (in2b g 14 15 _ _ (by simp) _ HO2.out).mono ?_
            rintro e w52 ⟨rfl, hb⟩
            have S52 : Hid (BoxIn w w52 _) := BoxIn.step S51.out hb
            obtain ⟨q0, q1, q2, q3, q4, q5, q6, q7⟩ := box8_facts S52.out.2
            clear hb
            go_wp2
            go_meet
            exact ⟨congrArg Value.bool (by unfold dR3; rw [HC.out, HO2.out]; first | rfl | simp), S52.out⟩
          · skip
            go_wp2_with fail
            refine (in2b g 12 13 _ _ (by simp) _ HC.out).mono ?_
            rintro e w51 ⟨rfl, hb⟩
            have S51 : Hid (BoxIn w w51 _) := BoxIn.step S4.out hb
            obtain ⟨q0, q1, q2, q3, q4, q5, q6, q7⟩ := box8_facts S51.out.2
            clear hb
            go_wp2_with fail
            refine (in2b g 14 15 _ _ (by simp) _ HO2.out).mono ?_
            rintro e w52 ⟨rfl, hb⟩
            have S52 : Hid (BoxIn w w52 _) := BoxIn.step S51.out hb
            obtain ⟨q0, q1, q2, q3, q4, q5, q6, q7⟩ := box8_facts S52.out.2
            clear hb
            go_wp2
            go_meet
            exact ⟨congrArg Value.bool (by unfold dR3; rw [HC.out, HO2.out]; first | rfl | simp), S52.out⟩
        · skip
          go_wp2_with fail
          refine (in2b g 12 13 _ _ (by simp) _ HC.out).mono ?_
          rintro e w51 ⟨rfl, hb⟩
          have S51 : Hid (BoxIn w w51 _) := BoxIn.step S4.out hb
          obtain ⟨q0, q1, q2, q3, q4, q5, q6, q7⟩ := box8_facts S51.out.2
          clear hb
          go_wp2_with fail
          refine (in2b g 14 15 _ _ (by simp) _ HO2.out).mono ?_
          rintro e w52 ⟨rfl, hb⟩
          have S52 : Hid (BoxIn w w52 _) := BoxIn.step S51.out hb
          obtain ⟨q0, q1, q2, q3, q4, q5, q6, q7⟩ := box8_facts S52.out.2
          clear hb
          go_wp2
          go_meet
          exact ⟨congrArg Value.bool (by unfold dR3; rw [HC.out, HO2.out]; first | rfl | simp), S52.out⟩
      · have HO2 : Hid (hasO g = true) := hO2
        clear hO2
        go_wp2_with fail
        refine (in2b g 12 13 _ _ (by simp) _ HC.out).mono ?_
        rintro e w51 ⟨rfl, hb⟩
        have S51 : Hid (BoxIn w w51 _) := BoxIn.step S4.out hb
        obtain ⟨q0, q1, q2, q3, q4, q5, q6, q7⟩ := box8_facts S51.out.2
        clear hb
        go_wp2_with fail
        refine (in2b g 14 15 _ _ (by simp) _ HO2.out).mono ?_
        rintro e w52 ⟨rfl, hb⟩
        have S52 : Hid (BoxIn w w52 _) := BoxIn.step S51.out hb
        obtain ⟨q0, q1, q2, q3, q4, q5, q6, q7⟩ := box8_facts S52.out.2
        clear hb
        go_wp2
        go_meet
        exact ⟨congrArg Value.bool (by unfold dR3; rw [HC.out, HO2.out]; first | rfl | simp), S52.out⟩
  case rest =>
  obtain ⟨rfl, hS⟩ := hcut
  have S6 : Hid (BoxIn w wc (instrC op rd rs1 rs2 imm csr aq rl)) := hS
  clear hS S4 q0 q1 q2 q3 q4 q5 q6 q7
  obtain ⟨q0, q1, q2, q3, q4, q5, q6, q7⟩ := box8_facts S6.out.2
  cases hd3 : dR3 g csr aq rl
  · have HR4 : Hid (false = r) := (by rw [← HR3.out, hd3]; rfl : false = r)
    clear HR3 hd3
    go_wp2
    go_ret
    exact ⟨by rw [← HR4.out]; first | rfl | simp, S6.out.1⟩
  have HR4 : Hid (r4 = r) := (by rw [← HR3.out, hd3]; rfl : r4 = r)
  clear HR3 hd3
  have HR5 : Hid (decide (lo ≤ imm ∧ imm ≤ hi ∧ imm % st = 0) = r) := (by rw [← HR4.out, H4.out] : decide (lo ≤ imm ∧ imm ≤ hi ∧ imm % st = 0) = r)
  clear HR4 H4
  by_cases b1 : lo ≤ imm
  · by_cases b2 : imm ≤ hi
    · rcases HS.out with rfl | rfl | rfl <;>
      (go_wp2_with (first | (go_at_call 47; refine (HI.out _).mono ?_; rintro e w' ⟨rfl, hw⟩; rw [hw]; clear hw))
       go_ret
       exact ⟨by rw [← HR5.out]; simp [b1, b2, tmod_beq], S6.out.1⟩)
    · have HR6 : Hid (false = r) := (by rw [← HR5.out, decide_eq_false (by omega)] : false = r)
      go_wp2_with (first | (go_at_call 47; refine (HI.out _).mono ?_; rintro e w' ⟨rfl, hw⟩; rw [hw]; clear hw))
      go_ret
      exact ⟨by rw [← HR6.out]; first | rfl | simp, S6.out.1⟩
  · have HR6 : Hid (false = r) := (by rw [← HR5.out, decide_eq_false (by omega)] : false = r)
    go_wp2_with (first | (go_at_call 47; refine (HI.out _).mono ?_; rintro e w' ⟨rfl, hw⟩; rw [hw]; clear hw))
    go_ret
    exact ⟨by rw [← HR6.out]; first | rfl | simp, S6.out.1⟩
end Go.Proofs.YtooaafbdjnlmfaaGreatDoor
