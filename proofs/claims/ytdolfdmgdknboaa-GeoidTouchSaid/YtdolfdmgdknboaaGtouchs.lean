/-
  GeoidTouch: a place is in its own horizon, each other place is below it, and so is a point inside of the globe: for every globe, two places and a point of numbers of 64 bits.
-/
import Derived.Test.YtdolfdmgdknboaaRows
import Derived.WalkKit
import Derived.ProofKit
import Derived.OpenShut
import Derived.Lib.SmallJoins
import Derived.Test.YtdolfdmgdknboaaGT
import Derived.Carry
import Derived.Test.YtdolfdmgdknboaaFrow
import Derived.Test.YtdolfdmgdknboaaVrow
namespace Go.Proofs.Ytdolfdmgdknboaa.geoidTouch
open Go.ChangeShapes Go.WideShapes Go.ChangeAt Go.RowKit Go.Joins
set_option linter.unusedVariables false
set_option linter.unusedSimpArgs false

theorem own : ownKnob Try.prog.godebug = none := by kernel_rfl
def wf2 (a b : Int) : Prop := (Lit.int .i64 a).wf = true ∧ (Lit.int .i64 b).wf = true
theorem cellsGl : Try.prog.cellsOf 52 = 2 := by kernel_rfl
theorem walk (s0 t0 s1 t1 s2 t2 s3 t3 s4 t4 a5 b5 c5 d5 e5 f5 : Int) (h0 : wf2 s0 t0) (h1 : wf2 s1 t1) (h2 : wf2 s2 t2) (h3 : wf2 s3 t3) (h4 : wf2 s4 t4) (h5x : wf2 a5 b5) (h5y : wf2 c5 d5) (h5z : wf2 e5 f5) (w : World) :
    Calls Try.prog 7 #[.agg #[.int .i64 s0, .int .i64 t0], .agg #[.int .i64 s1, .int .i64 t1], .agg #[.int .i64 s2, .int .i64 t2], .agg #[.int .i64 s3, .int .i64 t3], .agg #[.int .i64 s4, .int .i64 t4], .agg #[.int .i64 a5, .int .i64 b5, .int .i64 c5, .int .i64 d5, .int .i64 e5, .int .i64 f5]] w fun x w' => x = .returned (.bool true) ∧ Below w.heap.size w w' :=
  touch_all (fg6 a5 b5 c5 d5 e5 f5) s0 t0 s1 t1 s2 t2 s3 t3 s4 t4 ⟨wf_okC h5x, wf_okC h5y, wf_okC h5z⟩ (wf_okC h1) (wf_okC h2) (wf_okC h3) (wf_okC h4) w

set_option maxRecDepth 100000 in
theorem lifted (os : Os) (started : os.Started) (H : Type) (enc : TypeId × Value → H) :
    ReturnsInHanded {} Try.checked os 7 .any (Rows.geoidTouchSpec.pre6 enc Try.prog Try.f7 Rows.geoidTouchRow.domain false) (Rows.geoidTouchSpec.post enc Try.prog Try.f7 false true false false) := by
  refine returnsInHanded_of_change (C := Try.checked) own started (by kernel_rfl) Try.func7
    (ChangeSpec.witness6 (enc := enc) (C := Try.checked) false ⟨#[], #[.agg #[.int .i64 1, .int .i64 1], .agg #[.int .i64 0, .int .i64 1], .agg #[.int .i64 0, .int .i64 1], .agg #[.int .i64 0, .int .i64 1], .agg #[.int .i64 0, .int .i64 1], .agg #[.int .i64 0, .int .i64 1, .int .i64 0, .int .i64 1, .int .i64 0, .int .i64 1]], []⟩ 8 (by kernel_rfl) (by kernel_rfl) (by kernel_rfl) (by kernel_rfl)) ?_
  intro W base args ds gs before hval0 hW hcnd _
  have hval : ∀ (j : Nat) t v, Try.f7.params[j]? = some t → args[j]? = some v → Value.okWide Try.prog W .any base t v := hval0
  have hW' := hW
  obtain ⟨p, q, hA0, hV, rfl, hfz, hnd⟩ := hW
  have hA : DataW.TrodAll enc Try.prog W 0 (fun _ => true) true Try.f7.params.toList args.toList ds p := hA0
  rw [Try.params7] at hA hval
  obtain ⟨v0, vs0, e0, ds0, p0, q0, hargs, rfl, rfl, h0, r0⟩ := trodAll_cons hA
  obtain ⟨v1, vs1, e1, ds1, p1, q1, rfl, rfl, rfl, h1, r1⟩ := trodAll_cons r0
  obtain ⟨v2, vs2, e2, ds2, p2, q2, rfl, rfl, rfl, h2, r2⟩ := trodAll_cons r1
  obtain ⟨v3, vs3, e3, ds3, p3, q3, rfl, rfl, rfl, h3, r3⟩ := trodAll_cons r2
  obtain ⟨v4, vs4, e4, ds4, p4, q4, rfl, rfl, rfl, h4, r4⟩ := trodAll_cons r3
  obtain ⟨v5, vs5, e5, ds5, p5, q5, rfl, rfl, rfl, h5, r5⟩ := trodAll_cons r4
  obtain ⟨rfl, rfl, rfl⟩ := trodAll_nil r5
  obtain rfl : args = #[v0, v1, v2, v3, v4, v5] := by cases args; simp_all
  obtain ⟨rfl, rfl⟩ := trodVars_none hV
  obtain ⟨k0a, k0b, y0a, y0b, m0, rfl, rfl, rfl, hy0a, hy0b⟩ := open_agg2 Try.underlying52 (by kernel_rfl) cellsGl (hval 0 52 v0 rfl rfl) h0
  obtain ⟨s0, u0a, rfl, ws0⟩ := DataW.trod_int Try.underlying3 hy0a
  obtain ⟨t0, u0b, rfl, wt0⟩ := DataW.trod_int Try.underlying3 hy0b
  simp at u0a u0b
  subst u0a u0b
  obtain ⟨k1a, k1b, y1a, y1b, m1, rfl, rfl, rfl, hy1a, hy1b⟩ := open_agg2 Try.underlying23 (by kernel_rfl) cellsFr (hval 1 23 v1 rfl rfl) h1
  obtain ⟨s1, u1a, rfl, ws1⟩ := DataW.trod_int Try.underlying2 hy1a
  obtain ⟨t1, u1b, rfl, wt1⟩ := DataW.trod_int Try.underlying2 hy1b
  simp at u1a u1b
  subst u1a u1b
  obtain ⟨k2a, k2b, y2a, y2b, m2, rfl, rfl, rfl, hy2a, hy2b⟩ := open_agg2 Try.underlying23 (by kernel_rfl) cellsFr (hval 2 23 v2 rfl rfl) h2
  obtain ⟨s2, u2a, rfl, ws2⟩ := DataW.trod_int Try.underlying2 hy2a
  obtain ⟨t2, u2b, rfl, wt2⟩ := DataW.trod_int Try.underlying2 hy2b
  simp at u2a u2b
  subst u2a u2b
  obtain ⟨k3a, k3b, y3a, y3b, m3, rfl, rfl, rfl, hy3a, hy3b⟩ := open_agg2 Try.underlying23 (by kernel_rfl) cellsFr (hval 3 23 v3 rfl rfl) h3
  obtain ⟨s3, u3a, rfl, ws3⟩ := DataW.trod_int Try.underlying2 hy3a
  obtain ⟨t3, u3b, rfl, wt3⟩ := DataW.trod_int Try.underlying2 hy3b
  simp at u3a u3b
  subst u3a u3b
  obtain ⟨k4a, k4b, y4a, y4b, m4, rfl, rfl, rfl, hy4a, hy4b⟩ := open_agg2 Try.underlying23 (by kernel_rfl) cellsFr (hval 4 23 v4 rfl rfl) h4
  obtain ⟨s4, u4a, rfl, ws4⟩ := DataW.trod_int Try.underlying2 hy4a
  obtain ⟨t4, u4b, rfl, wt4⟩ := DataW.trod_int Try.underlying2 hy4b
  simp at u4a u4b
  subst u4a u4b
  obtain ⟨a5, b5, c5, d5, e5, f5, rfl, rfl, rfl, wx5, wy5, wz5⟩ := vec_opened (hval 5 28 v5 rfl rfl) h5
  clear hA0 hval0
  have globeReads : ∀ (W' : World) (sp : Nat → Bool) (a b : Int) (wa : (Lit.int .i64 a).wf = true) (wb : (Lit.int .i64 b).wf = true), DataW.Trod enc Try.prog W' 0 sp true 52 (.agg #[.int .i64 a, .int .i64 b]) (.agg [.lit (.int .i64 a), .lit (.int .i64 b)]) [] := fun W' sp a b wa wb =>
    shut_agg2 (y0 := (.lit (.int .i64 a), [])) (y1 := (.lit (.int .i64 b), [])) Try.underlying52 (by kernel_rfl) cellsGl ⟨1, by simp [DataW.trod, Try.underlying3, wa]⟩ ⟨1, by simp [DataW.trod, Try.underlying3, wb]⟩
  simp only [List.append_nil] at hW'
  have structReads : ∀ (W' : World) (sp : Nat → Bool) (a b : Int) (wa : (Lit.int .i64 a).wf = true) (wb : (Lit.int .i64 b).wf = true), DataW.Trod enc Try.prog W' 0 sp true 23 (.agg #[.int .i64 a, .int .i64 b]) (.agg [.lit (.int .i64 a), .lit (.int .i64 b)]) [] := fun W' sp a b wa wb =>
    shut_agg2 (y0 := (.lit (.int .i64 a), [])) (y1 := (.lit (.int .i64 b), [])) Try.underlying23 (by kernel_rfl) cellsFr ⟨1, by simp [DataW.trod, Try.underlying2, wa]⟩ ⟨1, by simp [DataW.trod, Try.underlying2, wb]⟩
  refine (walk s0 t0 s1 t1 s2 t2 s3 t3 s4 t4 a5 b5 c5 d5 e5 f5 ⟨ws0, wt0⟩ ⟨ws1, wt1⟩ ⟨ws2, wt2⟩ ⟨ws3, wt3⟩ ⟨ws4, wt4⟩ wx5 wy5 wz5 W).mono fun e W' ⟨he, hg⟩ => ?_
  subst he
  exact ⟨_, rfl, post_plain hW' (fun _ _ _ => (trodAll_cons_mk (shut_bool Try.underlying4 _) trodAll_mk0))
    (fun sp => trodAll_cons_mk (globeReads _ sp _ _ ws0 wt0) (trodAll_cons_mk (structReads _ sp _ _ ws1 wt1) (trodAll_cons_mk (structReads _ sp _ _ ws2 wt2) (trodAll_cons_mk (structReads _ sp _ _ ws3 wt3) (trodAll_cons_mk (structReads _ sp _ _ ws4 wt4) (trodAll_cons_mk (vec_shut _ _ _ _ _ _ wx5 wy5 wz5) trodAll_mk0)))))) (fun _ => rfl)
    hg (ok_one (by kernel_rfl) rfl (okWide_bool_mk Try.underlying4 _))⟩

theorem over : Rows.geoidTouchRow.holds Try.pinned (OpenSpec.ofChange Rows.geoidTouchSpec) :=
  OpenClaim.holds_of_wide 7 Try.f7 rfl rfl rfl rfl rfl rfl rfl ⟨rfl, rfl, rfl, rfl, rfl⟩ rfl rfl rfl rfl rfl (by kernel_rfl) Try.func7 (by kernel_rfl)
    (of_decide_eq_true (by kernel_rfl)) (by unfold Func.isWrapper; first | (rw [if_pos (by decide +kernel)]; kernel_rfl) | (rw [if_neg (by decide +kernel)]; exact ⟨rfl, rfl⟩))
    (fun os started H enc _ => lifted os started H enc)

theorem proved : Rows.GeoidTouchSaid :=
  over
end Go.Proofs.Ytdolfdmgdknboaa.geoidTouch
