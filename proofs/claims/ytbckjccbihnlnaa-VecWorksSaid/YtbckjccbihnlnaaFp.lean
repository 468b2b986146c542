import Derived.Test.YtbckjccbihnlnaaFe
import Derived.IntWalk
namespace Go.Proofs.Ytbckjccbihnlnaa
open Go.RowKit
set_option linter.unusedVariables false
set_option linter.unusedSimpArgs false

theorem wrap_id (x : Int) (h0 : -9223372036854775808 ≤ x) (h1 : x ≤ 9223372036854775807) : IntKind.i64.wrap x = x := IntWalk.i64_in _ (by omega)
set_option maxHeartbeats 1600000 in
theorem product_core (n1 d1 n2 d2 g h p1 p2 q1 q2 : Int)
    (a1 : -1000000000000000000 ≤ n1) (a2 : n1 ≤ 1000000000000000000) (a3 : 1 ≤ d1) (a4 : d1 ≤ 1000000000000000000)
    (c1 : -1000000000000000000 ≤ n2) (c2 : n2 ≤ 1000000000000000000) (c3 : 1 ≤ d2) (c4 : d2 ≤ 1000000000000000000)
    (g0 : 0 < g) (g1 : g ≤ 1000000000000000000) (h0 : 0 < h) (h1 : h ≤ 1000000000000000000)
    (eg : gcdI (absI n1) d2 = g) (eh : gcdI (absI n2) d1 = h)
    (e1 : n1.tdiv g = p1) (e2 : n2.tdiv h = p2) (e3 : d1.tdiv h = q1) (e4 : d2.tdiv g = q2)
    (b1 : -1000000000000000000 ≤ p1) (b2 : p1 ≤ 1000000000000000000) (b3 : -1000000000000000000 ≤ p2) (b4 : p2 ≤ 1000000000000000000)
    (b5 : 0 ≤ q1) (b6 : q1 ≤ 1000000000000000000) (b7 : 0 ≤ q2) (b8 : q2 ≤ 1000000000000000000) (w : World) :
    Calls Try.prog 64 #[.agg #[.int .i64 n1, .int .i64 d1], .agg #[.int .i64 n2, .int .i64 d2]] w fun e w' =>
      e = .returned (.tuple #[.agg #[.int .i64 (bdN (sgB p1 p2) (absI p1 * absI p2) (absI q1 * absI q2)), .int .i64 (bdD (sgB q1 q2) (absI p1 * absI p2) (absI q1 * absI q2))], .int .i64 (bdE (absI p1 * absI p2) (absI q1 * absI q2))]) ∧ Below w.heap.size w w' := by
  have A1 := fun w => frac_size n1 (by omega) (by omega) w
  have A2 := fun w => frac_size n2 (by omega) (by omega) w
  have z1 := absI_bd n1 (by omega) (by omega)
  have z2 := absI_bd n2 (by omega) (by omega)
  have A3 := fun w => frac_gcd (absI n1) d2 (by omega) (by omega) (by omega) (by omega) w
  have A4 := fun w => frac_gcd (absI n2) d1 (by omega) (by omega) (by omega) (by omega) w
  have t1 := mul_bd _ _ 1000000000000000000 1000000000000000000 (absI_nn p1) (absI_le p1 b1 b2) (absI_nn p2) (absI_le p2 b3 b4)
  have t2 := mul_bd _ _ 1000000000000000000 1000000000000000000 (absI_nn q1) (absI_le q1 (by omega) b6) (absI_nn q2) (absI_le q2 (by omega) b8)
  have G := Lib.hid eg; have H := Lib.hid eh
  have k1 : (g == 0) = false := by simp; omega
  have k2 : (h == 0) = false := by simp; omega
  have k3 : ¬ g = 0 := by omega
  have k4 : ¬ h = 0 := by omega
  have w1 : IntKind.i64.wrap p1 = p1 := wrap_id p1 (by omega) (by omega)
  have w2 : IntKind.i64.wrap p2 = p2 := wrap_id p2 (by omega) (by omega)
  have w3 : IntKind.i64.wrap q1 = q1 := wrap_id q1 (by omega) (by omega)
  have w4 : IntKind.i64.wrap q2 = q2 := wrap_id q2 (by omega) (by omega)
  have dAl := dAl; have dSt := dSt; have xC := ext_cell; have xF := ext_frozen; have xS := ext_set; have xN := ext_drewN; have xD := ext_drew; have xL := ext_lt; have xE := ext_ne; have xG := ext_nr; have xX := ext_ext; have xL1 := ext_lt1; have xL2 := ext_lt2; have xL3 := ext_lt3; have xM0 := ext_le0; have xM1 := ext_le1; have xM2 := ext_le2
  go_enter Try.func64, Try.ntmps64
  go_wp2
  go_quiet ((first | (go_at_call 56; exact Calls.quiet_of_same (A1 _)) | (go_at_call 57; exact Calls.quiet_of (A3 _))))
  go_wp2
  go_quiet ((first | (go_at_call 56; exact qSame (A2 _)) | (go_at_call 57; exact qAdd (A4 _))))
  clear A1 A2 A3 A4
  go_wp2
  go_region_held3 (fun w' => w'.cell? ⟨w.heap.size, 0, none⟩ = some (.int .i64 n1) ∧ w'.cell? ⟨w.heap.size, 1, none⟩ = some (.int .i64 d1) ∧ w'.cell? ⟨w.heap.size + 1, 0, none⟩ = some (.int .i64 n2) ∧ w'.cell? ⟨w.heap.size + 1, 1, none⟩ = some (.int .i64 d2)) (simp (maxDischargeDepth := 8) [go_sem, World.cell?_alloc_past, ltk2, ltk3, ltk4, ltk5, ltk6, ltk7, ltk8, ltk9, *])
        ((first
          | (go_at_call 79; refine (frac_times _ _ (by omega) (by omega) (by omega) (by omega) _).mono ?_; rintro e w' ⟨rfl, c3, rfl⟩)
          | (go_at_call 58; refine (frac_build _ _ _ _ (by omega) (by omega) (by omega) (by omega) _).mono ?_; rintro e w' ⟨rfl, hb⟩; obtain ⟨l, d, rfl⟩ := toExt hb; clear hb)))
  go_wp2
  refine bodyPost_ret (by simp [results, Try.results64, go_sem, ext_ext, ext_cell]; try rfl) rfl ?_
  exact ⟨rfl, by (repeat (first | with_reducible exact b0 _ | (with_reducible refine bext ?_ _ _) | (with_reducible refine below_drewN ?_ _) | (with_reducible refine Below.drew ?_) | (with_reducible refine bal ?_ _)))⟩
end Go.Proofs.Ytbckjccbihnlnaa
