/-
  The matrix that changes nothing.  The comparison of matrices.
-/
import Derived.Test.YtdolfdmgdknboaaKu
import Derived.Test.YtdolfdmgdknboaaMA
import Derived.DeepKeys
namespace Go.Proofs.Ytdolfdmgdknboaa
open Go.RowKit
set_option linter.unusedVariables false
set_option linter.unusedSimpArgs false

/-- Its numbers. -/
def unP : Nat → Int := fun o => if o % 2 = 1 then 1 else if o / 6 = o % 6 / 2 then 1 else 0
def unN (i k : Nat) : Nat → Int := fun o => if o / 6 < i then unP o else if o / 6 = i ∧ o % 6 / 2 < k then (o % 2 : Nat) else 0

set_option maxRecDepth 100000 in
set_option maxHeartbeats 3200000 in
theorem vec_unit (w : World) (W0 : ∀ w : World, Calls Try.prog 67 #[.int .i64 0] w fun x w' => x = .returned (.agg #[.int .i64 0, .int .i64 1]) ∧ Below w.heap.size w w') (W1 : ∀ w : World, Calls Try.prog 67 #[.int .i64 1] w fun x w' => x = .returned (.agg #[.int .i64 1, .int .i64 1]) ∧ Below w.heap.size w w') :
    Calls Try.prog 60 #[] w fun x w' => x = .returned (.agg #[.int .i64 (unP 0), .int .i64 (unP 1), .int .i64 (unP 2), .int .i64 (unP 3), .int .i64 (unP 4), .int .i64 (unP 5), .int .i64 (unP 6), .int .i64 (unP 7), .int .i64 (unP 8), .int .i64 (unP 9), .int .i64 (unP 10), .int .i64 (unP 11), .int .i64 (unP 12), .int .i64 (unP 13), .int .i64 (unP 14), .int .i64 (unP 15), .int .i64 (unP 16), .int .i64 (unP 17)]) ∧ Below w.heap.size w w' := by
  have xR := xRul
  have dz1 := dzA
  have dz2 := dzB
  go_enter Try.func60, Try.ntmps60
  go_upto_region 2 with fail
  refine opq (fun wx => Cs wx (w.heap.size + 1) 18 (unN 0 0) ∧ Fs wx (w.heap.size + 1) 18 ∧ Cs wx w.heap.size 18 (fun _ => 0) ∧ Fs wx w.heap.size 18 ∧ w.heap.size + 1 < wx.heap.size ∧ Below w.heap.size w wx) ?_ ?_
  · exact ⟨cs_eq (cs_new (by simp) arr0) (by apply cases18 <;> rfl), fs_new (by simp), cs_alloc _ (cs_new rfl arr0) (by simp), fs_alloc _ (fs_new rfl) (by simp), by simp, kb⟩
  rintro wa ⟨cN, fN, cR, fR, zs, HBa⟩
  go_wp2_with fail
  go_loopg [4] 3 (fun kk s9 wr => ∃ (i : Nat) (z : Int), kk = 3 - i ∧ s9 = .int .i64 z ∧ z = i ∧ i ≤ 3 ∧ Cs wr (w.heap.size + 1) 18 (unN i 0) ∧ Fs wr (w.heap.size + 1) 18 ∧ Below (w.heap.size + 1) wa wr ∧ wa.heap.size ≤ wr.heap.size)
  case atStart => exact ⟨0, 0, rfl, rfl, rfl, by omega, cN, fN, Below.refl _ _, Nat.le_refl _⟩
  clear cN fN
  obtain ⟨i, z, rfl, rfl, hz, hi, cI, fI, hbI, hzI⟩ := hrel
  rcases (show i = 3 ∨ i = 0 ∨ i = 1 ∨ i = 2 by omega) with rfl | rfl | rfl | rfl
  · obtain rfl : z = 3 := hz
    have cF : Cs wr (w.heap.size + 1) 18 unP := cs_eq cI (by apply cases18 <;> rfl)
    replace cR := cs_below cR hbI (by omega)
    replace fR := fs_below fR hbI (by omega)
    replace HBa := HBa.trans (hbI.mono (by omega))
    clear cI fI hbI
    go_upto_region 12 with fail
    go_step
    refine load18 (.tmp 1) _ unP cF rfl rfl rfl ?_
    clear cF
    refine store18 (.tmp 0) (.tmp 22) w.heap.size unP (fun _ => 0) cR fR rfl rfl rfl rfl ?_
    intro wx cX fX sX bX
    have HBx := bX w.heap.size w (by omega) HBa
    clear cR fR HBa bX fX sX
    go_wp2
    refine bodyPost_ret (res_mat Try.results60 rfl cX) rfl ?_
    exact ⟨rfl, HBx⟩
  · obtain rfl : z = 0 := hz
    go_wp2_with fail
    go_loopg [7] 3 (fun kk s14 wv => ∃ (k : Nat) (y : Int), kk = 3 - k ∧ s14 = .int .i64 y ∧ y = k ∧ k ≤ 3 ∧ Cs wv (w.heap.size + 1) 18 (unN 0 k) ∧ Fs wv (w.heap.size + 1) 18 ∧ Below (w.heap.size + 1) wa wv ∧ wa.heap.size ≤ wv.heap.size)
    case atStart => exact ⟨0, 0, rfl, rfl, rfl, by omega, kc, kf, kg, by (first | omega | (simp [ext_size, World.setCell] <;> omega))⟩
    clear cI fI hbI hzI
    obtain ⟨k, y, rfl, rfl, hy, hk, cI, fI, hbI, hzI⟩ := hrel
    have c0 : ∀ o, o < 18 → wr.cell? ⟨(w.heap.size + 1), o, none⟩ = some (.int .i64 (unN 0 k o)) := cI
    have f0 : ∀ o, o < 18 → wr.frozen? ⟨(w.heap.size + 1), o, none⟩ = false := fI
    have zv : (w.heap.size + 1) < wr.heap.size := by omega
    rcases (show k = 3 ∨ k = 0 ∨ k = 1 ∨ k = 2 by omega) with rfl | rfl | rfl | rfl
    · obtain rfl : y = 3 := hy
      go_wp2_with fail
      go_region_held3 (fun _ => True) (trivial) ((go_at_call 67; with_reducible refine (W1 _).mono ?_; rintro e w' ⟨rfl, hb⟩; obtain ⟨l9, d9, rfl⟩ := toExt hb; clear hb))
      all_goals go_wp2
      all_goals go_roundg (3 - (0 + 1))
      all_goals first
        | omega
        | exact ⟨0 + 1, 0 + 1, rfl, rfl, rfl, by omega, cs_eq (N := up (up (unN 0 3) 0 1) (0 + 1) 1) (kc) (by apply cases18 <;> rfl), kf, kg, by (first | omega | (simp [ext_size, World.setCell] <;> omega))⟩
    · obtain rfl : y = 0 := hy
      go_wp2_with fail
      go_region_held3 (fun _ => True) (trivial) ((go_at_call 67; with_reducible refine (W0 _).mono ?_; rintro e w' ⟨rfl, hb⟩; obtain ⟨l9, d9, rfl⟩ := toExt hb; clear hb))
      all_goals go_wp2
      all_goals go_roundg (3 - (0 + 1))
      all_goals first
        | omega
        | exact ⟨0 + 1, 0 + 1, rfl, rfl, rfl, by omega, cs_eq (N := up (up (unN 0 0) 0 0) (0 + 1) 1) (kc) (by apply cases18 <;> rfl), kf, kg, by (first | omega | (simp [ext_size, World.setCell] <;> omega))⟩
    · obtain rfl : y = 1 := hy
      go_wp2_with fail
      go_region_held3 (fun _ => True) (trivial) ((go_at_call 67; with_reducible refine (W0 _).mono ?_; rintro e w' ⟨rfl, hb⟩; obtain ⟨l9, d9, rfl⟩ := toExt hb; clear hb))
      all_goals go_wp2
      all_goals go_roundg (3 - (1 + 1))
      all_goals first
        | omega
        | exact ⟨1 + 1, 1 + 1, rfl, rfl, rfl, by omega, cs_eq (N := up (up (unN 0 1) 2 0) (2 + 1) 1) (kc) (by apply cases18 <;> rfl), kf, kg, by (first | omega | (simp [ext_size, World.setCell] <;> omega))⟩
    · obtain rfl : y = 2 := hy
      go_wp2_with fail
      go_region_held3 (fun _ => True) (trivial) ((go_at_call 67; with_reducible refine (W0 _).mono ?_; rintro e w' ⟨rfl, hb⟩; obtain ⟨l9, d9, rfl⟩ := toExt hb; clear hb))
      all_goals go_wp2
      all_goals go_roundg (3 - (2 + 1))
      all_goals first
        | omega
        | exact ⟨2 + 1, 2 + 1, rfl, rfl, rfl, by omega, cs_eq (N := up (up (unN 0 2) 4 0) (4 + 1) 1) (kc) (by apply cases18 <;> rfl), kf, kg, by (first | omega | (simp [ext_size, World.setCell] <;> omega))⟩
  · obtain rfl : z = 1 := hz
    go_wp2_with fail
    go_loopg [7] 3 (fun kk s14 wv => ∃ (k : Nat) (y : Int), kk = 3 - k ∧ s14 = .int .i64 y ∧ y = k ∧ k ≤ 3 ∧ Cs wv (w.heap.size + 1) 18 (unN 1 k) ∧ Fs wv (w.heap.size + 1) 18 ∧ Below (w.heap.size + 1) wa wv ∧ wa.heap.size ≤ wv.heap.size)
    case atStart => exact ⟨0, 0, rfl, rfl, rfl, by omega, kc, kf, kg, by (first | omega | (simp [ext_size, World.setCell] <;> omega))⟩
    clear cI fI hbI hzI
    obtain ⟨k, y, rfl, rfl, hy, hk, cI, fI, hbI, hzI⟩ := hrel
    have c0 : ∀ o, o < 18 → wr.cell? ⟨(w.heap.size + 1), o, none⟩ = some (.int .i64 (unN 1 k o)) := cI
    have f0 : ∀ o, o < 18 → wr.frozen? ⟨(w.heap.size + 1), o, none⟩ = false := fI
    have zv : (w.heap.size + 1) < wr.heap.size := by omega
    rcases (show k = 3 ∨ k = 0 ∨ k = 1 ∨ k = 2 by omega) with rfl | rfl | rfl | rfl
    · obtain rfl : y = 3 := hy
      go_wp2_with fail
      go_region_held3 (fun _ => True) (trivial) ((go_at_call 67; with_reducible refine (W1 _).mono ?_; rintro e w' ⟨rfl, hb⟩; obtain ⟨l9, d9, rfl⟩ := toExt hb; clear hb))
      all_goals go_wp2
      all_goals go_roundg (3 - (1 + 1))
      all_goals first
        | omega
        | exact ⟨1 + 1, 1 + 1, rfl, rfl, rfl, by omega, cs_eq (N := up (up (unN 1 3) 8 1) (8 + 1) 1) (kc) (by apply cases18 <;> rfl), kf, kg, by (first | omega | (simp [ext_size, World.setCell] <;> omega))⟩
    · obtain rfl : y = 0 := hy
      go_wp2_with fail
      go_region_held3 (fun _ => True) (trivial) ((go_at_call 67; with_reducible refine (W0 _).mono ?_; rintro e w' ⟨rfl, hb⟩; obtain ⟨l9, d9, rfl⟩ := toExt hb; clear hb))
      all_goals go_wp2
      all_goals go_roundg (3 - (0 + 1))
      all_goals first
        | omega
        | exact ⟨0 + 1, 0 + 1, rfl, rfl, rfl, by omega, cs_eq (N := up (up (unN 1 0) 6 0) (6 + 1) 1) (kc) (by apply cases18 <;> rfl), kf, kg, by (first | omega | (simp [ext_size, World.setCell] <;> omega))⟩
    · obtain rfl : y = 1 := hy
      go_wp2_with fail
      go_region_held3 (fun _ => True) (trivial) ((go_at_call 67; with_reducible refine (W0 _).mono ?_; rintro e w' ⟨rfl, hb⟩; obtain ⟨l9, d9, rfl⟩ := toExt hb; clear hb))
      all_goals go_wp2
      all_goals go_roundg (3 - (1 + 1))
      all_goals first
        | omega
        | exact ⟨1 + 1, 1 + 1, rfl, rfl, rfl, by omega, cs_eq (N := up (up (unN 1 1) 8 0) (8 + 1) 1) (kc) (by apply cases18 <;> rfl), kf, kg, by (first | omega | (simp [ext_size, World.setCell] <;> omega))⟩
    · obtain rfl : y = 2 := hy
      go_wp2_with fail
      go_region_held3 (fun _ => True) (trivial) ((go_at_call 67; with_reducible refine (W0 _).mono ?_; rintro e w' ⟨rfl, hb⟩; obtain ⟨l9, d9, rfl⟩ := toExt hb; clear hb))
      all_goals go_wp2
      all_goals go_roundg (3 - (2 + 1))
      all_goals first
        | omega
        | exact ⟨2 + 1, 2 + 1, rfl, rfl, rfl, by omega, cs_eq (N := up (up (unN 1 2) 10 0) (10 + 1) 1) (kc) (by apply cases18 <;> rfl), kf, kg, by (first | omega | (simp [ext_size, World.setCell] <;> omega))⟩
  · obtain rfl : z = 2 := hz
    go_wp2_with fail
    go_loopg [7] 3 (fun kk s14 wv => ∃ (k : Nat) (y : Int), kk = 3 - k ∧ s14 = .int .i64 y ∧ y = k ∧ k ≤ 3 ∧ Cs wv (w.heap.size + 1) 18 (unN 2 k) ∧ Fs wv (w.heap.size + 1) 18 ∧ Below (w.heap.size + 1) wa wv ∧ wa.heap.size ≤ wv.heap.size)
    case atStart => exact ⟨0, 0, rfl, rfl, rfl, by omega, kc, kf, kg, by (first | omega | (simp [ext_size, World.setCell] <;> omega))⟩
    clear cI fI hbI hzI
    obtain ⟨k, y, rfl, rfl, hy, hk, cI, fI, hbI, hzI⟩ := hrel
    have c0 : ∀ o, o < 18 → wr.cell? ⟨(w.heap.size + 1), o, none⟩ = some (.int .i64 (unN 2 k o)) := cI
    have f0 : ∀ o, o < 18 → wr.frozen? ⟨(w.heap.size + 1), o, none⟩ = false := fI
    have zv : (w.heap.size + 1) < wr.heap.size := by omega
    rcases (show k = 3 ∨ k = 0 ∨ k = 1 ∨ k = 2 by omega) with rfl | rfl | rfl | rfl
    · obtain rfl : y = 3 := hy
      go_wp2_with fail
      go_region_held3 (fun _ => True) (trivial) ((go_at_call 67; with_reducible refine (W1 _).mono ?_; rintro e w' ⟨rfl, hb⟩; obtain ⟨l9, d9, rfl⟩ := toExt hb; clear hb))
      all_goals go_wp2
      all_goals go_roundg (3 - (2 + 1))
      all_goals first
        | omega
        | exact ⟨2 + 1, 2 + 1, rfl, rfl, rfl, by omega, cs_eq (N := up (up (unN 2 3) 16 1) (16 + 1) 1) (kc) (by apply cases18 <;> rfl), kf, kg, by (first | omega | (simp [ext_size, World.setCell] <;> omega))⟩
    · obtain rfl : y = 0 := hy
      go_wp2_with fail
      go_region_held3 (fun _ => True) (trivial) ((go_at_call 67; with_reducible refine (W0 _).mono ?_; rintro e w' ⟨rfl, hb⟩; obtain ⟨l9, d9, rfl⟩ := toExt hb; clear hb))
      all_goals go_wp2
      all_goals go_roundg (3 - (0 + 1))
      all_goals first
        | omega
        | exact ⟨0 + 1, 0 + 1, rfl, rfl, rfl, by omega, cs_eq (N := up (up (unN 2 0) 12 0) (12 + 1) 1) (kc) (by apply cases18 <;> rfl), kf, kg, by (first | omega | (simp [ext_size, World.setCell] <;> omega))⟩
    · obtain rfl : y = 1 := hy
      go_wp2_with fail
      go_region_held3 (fun _ => True) (trivial) ((go_at_call 67; with_reducible refine (W0 _).mono ?_; rintro e w' ⟨rfl, hb⟩; obtain ⟨l9, d9, rfl⟩ := toExt hb; clear hb))
      all_goals go_wp2
      all_goals go_roundg (3 - (1 + 1))
      all_goals first
        | omega
        | exact ⟨1 + 1, 1 + 1, rfl, rfl, rfl, by omega, cs_eq (N := up (up (unN 2 1) 14 0) (14 + 1) 1) (kc) (by apply cases18 <;> rfl), kf, kg, by (first | omega | (simp [ext_size, World.setCell] <;> omega))⟩
    · obtain rfl : y = 2 := hy
      go_wp2_with fail
      go_region_held3 (fun _ => True) (trivial) ((go_at_call 67; with_reducible refine (W0 _).mono ?_; rintro e w' ⟨rfl, hb⟩; obtain ⟨l9, d9, rfl⟩ := toExt hb; clear hb))
      all_goals go_wp2
      all_goals go_roundg (3 - (2 + 1))
      all_goals first
        | omega
        | exact ⟨2 + 1, 2 + 1, rfl, rfl, rfl, by omega, cs_eq (N := up (up (unN 2 2) 16 0) (16 + 1) 1) (kc) (by apply cases18 <;> rfl), kf, kg, by (first | omega | (simp [ext_size, World.setCell] <;> omega))⟩

end Go.Proofs.Ytdolfdmgdknboaa
namespace Go.Proofs.Ytdolfdmgdknboaa
open Go.RowKit
set_option linter.unusedVariables false
set_option linter.unusedSimpArgs false

theorem undF : Try.prog.underlying 24 = some (.array 3 23) := by kernel_rfl
theorem undM : Try.prog.underlying 26 = some (.array 3 24) := by kernel_rfl
theorem celF : Try.prog.cellsOf 23 = 2 := by kernel_rfl
theorem celR : Try.prog.cellsOf 24 = 6 := by kernel_rfl
theorem frac_equal (n : Nat) (a b c d : Int) (w : World) : Sem.run Try.prog (Op.equalIn (n + 3) 23 (.agg #[.int .i64 a, .int .i64 b]) (.agg #[.int .i64 c, .int .i64 d])) w = .ok (a == c && b == d) w := by
  have h : (Op.equalIn (n + 2 + 1) 23 (.agg #[.int .i64 a, .int .i64 b]) (.agg #[.int .i64 c, .int .i64 d])).run Try.prog w = _ := run_equalIn_struct w (n + 2) 23 _ _ (by kernel_rfl) (by kernel_rfl)
  refine h.trans ?_
  simp [go_sem, Op.eqFields]
  by_cases h1 : a = c <;> by_cases h2 : b = d <;> simp [h1, h2]
theorem part_frac (xs : Array Value) (off : Nat) (w : World) : Sem.run Try.prog (part 23 xs off) w = .ok (.agg (xs.extract off (off + 2))) w := by
  obtain ⟨i, hi⟩ : ∃ i, Try.prog.info? 23 = some i := Option.isSome_iff_exists.mp (by kernel_rfl)
  have h2 := celF
  simp only [Program.cellsOf, hi] at h2
  simp [part, isAgg, run_underlying Try.underlying23, run_sizeOf w hi]
theorem part_row (xs : Array Value) (off : Nat) (w : World) : Sem.run Try.prog (part 24 xs off) w = .ok (.agg (xs.extract off (off + 6))) w := by
  obtain ⟨i, hi⟩ : ∃ i, Try.prog.info? 24 = some i := Option.isSome_iff_exists.mp (by kernel_rfl)
  have h2 := celR
  simp only [Program.cellsOf, hi] at h2
  simp [part, isAgg, run_underlying Try.underlying24, run_sizeOf w hi]
theorem row_equal (n : Nat) (a b c d e f g h i j k l : Int) (w : World) : Sem.run Try.prog (Op.equalIn (n + 4) 24 (.agg #[.int .i64 a, .int .i64 b, .int .i64 c, .int .i64 d, .int .i64 e, .int .i64 f]) (.agg #[.int .i64 g, .int .i64 h, .int .i64 i, .int .i64 j, .int .i64 k, .int .i64 l])) w = .ok ((a == g && b == h) && ((c == i && d == j) && (e == k && f == l))) w := by
  obtain ⟨q, hq⟩ : ∃ i, Try.prog.info? 23 = some i := Option.isSome_iff_exists.mp (by kernel_rfl)
  refine (run_equalIn_array w (n + 3) _ _ undF hq).trans ?_
  rw [celF]
  show Sem.run Try.prog (Op.eqItems (n + 3) 23 2 _ _ [0, 1, 2]) w = _
  have step : ∀ (i : Nat) (xs ys : Array Value) (x y z t : Int) (K : Bool → World → Result Bool), xs.extract (i * 2) (i * 2 + 2) = #[.int .i64 x, .int .i64 y] → ys.extract (i * 2) (i * 2 + 2) = #[.int .i64 z, .int .i64 t] →
      ((Sem.run Try.prog (part 23 xs (i * 2)) w).andThen fun u w' => (Sem.run Try.prog (part 23 ys (i * 2)) w').andThen fun v w' => (Sem.run Try.prog (Op.equalIn (n + 3) 23 u v) w').andThen K) = K (x == z && y == t) w := by
    intro i xs ys x y z t K h1 h2
    rw [part_frac]
    simp only [Result.andThen_ok]
    rw [part_frac]
    simp only [Result.andThen_ok]
    rw [h1, h2, frac_equal]
    rfl
  simp only [Op.eqItems, Sem.run_bind]
  rw [step 0 _ _ a b g h _ rfl rfl]
  cases (a == g && b == h)
  · rfl
  simp only [Bool.not_true, Bool.false_eq_true, if_false, Sem.run_bind]
  rw [step 1 _ _ c d i j _ rfl rfl]
  cases (c == i && d == j)
  · rfl
  simp only [Bool.not_true, Bool.false_eq_true, if_false, Sem.run_bind]
  rw [step 2 _ _ e f k l _ rfl rfl]
  cases (e == k && f == l) <;> rfl
def rowB0 (M N : Nat → Int) : Bool := ((M 0 == N 0 && M 1 == N 1) && ((M 2 == N 2 && M 3 == N 3) && (M 4 == N 4 && M 5 == N 5)))
def rowB1 (M N : Nat → Int) : Bool := ((M 6 == N 6 && M 7 == N 7) && ((M 8 == N 8 && M 9 == N 9) && (M 10 == N 10 && M 11 == N 11)))
def rowB2 (M N : Nat → Int) : Bool := ((M 12 == N 12 && M 13 == N 13) && ((M 14 == N 14 && M 15 == N 15) && (M 16 == N 16 && M 17 == N 17)))
/-- Are two matrices equal? -/
def matB (M N : Nat → Int) : Bool := rowB0 M N && (rowB1 M N && rowB2 M N)
theorem matB_iff (M N : Nat → Int) : matB M N = true ↔ ∀ o, o < 18 → M o = N o := by
  unfold matB rowB0 rowB1 rowB2
  simp only [Bool.and_eq_true, beq_iff_eq]
  constructor
  · rintro ⟨⟨⟨a0, a1⟩, ⟨a2, a3⟩, a4, a5⟩, ⟨⟨b0, b1⟩, ⟨b2, b3⟩, b4, b5⟩, ⟨c0, c1⟩, ⟨c2, c3⟩, c4, c5⟩
    apply cases18 <;> assumption
  · intro h
    exact ⟨⟨⟨h 0 (by omega), h 1 (by omega)⟩, ⟨h 2 (by omega), h 3 (by omega)⟩, h 4 (by omega), h 5 (by omega)⟩, ⟨⟨h 6 (by omega), h 7 (by omega)⟩, ⟨h 8 (by omega), h 9 (by omega)⟩, h 10 (by omega), h 11 (by omega)⟩, ⟨h 12 (by omega), h 13 (by omega)⟩, ⟨h 14 (by omega), h 15 (by omega)⟩, h 16 (by omega), h 17 (by omega)⟩
theorem matB_same (M : Nat → Int) : matB M M = true := (matB_iff M M).2 (fun _ _ => rfl)
theorem mat_eq (M N : Nat → Int) (w : World) : Sem.run Try.prog (Op.equalIn 10000 26 (.agg #[.int .i64 (M 0), .int .i64 (M 1), .int .i64 (M 2), .int .i64 (M 3), .int .i64 (M 4), .int .i64 (M 5), .int .i64 (M 6), .int .i64 (M 7), .int .i64 (M 8), .int .i64 (M 9), .int .i64 (M 10), .int .i64 (M 11), .int .i64 (M 12), .int .i64 (M 13), .int .i64 (M 14), .int .i64 (M 15), .int .i64 (M 16), .int .i64 (M 17)]) (.agg #[.int .i64 (N 0), .int .i64 (N 1), .int .i64 (N 2), .int .i64 (N 3), .int .i64 (N 4), .int .i64 (N 5), .int .i64 (N 6), .int .i64 (N 7), .int .i64 (N 8), .int .i64 (N 9), .int .i64 (N 10), .int .i64 (N 11), .int .i64 (N 12), .int .i64 (N 13), .int .i64 (N 14), .int .i64 (N 15), .int .i64 (N 16), .int .i64 (N 17)])) w = .ok (matB M N) w := by
  obtain ⟨q, hq⟩ : ∃ i, Try.prog.info? 24 = some i := Option.isSome_iff_exists.mp (by kernel_rfl)
  refine (run_equalIn_array w 9999 _ _ undM hq).trans ?_
  rw [celR]
  show Sem.run Try.prog (Op.eqItems 9999 24 6 _ _ [0, 1, 2]) w = _
  have step : ∀ (i : Nat) (xs ys : Array Value) (a b c d e f g h i' j k l : Int) (K : Bool → World → Result Bool), xs.extract (i * 6) (i * 6 + 6) = #[.int .i64 a, .int .i64 b, .int .i64 c, .int .i64 d, .int .i64 e, .int .i64 f] → ys.extract (i * 6) (i * 6 + 6) = #[.int .i64 g, .int .i64 h, .int .i64 i', .int .i64 j, .int .i64 k, .int .i64 l] →
      ((Sem.run Try.prog (part 24 xs (i * 6)) w).andThen fun u w' => (Sem.run Try.prog (part 24 ys (i * 6)) w').andThen fun v w' => (Sem.run Try.prog (Op.equalIn 9999 24 u v) w').andThen K) = K ((a == g && b == h) && ((c == i' && d == j) && (e == k && f == l))) w := by
    intro i xs ys a b c d e f g h i' j k l K h1 h2
    rw [part_row]
    simp only [Result.andThen_ok]
    rw [part_row]
    simp only [Result.andThen_ok]
    rw [h1, h2, row_equal 9995]
    rfl
  simp only [Op.eqItems, Sem.run_bind]
  unfold matB
  rw [step 0 _ _ (M 0) (M 1) (M 2) (M 3) (M 4) (M 5) (N 0) (N 1) (N 2) (N 3) (N 4) (N 5) _ rfl rfl]
  change _ = Result.ok (rowB0 M N && _) w
  rw [show ((M 0 == N 0 && M 1 == N 1) && ((M 2 == N 2 && M 3 == N 3) && (M 4 == N 4 && M 5 == N 5))) = rowB0 M N from rfl]
  cases rowB0 M N
  · rfl
  simp only [Bool.not_true, Bool.false_eq_true, if_false, Sem.run_bind]
  rw [step 1 _ _ (M 6) (M 7) (M 8) (M 9) (M 10) (M 11) (N 6) (N 7) (N 8) (N 9) (N 10) (N 11) _ rfl rfl]
  rw [show ((M 6 == N 6 && M 7 == N 7) && ((M 8 == N 8 && M 9 == N 9) && (M 10 == N 10 && M 11 == N 11))) = rowB1 M N from rfl]
  cases rowB1 M N
  · rfl
  simp only [Bool.not_true, Bool.false_eq_true, if_false, Sem.run_bind]
  rw [step 2 _ _ (M 12) (M 13) (M 14) (M 15) (M 16) (M 17) (N 12) (N 13) (N 14) (N 15) (N 16) (N 17) _ rfl rfl]
  rw [show ((M 12 == N 12 && M 13 == N 13) && ((M 14 == N 14 && M 15 == N 15) && (M 16 == N 16 && M 17 == N 17))) = rowB2 M N from rfl]
  cases rowB2 M N <;> rfl
end Go.Proofs.Ytdolfdmgdknboaa
