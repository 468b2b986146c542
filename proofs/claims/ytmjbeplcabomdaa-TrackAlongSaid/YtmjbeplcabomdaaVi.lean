/-
  P2.1: Add, Sub and Scale of package vec.
-/
import Derived.Test.YtmjbeplcabomdaaKu
import Derived.Test.YtmjbeplcabomdaaVh
import Derived.Test.YtmjbeplcabomdaaVe
namespace Go.Proofs.Ytmjbeplcabomdaa
open Go.RowKit
set_option linter.unusedVariables false
set_option linter.unusedSimpArgs false

set_option maxRecDepth 100000 in
set_option maxHeartbeats 1600000 in
theorem vec_Add (a b c d e f g h i j k l : Int) (p1 : okC a b) (p2 : okC c d) (p3 : okC e f) (q1 : okC g h) (q2 : okC i j) (q3 : okC k l) (w : World) :
    Calls Try.prog 26 #[.agg #[.int .i64 a, .int .i64 b, .int .i64 c, .int .i64 d, .int .i64 e, .int .i64 f], .agg #[.int .i64 g, .int .i64 h, .int .i64 i, .int .i64 j, .int .i64 k, .int .i64 l]] w fun x w' => x = .returned (.tuple #[.agg #[.int .i64 (vz (vaE a b c d e f g h i j k l) (adN a b g h)), .int .i64 (vz (vaE a b c d e f g h i j k l) (adD a b g h)), .int .i64 (vz (vaE a b c d e f g h i j k l) (adN c d i j)), .int .i64 (vz (vaE a b c d e f g h i j k l) (adD c d i j)), .int .i64 (vz (vaE a b c d e f g h i j k l) (adN e f k l)), .int .i64 (vz (vaE a b c d e f g h i j k l) (adD e f k l))], .int .i64 (vaE a b c d e f g h i j k l)]) ∧ Below w.heap.size w w' := by
  have AA := fun w => combine_ok 43 a b c d e f g h i j k l _ _ _ _ _ _ _ _ _ (fun gd ga gb w h1 h2 h3 h4 h5 h6 h7 h8 => comb_add 0 gd ga gb a b g h _ _ _ (by omega) w h1 h2 h3 h4 h5 h6 h7 h8 (fun w => frac_Add a b g h p1.1 p1.2.1 p1.2.2.1 p1.2.2.2 q1.1 q1.2.1 q1.2.2.1 q1.2.2.2 w)) (fun gd ga gb w h1 h2 h3 h4 h5 h6 h7 h8 => comb_add 1 gd ga gb c d i j _ _ _ (by omega) w h1 h2 h3 h4 h5 h6 h7 h8 (fun w => frac_Add c d i j p2.1 p2.2.1 p2.2.2.1 p2.2.2.2 q2.1 q2.2.1 q2.2.2.1 q2.2.2.2 w)) (fun gd ga gb w h1 h2 h3 h4 h5 h6 h7 h8 => comb_add 2 gd ga gb e f k l _ _ _ (by omega) w h1 h2 h3 h4 h5 h6 h7 h8 (fun w => frac_Add e f k l p3.1 p3.2.1 p3.2.2.1 p3.2.2.2 q3.1 q3.2.1 q3.2.2.1 q3.2.2.2 w)) p1 p2 p3 q1 q2 q3 w
  change ∀ w, Calls Try.prog 42 #[.func (.func 43) #[] #[], .agg #[.int .i64 a, .int .i64 b, .int .i64 c, .int .i64 d, .int .i64 e, .int .i64 f], .agg #[.int .i64 g, .int .i64 h, .int .i64 i, .int .i64 j, .int .i64 k, .int .i64 l]] w fun rr w' => rr = .returned (.tuple #[.agg #[.int .i64 (vz (vaE a b c d e f g h i j k l) (adN a b g h)), .int .i64 (vz (vaE a b c d e f g h i j k l) (adD a b g h)), .int .i64 (vz (vaE a b c d e f g h i j k l) (adN c d i j)), .int .i64 (vz (vaE a b c d e f g h i j k l) (adD c d i j)), .int .i64 (vz (vaE a b c d e f g h i j k l) (adN e f k l)), .int .i64 (vz (vaE a b c d e f g h i j k l) (adD e f k l))], .int .i64 (vaE a b c d e f g h i j k l)]) ∧ Below w.heap.size w w' at AA
  clear p1 p2 p3 q1 q2 q3
  generalize vz (vaE a b c d e f g h i j k l) (adN a b g h) = X0 at *
  generalize vz (vaE a b c d e f g h i j k l) (adD a b g h) = X1 at *
  generalize vz (vaE a b c d e f g h i j k l) (adN c d i j) = X2 at *
  generalize vz (vaE a b c d e f g h i j k l) (adD c d i j) = X3 at *
  generalize vz (vaE a b c d e f g h i j k l) (adN e f k l) = X4 at *
  generalize vz (vaE a b c d e f g h i j k l) (adD e f k l) = X5 at *
  generalize vaE a b c d e f g h i j k l = E at *
  have xR := xRul
  go_enter Try.func26, Try.ntmps26
  go_wp2_with fail
  refine (AA _).mono ?_
  rintro e w1c ⟨rfl, hb1c⟩
  obtain ⟨l1c, d1c, rfl⟩ := toExt hb1c
  clear hb1c
  clear AA
  go_wp2
  refine bodyPost_ret (by simp [results, Try.results26, go_sem, ext_cell, kp, *]; try rfl) rfl ?_
  exact ⟨rfl, kb⟩

end Go.Proofs.Ytmjbeplcabomdaa
