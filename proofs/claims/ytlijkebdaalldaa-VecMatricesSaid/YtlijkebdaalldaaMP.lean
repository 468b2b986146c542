/-
  The law on matrices, walked: its twelve calls by contracts.  Vectors as arguments of a row: opened and shut.  Matrices as arguments of a row: opened and shut.
-/
import Derived.Lib.Hide
import Derived.Test.YtlijkebdaalldaaKu
import Derived.Test.YtlijkebdaalldaaMA
import Derived.Test.YtlijkebdaalldaaMG
import Derived.Test.YtlijkebdaalldaaFrow
import Derived.Lib.SmallJoins
import Derived.Carry
import Derived.Test.YtlijkebdaalldaaMB
import Derived.OpenShut
namespace Go.Proofs.Ytlijkebdaalldaa
open Go.RowKit
set_option linter.unusedVariables false
set_option linter.unusedSimpArgs false

def fr2 (x y : Int) : Nat → Int
  | 0 => x
  | _ => y
theorem arr2 (x y : Int) : ∀ o, o < 2 → (#[Value.int .i64 x, Value.int .i64 y] : Array Value)[o]? = some (.int .i64 (fr2 x y o)) := by
  intro o ho
  rcases (show o = 0 ∨ o = 1 by omega) with rfl | rfl <;> rfl
theorem plaing {ops : Array Oper} {rest : List Oper} {o : Oper} {a : Act} {w : World} {Q : Exit → Act → World → Prop} (hw : Region.wanted o (yielded ops a.tmps) = true) (h : ∀ K : Act → World → Prop, (∀ a w, wpList Try.prog ops Q rest a w → K a w) → o.wp Try.prog a w K Q) : wpList Try.prog ops Q (o :: rest) a w :=
  wpList_step fun K hK => by rw [if_pos hw]; exact h K hK
set_option maxRecDepth 100000 in
set_option maxHeartbeats 16000000 in
theorem mlaw_walk (M N V A P F T : Nat → Int) (axis n d d1 d2 ea ep ef ed et ei : Int) (b : Bool)
    (H0 : ∀ w : World, Calls Try.prog 10 #[.agg #[.int .i64 (M 0), .int .i64 (M 1), .int .i64 (M 2), .int .i64 (M 3), .int .i64 (M 4), .int .i64 (M 5), .int .i64 (M 6), .int .i64 (M 7), .int .i64 (M 8), .int .i64 (M 9), .int .i64 (M 10), .int .i64 (M 11), .int .i64 (M 12), .int .i64 (M 13), .int .i64 (M 14), .int .i64 (M 15), .int .i64 (M 16), .int .i64 (M 17)], .agg #[.int .i64 (V 0), .int .i64 (V 1), .int .i64 (V 2), .int .i64 (V 3), .int .i64 (V 4), .int .i64 (V 5)]] w fun x w' => x = .returned (.tuple #[.agg #[.int .i64 (A 0), .int .i64 (A 1), .int .i64 (A 2), .int .i64 (A 3), .int .i64 (A 4), .int .i64 (A 5)], .int .i64 ea]) ∧ Below w.heap.size w w')
    (H1 : ∀ w : World, Calls Try.prog 23 #[.agg #[.int .i64 (M 0), .int .i64 (M 1), .int .i64 (M 2), .int .i64 (M 3), .int .i64 (M 4), .int .i64 (M 5), .int .i64 (M 6), .int .i64 (M 7), .int .i64 (M 8), .int .i64 (M 9), .int .i64 (M 10), .int .i64 (M 11), .int .i64 (M 12), .int .i64 (M 13), .int .i64 (M 14), .int .i64 (M 15), .int .i64 (M 16), .int .i64 (M 17)], .agg #[.int .i64 (V 0), .int .i64 (V 1), .int .i64 (V 2), .int .i64 (V 3), .int .i64 (V 4), .int .i64 (V 5)]] w fun x w' => x = .returned (.tuple #[.agg #[.int .i64 (A 0), .int .i64 (A 1), .int .i64 (A 2), .int .i64 (A 3), .int .i64 (A 4), .int .i64 (A 5)], .int .i64 ea]) ∧ Below w.heap.size w w')
    (H2 : ∀ w : World, Calls Try.prog 19 #[.agg #[.int .i64 (M 0), .int .i64 (M 1), .int .i64 (M 2), .int .i64 (M 3), .int .i64 (M 4), .int .i64 (M 5), .int .i64 (M 6), .int .i64 (M 7), .int .i64 (M 8), .int .i64 (M 9), .int .i64 (M 10), .int .i64 (M 11), .int .i64 (M 12), .int .i64 (M 13), .int .i64 (M 14), .int .i64 (M 15), .int .i64 (M 16), .int .i64 (M 17)], .agg #[.int .i64 (N 0), .int .i64 (N 1), .int .i64 (N 2), .int .i64 (N 3), .int .i64 (N 4), .int .i64 (N 5), .int .i64 (N 6), .int .i64 (N 7), .int .i64 (N 8), .int .i64 (N 9), .int .i64 (N 10), .int .i64 (N 11), .int .i64 (N 12), .int .i64 (N 13), .int .i64 (N 14), .int .i64 (N 15), .int .i64 (N 16), .int .i64 (N 17)]] w fun x w' => x = .returned (.tuple #[.agg #[.int .i64 (P 0), .int .i64 (P 1), .int .i64 (P 2), .int .i64 (P 3), .int .i64 (P 4), .int .i64 (P 5), .int .i64 (P 6), .int .i64 (P 7), .int .i64 (P 8), .int .i64 (P 9), .int .i64 (P 10), .int .i64 (P 11), .int .i64 (P 12), .int .i64 (P 13), .int .i64 (P 14), .int .i64 (P 15), .int .i64 (P 16), .int .i64 (P 17)], .int .i64 ep]) ∧ Below w.heap.size w w')
    (H3 : ∀ w : World, Calls Try.prog 24 #[.agg #[.int .i64 (M 0), .int .i64 (M 1), .int .i64 (M 2), .int .i64 (M 3), .int .i64 (M 4), .int .i64 (M 5), .int .i64 (M 6), .int .i64 (M 7), .int .i64 (M 8), .int .i64 (M 9), .int .i64 (M 10), .int .i64 (M 11), .int .i64 (M 12), .int .i64 (M 13), .int .i64 (M 14), .int .i64 (M 15), .int .i64 (M 16), .int .i64 (M 17)], .agg #[.int .i64 (N 0), .int .i64 (N 1), .int .i64 (N 2), .int .i64 (N 3), .int .i64 (N 4), .int .i64 (N 5), .int .i64 (N 6), .int .i64 (N 7), .int .i64 (N 8), .int .i64 (N 9), .int .i64 (N 10), .int .i64 (N 11), .int .i64 (N 12), .int .i64 (N 13), .int .i64 (N 14), .int .i64 (N 15), .int .i64 (N 16), .int .i64 (N 17)]] w fun x w' => x = .returned (.tuple #[.agg #[.int .i64 (P 0), .int .i64 (P 1), .int .i64 (P 2), .int .i64 (P 3), .int .i64 (P 4), .int .i64 (P 5), .int .i64 (P 6), .int .i64 (P 7), .int .i64 (P 8), .int .i64 (P 9), .int .i64 (P 10), .int .i64 (P 11), .int .i64 (P 12), .int .i64 (P 13), .int .i64 (P 14), .int .i64 (P 15), .int .i64 (P 16), .int .i64 (P 17)], .int .i64 ep]) ∧ Below w.heap.size w w')
    (H4 : ∀ w : World, Calls Try.prog 20 #[.agg #[.int .i64 (M 0), .int .i64 (M 1), .int .i64 (M 2), .int .i64 (M 3), .int .i64 (M 4), .int .i64 (M 5), .int .i64 (M 6), .int .i64 (M 7), .int .i64 (M 8), .int .i64 (M 9), .int .i64 (M 10), .int .i64 (M 11), .int .i64 (M 12), .int .i64 (M 13), .int .i64 (M 14), .int .i64 (M 15), .int .i64 (M 16), .int .i64 (M 17)]] w fun x w' => x = .returned (.tuple #[.agg #[.int .i64 (F 0), .int .i64 (F 1), .int .i64 (F 2), .int .i64 (F 3), .int .i64 (F 4), .int .i64 (F 5), .int .i64 (F 6), .int .i64 (F 7), .int .i64 (F 8), .int .i64 (F 9), .int .i64 (F 10), .int .i64 (F 11), .int .i64 (F 12), .int .i64 (F 13), .int .i64 (F 14), .int .i64 (F 15), .int .i64 (F 16), .int .i64 (F 17)], .int .i64 ef]) ∧ Below w.heap.size w w')
    (H5 : ∀ w : World, Calls Try.prog 25 #[.agg #[.int .i64 (M 0), .int .i64 (M 1), .int .i64 (M 2), .int .i64 (M 3), .int .i64 (M 4), .int .i64 (M 5), .int .i64 (M 6), .int .i64 (M 7), .int .i64 (M 8), .int .i64 (M 9), .int .i64 (M 10), .int .i64 (M 11), .int .i64 (M 12), .int .i64 (M 13), .int .i64 (M 14), .int .i64 (M 15), .int .i64 (M 16), .int .i64 (M 17)]] w fun x w' => x = .returned (.tuple #[.agg #[.int .i64 (F 0), .int .i64 (F 1), .int .i64 (F 2), .int .i64 (F 3), .int .i64 (F 4), .int .i64 (F 5), .int .i64 (F 6), .int .i64 (F 7), .int .i64 (F 8), .int .i64 (F 9), .int .i64 (F 10), .int .i64 (F 11), .int .i64 (F 12), .int .i64 (F 13), .int .i64 (F 14), .int .i64 (F 15), .int .i64 (F 16), .int .i64 (F 17)], .int .i64 ef]) ∧ Below w.heap.size w w')
    (H6 : ∀ w : World, Calls Try.prog 14 #[.agg #[.int .i64 (M 0), .int .i64 (M 1), .int .i64 (M 2), .int .i64 (M 3), .int .i64 (M 4), .int .i64 (M 5), .int .i64 (M 6), .int .i64 (M 7), .int .i64 (M 8), .int .i64 (M 9), .int .i64 (M 10), .int .i64 (M 11), .int .i64 (M 12), .int .i64 (M 13), .int .i64 (M 14), .int .i64 (M 15), .int .i64 (M 16), .int .i64 (M 17)]] w fun x w' => x = .returned (.tuple #[.agg #[.int .i64 d1, .int .i64 d2], .int .i64 ed]) ∧ Below w.heap.size w w')
    (H7 : ∀ w : World, Calls Try.prog 26 #[.agg #[.int .i64 (M 0), .int .i64 (M 1), .int .i64 (M 2), .int .i64 (M 3), .int .i64 (M 4), .int .i64 (M 5), .int .i64 (M 6), .int .i64 (M 7), .int .i64 (M 8), .int .i64 (M 9), .int .i64 (M 10), .int .i64 (M 11), .int .i64 (M 12), .int .i64 (M 13), .int .i64 (M 14), .int .i64 (M 15), .int .i64 (M 16), .int .i64 (M 17)]] w fun x w' => x = .returned (.tuple #[.agg #[.int .i64 d1, .int .i64 d2], .int .i64 ed]) ∧ Below w.heap.size w w')
    (H8 : ∀ w : World, Calls Try.prog 9 #[.int .i64 axis, .agg #[.int .i64 n, .int .i64 d]] w fun x w' => x = .returned (.tuple #[.agg #[.int .i64 (T 0), .int .i64 (T 1), .int .i64 (T 2), .int .i64 (T 3), .int .i64 (T 4), .int .i64 (T 5), .int .i64 (T 6), .int .i64 (T 7), .int .i64 (T 8), .int .i64 (T 9), .int .i64 (T 10), .int .i64 (T 11), .int .i64 (T 12), .int .i64 (T 13), .int .i64 (T 14), .int .i64 (T 15), .int .i64 (T 16), .int .i64 (T 17)], .int .i64 et]) ∧ Below w.heap.size w w')
    (H9 : ∀ w : World, Calls Try.prog 27 #[.int .i64 axis, .agg #[.int .i64 n, .int .i64 d]] w fun x w' => x = .returned (.tuple #[.agg #[.int .i64 (T 0), .int .i64 (T 1), .int .i64 (T 2), .int .i64 (T 3), .int .i64 (T 4), .int .i64 (T 5), .int .i64 (T 6), .int .i64 (T 7), .int .i64 (T 8), .int .i64 (T 9), .int .i64 (T 10), .int .i64 (T 11), .int .i64 (T 12), .int .i64 (T 13), .int .i64 (T 14), .int .i64 (T 15), .int .i64 (T 16), .int .i64 (T 17)], .int .i64 et]) ∧ Below w.heap.size w w')
    (H10 : ∀ w : World, Calls Try.prog 13 #[.agg #[.int .i64 (M 0), .int .i64 (M 1), .int .i64 (M 2), .int .i64 (M 3), .int .i64 (M 4), .int .i64 (M 5), .int .i64 (M 6), .int .i64 (M 7), .int .i64 (M 8), .int .i64 (M 9), .int .i64 (M 10), .int .i64 (M 11), .int .i64 (M 12), .int .i64 (M 13), .int .i64 (M 14), .int .i64 (M 15), .int .i64 (M 16), .int .i64 (M 17)]] w fun x w' => x = .returned (.tuple #[.bool b, .int .i64 ei]) ∧ Below w.heap.size w w')
    (H11 : ∀ w : World, Calls Try.prog 28 #[.agg #[.int .i64 (M 0), .int .i64 (M 1), .int .i64 (M 2), .int .i64 (M 3), .int .i64 (M 4), .int .i64 (M 5), .int .i64 (M 6), .int .i64 (M 7), .int .i64 (M 8), .int .i64 (M 9), .int .i64 (M 10), .int .i64 (M 11), .int .i64 (M 12), .int .i64 (M 13), .int .i64 (M 14), .int .i64 (M 15), .int .i64 (M 16), .int .i64 (M 17)]] w fun x w' => x = .returned (.tuple #[.bool b, .int .i64 ei]) ∧ Below w.heap.size w w')
    (w : World) :
    Calls Try.prog 4 #[.agg #[.int .i64 (M 0), .int .i64 (M 1), .int .i64 (M 2), .int .i64 (M 3), .int .i64 (M 4), .int .i64 (M 5), .int .i64 (M 6), .int .i64 (M 7), .int .i64 (M 8), .int .i64 (M 9), .int .i64 (M 10), .int .i64 (M 11), .int .i64 (M 12), .int .i64 (M 13), .int .i64 (M 14), .int .i64 (M 15), .int .i64 (M 16), .int .i64 (M 17)], .agg #[.int .i64 (N 0), .int .i64 (N 1), .int .i64 (N 2), .int .i64 (N 3), .int .i64 (N 4), .int .i64 (N 5), .int .i64 (N 6), .int .i64 (N 7), .int .i64 (N 8), .int .i64 (N 9), .int .i64 (N 10), .int .i64 (N 11), .int .i64 (N 12), .int .i64 (N 13), .int .i64 (N 14), .int .i64 (N 15), .int .i64 (N 16), .int .i64 (N 17)], .agg #[.int .i64 (V 0), .int .i64 (V 1), .int .i64 (V 2), .int .i64 (V 3), .int .i64 (V 4), .int .i64 (V 5)], .int .i64 axis, .agg #[.int .i64 n, .int .i64 d]] w fun x w' => x = .returned (.bool true) ∧ Below w.heap.size w w' := by
  have K0 := Lib.hid H0
  have K1 := Lib.hid H1
  have K2 := Lib.hid H2
  have K3 := Lib.hid H3
  have K4 := Lib.hid H4
  have K5 := Lib.hid H5
  have K6 := Lib.hid H6
  have K7 := Lib.hid H7
  have K8 := Lib.hid H8
  have K9 := Lib.hid H9
  have K10 := Lib.hid H10
  have K11 := Lib.hid H11
  clear H0 H1 H2 H3 H4 H5 H6 H7 H8 H9 H10 H11
  have dAl := dAl; have dSt := dSt
  go_enter Try.func4, Try.ntmps4
  go_upto_region 1 with fail
  refine opq (fun wx => Cs wx (w.heap.size) 18 M ∧ Cs wx (w.heap.size + 1) 18 N ∧ Cs wx (w.heap.size + 1 + 1) 6 V ∧ Cs wx (w.heap.size + 1 + 1 + 1) 2 (fr2 n d) ∧ w.heap.size + 1 + 1 + 1 < wx.heap.size ∧ Below w.heap.size w wx) ?_ ?_
  · exact ⟨cs_alloc _ (cs_alloc _ (cs_alloc _ (cs_new rfl (arrM M)) (by simp)) (by simp <;> omega)) (by simp <;> omega), cs_alloc _ (cs_alloc _ (cs_new (by simp) (arrM N)) (by simp)) (by simp <;> omega), cs_alloc _ (cs_new (by simp) (arrV V)) (by simp), cs_new (by simp) (arr2 n d), by simp, kb⟩
  rintro w0 ⟨cM, cN, cV, cT, zs, HBa⟩
  have AC := K0.out
  go_upto_region 1 with fail
  go_step
  refine load18 (.tmp 5) _ M cM rfl rfl rfl ?_
  simp only [putA]
  have hV : ∀ o, o < 6 → w0.cell? ⟨w.heap.size + 1 + 1, o, none⟩ = some (.int .i64 (V o)) := cV
  refine wpList_plain rfl (fun K hK => ?_)
  go_big_op
  refine hK _ _ ?_
  clear hK K
  clear hV
  refine wpList_plain rfl (fun K hK => ?_)
  go_big_op
  with_reducible refine (AC _).mono ?_
  rintro e v0 ⟨rfl, hb⟩
  simp only []
  refine hK _ _ ?_
  clear hK K AC
  replace cM := cs_below cM hb (by omega)
  replace cN := cs_below cN hb (by omega)
  replace cV := cs_below cV hb (by omega)
  replace cT := cs_below cT hb (by omega)
  replace HBa := HBa.trans (hb.mono (by omega))
  replace zs := Nat.lt_of_lt_of_le zs hb.size
  clear hb
  go_upto_region 2 with fail
  refine opq (fun wx => Cs wx (w.heap.size) 18 M ∧ Cs wx (w.heap.size + 1) 18 N ∧ Cs wx (w.heap.size + 1 + 1) 6 V ∧ Cs wx (w.heap.size + 1 + 1 + 1) 2 (fr2 n d) ∧ Cs wx v0.heap.size 6 A ∧ v0.heap.size < wx.heap.size ∧ Below w.heap.size w wx) ?_ ?_
  · exact ⟨kc, kc, kc, kc, by (intro o ho; rcases (show o = 0 ∨ o = 1 ∨ o = 2 ∨ o = 3 ∨ o = 4 ∨ o = 5 by omega) with rfl | rfl | rfl | rfl | rfl | rfl <;> simp [fr2, go_sem]), by simp [World.setCell], kg⟩
  have y0 := zs
  clear cM cN cV cT HBa zs
  generalize hq0 : v0.heap.size = q0 at *
  clear hq0
  rintro u0 ⟨cM, cN, cV, cT, cq0, zs, HBa⟩
  have AC := K1.out
  go_step
  refine load18 (.tmp 5) _ M cM rfl rfl rfl ?_
  simp only [putA]
  have hV : ∀ o, o < 6 → u0.cell? ⟨w.heap.size + 1 + 1, o, none⟩ = some (.int .i64 (V o)) := cV
  refine wpList_plain rfl (fun K hK => ?_)
  go_big_op
  refine hK _ _ ?_
  clear hK K
  clear hV
  refine wpList_plain rfl (fun K hK => ?_)
  go_big_op
  with_reducible refine (AC _).mono ?_
  rintro e v1 ⟨rfl, hb⟩
  simp only []
  refine hK _ _ ?_
  clear hK K AC
  replace cM := cs_below cM hb (by omega)
  replace cN := cs_below cN hb (by omega)
  replace cV := cs_below cV hb (by omega)
  replace cT := cs_below cT hb (by omega)
  replace cq0 := cs_below cq0 hb (by omega)
  replace HBa := HBa.trans (hb.mono (by omega))
  replace zs := Nat.lt_of_lt_of_le zs hb.size
  clear hb
  go_upto_region 3 with fail
  refine opq (fun wx => Cs wx (w.heap.size) 18 M ∧ Cs wx (w.heap.size + 1) 18 N ∧ Cs wx (w.heap.size + 1 + 1) 6 V ∧ Cs wx (w.heap.size + 1 + 1 + 1) 2 (fr2 n d) ∧ Cs wx (q0) 6 A ∧ Cs wx v1.heap.size 6 A ∧ v1.heap.size < wx.heap.size ∧ Below w.heap.size w wx) ?_ ?_
  · exact ⟨kc, kc, kc, kc, kc, by (intro o ho; rcases (show o = 0 ∨ o = 1 ∨ o = 2 ∨ o = 3 ∨ o = 4 ∨ o = 5 by omega) with rfl | rfl | rfl | rfl | rfl | rfl <;> simp [fr2, go_sem]), by simp [World.setCell], kg⟩
  have y1 := zs
  clear cM cN cV cT cq0 HBa zs
  generalize hq1 : v1.heap.size = q1 at *
  clear hq1
  rintro u1 ⟨cM, cN, cV, cT, cq0, cq1, zs, HBa⟩
  have AC := K2.out
  go_step
  refine load18 (.tmp 5) _ M cM rfl rfl rfl ?_
  simp only [putA]
  refine load18 (.tmp 6) _ N cN rfl rfl rfl ?_
  simp only [putA]
  refine wpList_plain rfl (fun K hK => ?_)
  go_big_op
  with_reducible refine (AC _).mono ?_
  rintro e v2 ⟨rfl, hb⟩
  simp only []
  refine hK _ _ ?_
  clear hK K AC
  replace cM := cs_below cM hb (by omega)
  replace cN := cs_below cN hb (by omega)
  replace cV := cs_below cV hb (by omega)
  replace cT := cs_below cT hb (by omega)
  replace cq0 := cs_below cq0 hb (by omega)
  replace cq1 := cs_below cq1 hb (by omega)
  replace HBa := HBa.trans (hb.mono (by omega))
  replace zs := Nat.lt_of_lt_of_le zs hb.size
  clear hb
  refine wpList_plain rfl (fun K hK => ?_)
  go_big_op
  refine hK _ _ ?_
  clear hK K
  refine wpList_plain rfl (fun K hK => ?_)
  go_big_op
  refine hK _ _ ?_
  clear hK K
  refine wpList_plain rfl (fun K hK => ?_)
  go_big_op
  refine hK _ _ ?_
  clear hK K
  refine wpList_plain rfl (fun K hK => ?_)
  go_big_op
  refine hK _ _ ?_
  clear hK K
  refine store18 (.tmp 15) (.tmp 51) v2.heap.size P (fun _ => 0) (cs_new rfl arr0) (fs_new rfl) rfl rfl rfl rfl ?_
  intro u2 cq2 fR sX bX
  have hb := bX v2.heap.size v2 (Nat.le_refl _) (bal (b0 _) _)
  have zq2 : v2.heap.size < u2.heap.size := by rw [sX]; simp
  have y2 := zs
  replace cM := cs_below cM hb (by omega)
  replace cN := cs_below cN hb (by omega)
  replace cV := cs_below cV hb (by omega)
  replace cT := cs_below cT hb (by omega)
  replace cq0 := cs_below cq0 hb (by omega)
  replace cq1 := cs_below cq1 hb (by omega)
  replace HBa := HBa.trans (hb.mono (by omega))
  replace zs := Nat.lt_of_lt_of_le zs hb.size
  replace zs := zq2
  clear zq2 hb bX sX fR
  generalize hq2 : v2.heap.size = q2 at *
  clear hq2
  go_upto_region 4 with fail
  have AC := K3.out
  go_step
  refine load18 (.tmp 5) _ M cM rfl rfl rfl ?_
  simp only [putA]
  refine load18 (.tmp 6) _ N cN rfl rfl rfl ?_
  simp only [putA]
  refine wpList_plain rfl (fun K hK => ?_)
  go_big_op
  with_reducible refine (AC _).mono ?_
  rintro e v3 ⟨rfl, hb⟩
  simp only []
  refine hK _ _ ?_
  clear hK K AC
  replace cM := cs_below cM hb (by omega)
  replace cN := cs_below cN hb (by omega)
  replace cV := cs_below cV hb (by omega)
  replace cT := cs_below cT hb (by omega)
  replace cq0 := cs_below cq0 hb (by omega)
  replace cq1 := cs_below cq1 hb (by omega)
  replace cq2 := cs_below cq2 hb (by omega)
  replace HBa := HBa.trans (hb.mono (by omega))
  replace zs := Nat.lt_of_lt_of_le zs hb.size
  clear hb
  refine wpList_plain rfl (fun K hK => ?_)
  go_big_op
  refine hK _ _ ?_
  clear hK K
  refine wpList_plain rfl (fun K hK => ?_)
  go_big_op
  refine hK _ _ ?_
  clear hK K
  refine wpList_plain rfl (fun K hK => ?_)
  go_big_op
  refine hK _ _ ?_
  clear hK K
  refine wpList_plain rfl (fun K hK => ?_)
  go_big_op
  refine hK _ _ ?_
  clear hK K
  refine store18 (.tmp 17) (.tmp 57) v3.heap.size P (fun _ => 0) (cs_new rfl arr0) (fs_new rfl) rfl rfl rfl rfl ?_
  intro u3 cq3 fR sX bX
  have hb := bX v3.heap.size v3 (Nat.le_refl _) (bal (b0 _) _)
  have zq3 : v3.heap.size < u3.heap.size := by rw [sX]; simp
  have y3 := zs
  replace cM := cs_below cM hb (by omega)
  replace cN := cs_below cN hb (by omega)
  replace cV := cs_below cV hb (by omega)
  replace cT := cs_below cT hb (by omega)
  replace cq0 := cs_below cq0 hb (by omega)
  replace cq1 := cs_below cq1 hb (by omega)
  replace cq2 := cs_below cq2 hb (by omega)
  replace HBa := HBa.trans (hb.mono (by omega))
  replace zs := Nat.lt_of_lt_of_le zs hb.size
  replace zs := zq3
  clear zq3 hb bX sX fR
  generalize hq3 : v3.heap.size = q3 at *
  clear hq3
  go_upto_region 5 with fail
  have AC := K4.out
  go_step
  refine load18 (.tmp 5) _ M cM rfl rfl rfl ?_
  simp only [putA]
  refine wpList_plain rfl (fun K hK => ?_)
  go_big_op
  with_reducible refine (AC _).mono ?_
  rintro e v4 ⟨rfl, hb⟩
  simp only []
  refine hK _ _ ?_
  clear hK K AC
  replace cM := cs_below cM hb (by omega)
  replace cN := cs_below cN hb (by omega)
  replace cV := cs_below cV hb (by omega)
  replace cT := cs_below cT hb (by omega)
  replace cq0 := cs_below cq0 hb (by omega)
  replace cq1 := cs_below cq1 hb (by omega)
  replace cq2 := cs_below cq2 hb (by omega)
  replace cq3 := cs_below cq3 hb (by omega)
  replace HBa := HBa.trans (hb.mono (by omega))
  replace zs := Nat.lt_of_lt_of_le zs hb.size
  clear hb
  refine wpList_plain rfl (fun K hK => ?_)
  go_big_op
  refine hK _ _ ?_
  clear hK K
  refine wpList_plain rfl (fun K hK => ?_)
  go_big_op
  refine hK _ _ ?_
  clear hK K
  refine wpList_plain rfl (fun K hK => ?_)
  go_big_op
  refine hK _ _ ?_
  clear hK K
  refine wpList_plain rfl (fun K hK => ?_)
  go_big_op
  refine hK _ _ ?_
  clear hK K
  refine store18 (.tmp 19) (.tmp 62) v4.heap.size F (fun _ => 0) (cs_new rfl arr0) (fs_new rfl) rfl rfl rfl rfl ?_
  intro u4 cq4 fR sX bX
  have hb := bX v4.heap.size v4 (Nat.le_refl _) (bal (b0 _) _)
  have zq4 : v4.heap.size < u4.heap.size := by rw [sX]; simp
  have y4 := zs
  replace cM := cs_below cM hb (by omega)
  replace cN := cs_below cN hb (by omega)
  replace cV := cs_below cV hb (by omega)
  replace cT := cs_below cT hb (by omega)
  replace cq0 := cs_below cq0 hb (by omega)
  replace cq1 := cs_below cq1 hb (by omega)
  replace cq2 := cs_below cq2 hb (by omega)
  replace cq3 := cs_below cq3 hb (by omega)
  replace HBa := HBa.trans (hb.mono (by omega))
  replace zs := Nat.lt_of_lt_of_le zs hb.size
  replace zs := zq4
  clear zq4 hb bX sX fR
  generalize hq4 : v4.heap.size = q4 at *
  clear hq4
  go_upto_region 6 with fail
  have AC := K5.out
  go_step
  refine load18 (.tmp 5) _ M cM rfl rfl rfl ?_
  simp only [putA]
  refine wpList_plain rfl (fun K hK => ?_)
  go_big_op
  with_reducible refine (AC _).mono ?_
  rintro e v5 ⟨rfl, hb⟩
  simp only []
  refine hK _ _ ?_
  clear hK K AC
  replace cM := cs_below cM hb (by omega)
  replace cN := cs_below cN hb (by omega)
  replace cV := cs_below cV hb (by omega)
  replace cT := cs_below cT hb (by omega)
  replace cq0 := cs_below cq0 hb (by omega)
  replace cq1 := cs_below cq1 hb (by omega)
  replace cq2 := cs_below cq2 hb (by omega)
  replace cq3 := cs_below cq3 hb (by omega)
  replace cq4 := cs_below cq4 hb (by omega)
  replace HBa := HBa.trans (hb.mono (by omega))
  replace zs := Nat.lt_of_lt_of_le zs hb.size
  clear hb
  refine wpList_plain rfl (fun K hK => ?_)
  go_big_op
  refine hK _ _ ?_
  clear hK K
  refine wpList_plain rfl (fun K hK => ?_)
  go_big_op
  refine hK _ _ ?_
  clear hK K
  refine wpList_plain rfl (fun K hK => ?_)
  go_big_op
  refine hK _ _ ?_
  clear hK K
  refine wpList_plain rfl (fun K hK => ?_)
  go_big_op
  refine hK _ _ ?_
  clear hK K
  refine store18 (.tmp 21) (.tmp 67) v5.heap.size F (fun _ => 0) (cs_new rfl arr0) (fs_new rfl) rfl rfl rfl rfl ?_
  intro u5 cq5 fR sX bX
  have hb := bX v5.heap.size v5 (Nat.le_refl _) (bal (b0 _) _)
  have zq5 : v5.heap.size < u5.heap.size := by rw [sX]; simp
  have y5 := zs
  replace cM := cs_below cM hb (by omega)
  replace cN := cs_below cN hb (by omega)
  replace cV := cs_below cV hb (by omega)
  replace cT := cs_below cT hb (by omega)
  replace cq0 := cs_below cq0 hb (by omega)
  replace cq1 := cs_below cq1 hb (by omega)
  replace cq2 := cs_below cq2 hb (by omega)
  replace cq3 := cs_below cq3 hb (by omega)
  replace cq4 := cs_below cq4 hb (by omega)
  replace HBa := HBa.trans (hb.mono (by omega))
  replace zs := Nat.lt_of_lt_of_le zs hb.size
  replace zs := zq5
  clear zq5 hb bX sX fR
  generalize hq5 : v5.heap.size = q5 at *
  clear hq5
  go_upto_region 7 with fail
  have AC := K6.out
  go_step
  refine load18 (.tmp 5) _ M cM rfl rfl rfl ?_
  simp only [putA]
  refine wpList_plain rfl (fun K hK => ?_)
  go_big_op
  with_reducible refine (AC _).mono ?_
  rintro e v6 ⟨rfl, hb⟩
  simp only []
  refine hK _ _ ?_
  clear hK K AC
  replace cM := cs_below cM hb (by omega)
  replace cN := cs_below cN hb (by omega)
  replace cV := cs_below cV hb (by omega)
  replace cT := cs_below cT hb (by omega)
  replace cq0 := cs_below cq0 hb (by omega)
  replace cq1 := cs_below cq1 hb (by omega)
  replace cq2 := cs_below cq2 hb (by omega)
  replace cq3 := cs_below cq3 hb (by omega)
  replace cq4 := cs_below cq4 hb (by omega)
  replace cq5 := cs_below cq5 hb (by omega)
  replace HBa := HBa.trans (hb.mono (by omega))
  replace zs := Nat.lt_of_lt_of_le zs hb.size
  clear hb
  go_upto_region 8 with fail
  refine opq (fun wx => Cs wx (w.heap.size) 18 M ∧ Cs wx (w.heap.size + 1) 18 N ∧ Cs wx (w.heap.size + 1 + 1) 6 V ∧ Cs wx (w.heap.size + 1 + 1 + 1) 2 (fr2 n d) ∧ Cs wx (q0) 6 A ∧ Cs wx (q1) 6 A ∧ Cs wx (q2) 18 P ∧ Cs wx (q3) 18 P ∧ Cs wx (q4) 18 F ∧ Cs wx (q5) 18 F ∧ Cs wx v6.heap.size 2 (fr2 d1 d2) ∧ v6.heap.size < wx.heap.size ∧ Below w.heap.size w wx) ?_ ?_
  · exact ⟨kc, kc, kc, kc, kc, kc, kc, kc, kc, kc, by (intro o ho; rcases (show o = 0 ∨ o = 1 by omega) with rfl | rfl <;> simp [fr2, go_sem]), by simp [World.setCell], kg⟩
  have y6 := zs
  clear cM cN cV cT cq0 cq1 cq2 cq3 cq4 cq5 HBa zs
  generalize hq6 : v6.heap.size = q6 at *
  clear hq6
  rintro u6 ⟨cM, cN, cV, cT, cq0, cq1, cq2, cq3, cq4, cq5, cq6, zs, HBa⟩
  have AC := K7.out
  go_step
  refine load18 (.tmp 5) _ M cM rfl rfl rfl ?_
  simp only [putA]
  refine wpList_plain rfl (fun K hK => ?_)
  go_big_op
  with_reducible refine (AC _).mono ?_
  rintro e v7 ⟨rfl, hb⟩
  simp only []
  refine hK _ _ ?_
  clear hK K AC
  replace cM := cs_below cM hb (by omega)
  replace cN := cs_below cN hb (by omega)
  replace cV := cs_below cV hb (by omega)
  replace cT := cs_below cT hb (by omega)
  replace cq0 := cs_below cq0 hb (by omega)
  replace cq1 := cs_below cq1 hb (by omega)
  replace cq2 := cs_below cq2 hb (by omega)
  replace cq3 := cs_below cq3 hb (by omega)
  replace cq4 := cs_below cq4 hb (by omega)
  replace cq5 := cs_below cq5 hb (by omega)
  replace cq6 := cs_below cq6 hb (by omega)
  replace HBa := HBa.trans (hb.mono (by omega))
  replace zs := Nat.lt_of_lt_of_le zs hb.size
  clear hb
  go_upto_region 9 with fail
  refine opq (fun wx => Cs wx (w.heap.size) 18 M ∧ Cs wx (w.heap.size + 1) 18 N ∧ Cs wx (w.heap.size + 1 + 1) 6 V ∧ Cs wx (w.heap.size + 1 + 1 + 1) 2 (fr2 n d) ∧ Cs wx (q0) 6 A ∧ Cs wx (q1) 6 A ∧ Cs wx (q2) 18 P ∧ Cs wx (q3) 18 P ∧ Cs wx (q4) 18 F ∧ Cs wx (q5) 18 F ∧ Cs wx (q6) 2 (fr2 d1 d2) ∧ Cs wx v7.heap.size 2 (fr2 d1 d2) ∧ v7.heap.size < wx.heap.size ∧ Below w.heap.size w wx) ?_ ?_
  · exact ⟨kc, kc, kc, kc, kc, kc, kc, kc, kc, kc, kc, by (intro o ho; rcases (show o = 0 ∨ o = 1 by omega) with rfl | rfl <;> simp [fr2, go_sem]), by simp [World.setCell], kg⟩
  have y7 := zs
  clear cM cN cV cT cq0 cq1 cq2 cq3 cq4 cq5 cq6 HBa zs
  generalize hq7 : v7.heap.size = q7 at *
  clear hq7
  rintro u7 ⟨cM, cN, cV, cT, cq0, cq1, cq2, cq3, cq4, cq5, cq6, cq7, zs, HBa⟩
  have AC := K8.out
  go_step
  have hT : ∀ o, o < 2 → u7.cell? ⟨w.heap.size + 1 + 1 + 1, o, none⟩ = some (.int .i64 (fr2 n d o)) := cT
  have e0 : fr2 n d 0 = n := rfl
  have e1 : fr2 n d 1 = d := rfl
  refine wpList_plain rfl (fun K hK => ?_)
  go_big_op
  refine hK _ _ ?_
  clear hK K
  refine wpList_plain rfl (fun K hK => ?_)
  go_big_op
  refine hK _ _ ?_
  clear hK K
  clear hT e0 e1
  refine wpList_plain rfl (fun K hK => ?_)
  go_big_op
  with_reducible refine (AC _).mono ?_
  rintro e v8 ⟨rfl, hb⟩
  simp only []
  refine hK _ _ ?_
  clear hK K AC
  replace cM := cs_below cM hb (by omega)
  replace cN := cs_below cN hb (by omega)
  replace cV := cs_below cV hb (by omega)
  replace cT := cs_below cT hb (by omega)
  replace cq0 := cs_below cq0 hb (by omega)
  replace cq1 := cs_below cq1 hb (by omega)
  replace cq2 := cs_below cq2 hb (by omega)
  replace cq3 := cs_below cq3 hb (by omega)
  replace cq4 := cs_below cq4 hb (by omega)
  replace cq5 := cs_below cq5 hb (by omega)
  replace cq6 := cs_below cq6 hb (by omega)
  replace cq7 := cs_below cq7 hb (by omega)
  replace HBa := HBa.trans (hb.mono (by omega))
  replace zs := Nat.lt_of_lt_of_le zs hb.size
  clear hb
  refine wpList_plain rfl (fun K hK => ?_)
  go_big_op
  refine hK _ _ ?_
  clear hK K
  refine wpList_plain rfl (fun K hK => ?_)
  go_big_op
  refine hK _ _ ?_
  clear hK K
  refine wpList_plain rfl (fun K hK => ?_)
  go_big_op
  refine hK _ _ ?_
  clear hK K
  refine wpList_plain rfl (fun K hK => ?_)
  go_big_op
  refine hK _ _ ?_
  clear hK K
  refine store18 (.tmp 27) (.tmp 83) v8.heap.size T (fun _ => 0) (cs_new rfl arr0) (fs_new rfl) rfl rfl rfl rfl ?_
  intro u8 cq8 fR sX bX
  have hb := bX v8.heap.size v8 (Nat.le_refl _) (bal (b0 _) _)
  have zq8 : v8.heap.size < u8.heap.size := by rw [sX]; simp
  have y8 := zs
  replace cM := cs_below cM hb (by omega)
  replace cN := cs_below cN hb (by omega)
  replace cV := cs_below cV hb (by omega)
  replace cT := cs_below cT hb (by omega)
  replace cq0 := cs_below cq0 hb (by omega)
  replace cq1 := cs_below cq1 hb (by omega)
  replace cq2 := cs_below cq2 hb (by omega)
  replace cq3 := cs_below cq3 hb (by omega)
  replace cq4 := cs_below cq4 hb (by omega)
  replace cq5 := cs_below cq5 hb (by omega)
  replace cq6 := cs_below cq6 hb (by omega)
  replace cq7 := cs_below cq7 hb (by omega)
  replace HBa := HBa.trans (hb.mono (by omega))
  replace zs := Nat.lt_of_lt_of_le zs hb.size
  replace zs := zq8
  clear zq8 hb bX sX fR
  generalize hq8 : v8.heap.size = q8 at *
  clear hq8
  go_upto_region 10 with fail
  have AC := K9.out
  go_step
  have hT : ∀ o, o < 2 → u8.cell? ⟨w.heap.size + 1 + 1 + 1, o, none⟩ = some (.int .i64 (fr2 n d o)) := cT
  have e0 : fr2 n d 0 = n := rfl
  have e1 : fr2 n d 1 = d := rfl
  refine wpList_plain rfl (fun K hK => ?_)
  go_big_op
  refine hK _ _ ?_
  clear hK K
  refine wpList_plain rfl (fun K hK => ?_)
  go_big_op
  refine hK _ _ ?_
  clear hK K
  clear hT e0 e1
  refine wpList_plain rfl (fun K hK => ?_)
  go_big_op
  with_reducible refine (AC _).mono ?_
  rintro e v9 ⟨rfl, hb⟩
  simp only []
  refine hK _ _ ?_
  clear hK K AC
  replace cM := cs_below cM hb (by omega)
  replace cN := cs_below cN hb (by omega)
  replace cV := cs_below cV hb (by omega)
  replace cT := cs_below cT hb (by omega)
  replace cq0 := cs_below cq0 hb (by omega)
  replace cq1 := cs_below cq1 hb (by omega)
  replace cq2 := cs_below cq2 hb (by omega)
  replace cq3 := cs_below cq3 hb (by omega)
  replace cq4 := cs_below cq4 hb (by omega)
  replace cq5 := cs_below cq5 hb (by omega)
  replace cq6 := cs_below cq6 hb (by omega)
  replace cq7 := cs_below cq7 hb (by omega)
  replace cq8 := cs_below cq8 hb (by omega)
  replace HBa := HBa.trans (hb.mono (by omega))
  replace zs := Nat.lt_of_lt_of_le zs hb.size
  clear hb
  refine wpList_plain rfl (fun K hK => ?_)
  go_big_op
  refine hK _ _ ?_
  clear hK K
  refine wpList_plain rfl (fun K hK => ?_)
  go_big_op
  refine hK _ _ ?_
  clear hK K
  refine wpList_plain rfl (fun K hK => ?_)
  go_big_op
  refine hK _ _ ?_
  clear hK K
  refine wpList_plain rfl (fun K hK => ?_)
  go_big_op
  refine hK _ _ ?_
  clear hK K
  refine store18 (.tmp 29) (.tmp 89) v9.heap.size T (fun _ => 0) (cs_new rfl arr0) (fs_new rfl) rfl rfl rfl rfl ?_
  intro u9 cq9 fR sX bX
  have hb := bX v9.heap.size v9 (Nat.le_refl _) (bal (b0 _) _)
  have zq9 : v9.heap.size < u9.heap.size := by rw [sX]; simp
  have y9 := zs
  replace cM := cs_below cM hb (by omega)
  replace cN := cs_below cN hb (by omega)
  replace cV := cs_below cV hb (by omega)
  replace cT := cs_below cT hb (by omega)
  replace cq0 := cs_below cq0 hb (by omega)
  replace cq1 := cs_below cq1 hb (by omega)
  replace cq2 := cs_below cq2 hb (by omega)
  replace cq3 := cs_below cq3 hb (by omega)
  replace cq4 := cs_below cq4 hb (by omega)
  replace cq5 := cs_below cq5 hb (by omega)
  replace cq6 := cs_below cq6 hb (by omega)
  replace cq7 := cs_below cq7 hb (by omega)
  replace cq8 := cs_below cq8 hb (by omega)
  replace HBa := HBa.trans (hb.mono (by omega))
  replace zs := Nat.lt_of_lt_of_le zs hb.size
  replace zs := zq9
  clear zq9 hb bX sX fR
  generalize hq9 : v9.heap.size = q9 at *
  clear hq9
  go_upto_region 11 with fail
  have AC := K10.out
  go_step
  refine load18 (.tmp 5) _ M cM rfl rfl rfl ?_
  simp only [putA]
  refine wpList_plain rfl (fun K hK => ?_)
  go_big_op
  with_reducible refine (AC _).mono ?_
  rintro e v10 ⟨rfl, hb⟩
  simp only []
  refine hK _ _ ?_
  clear hK K AC
  replace cM := cs_below cM hb (by omega)
  replace cN := cs_below cN hb (by omega)
  replace cV := cs_below cV hb (by omega)
  replace cT := cs_below cT hb (by omega)
  replace cq0 := cs_below cq0 hb (by omega)
  replace cq1 := cs_below cq1 hb (by omega)
  replace cq2 := cs_below cq2 hb (by omega)
  replace cq3 := cs_below cq3 hb (by omega)
  replace cq4 := cs_below cq4 hb (by omega)
  replace cq5 := cs_below cq5 hb (by omega)
  replace cq6 := cs_below cq6 hb (by omega)
  replace cq7 := cs_below cq7 hb (by omega)
  replace cq8 := cs_below cq8 hb (by omega)
  replace cq9 := cs_below cq9 hb (by omega)
  replace HBa := HBa.trans (hb.mono (by omega))
  replace zs := Nat.lt_of_lt_of_le zs hb.size
  clear hb
  go_upto_region 12 with fail
  have AC := K11.out
  go_step
  refine load18 (.tmp 5) _ M cM rfl rfl rfl ?_
  simp only [putA]
  refine wpList_plain rfl (fun K hK => ?_)
  go_big_op
  with_reducible refine (AC _).mono ?_
  rintro e v11 ⟨rfl, hb⟩
  simp only []
  refine hK _ _ ?_
  clear hK K AC
  replace cM := cs_below cM hb (by omega)
  replace cN := cs_below cN hb (by omega)
  replace cV := cs_below cV hb (by omega)
  replace cT := cs_below cT hb (by omega)
  replace cq0 := cs_below cq0 hb (by omega)
  replace cq1 := cs_below cq1 hb (by omega)
  replace cq2 := cs_below cq2 hb (by omega)
  replace cq3 := cs_below cq3 hb (by omega)
  replace cq4 := cs_below cq4 hb (by omega)
  replace cq5 := cs_below cq5 hb (by omega)
  replace cq6 := cs_below cq6 hb (by omega)
  replace cq7 := cs_below cq7 hb (by omega)
  replace cq8 := cs_below cq8 hb (by omega)
  replace cq9 := cs_below cq9 hb (by omega)
  replace HBa := HBa.trans (hb.mono (by omega))
  replace zs := Nat.lt_of_lt_of_le zs hb.size
  clear hb
  go_upto_region 13 with fail
  clear cM
  clear cN
  clear cV
  clear cT
  have MEP := fun w => mat_eq P P w
  rw [matB_same] at MEP
  have MEF := fun w => mat_eq F F w
  rw [matB_same] at MEF
  have MET := fun w => mat_eq T T w
  rw [matB_same] at MET
  have hq0 : ∀ o, o < 6 → v11.cell? ⟨q0, o, none⟩ = some (.int .i64 (A o)) := cq0
  have hq1 : ∀ o, o < 6 → v11.cell? ⟨q1, o, none⟩ = some (.int .i64 (A o)) := cq1
  have hq6 : ∀ o, o < 2 → v11.cell? ⟨q6, o, none⟩ = some (.int .i64 ((fr2 d1 d2) o)) := cq6
  have hq7 : ∀ o, o < 2 → v11.cell? ⟨q7, o, none⟩ = some (.int .i64 ((fr2 d1 d2) o)) := cq7
  have e0 : fr2 d1 d2 0 = d1 := rfl
  have e1 : fr2 d1 d2 1 = d2 := rfl
  go_step
  refine plaing (by kernel_rfl) (fun K hK => ?_)
  go_big_op
  refine hK _ _ ?_
  clear hK K
  refine plaing (by kernel_rfl) (fun K hK => ?_)
  go_big_op
  refine hK _ _ ?_
  clear hK K
  refine plaing (by kernel_rfl) (fun K hK => ?_)
  go_big_op
  refine hK _ _ ?_
  clear hK K
  refine plaing (by kernel_rfl) (fun K hK => ?_)
  go_big_op
  refine hK _ _ ?_
  clear hK K
  refine plaing (by kernel_rfl) (fun K hK => ?_)
  go_big_op
  refine hK _ _ ?_
  clear hK K
  refine plaing (by kernel_rfl) (fun K hK => ?_)
  go_big_op
  refine hK _ _ ?_
  clear hK K
  refine plaing (by kernel_rfl) (fun K hK => ?_)
  go_big_op
  refine hK _ _ ?_
  clear hK K
  refine plaing (by kernel_rfl) (fun K hK => ?_)
  go_big_op
  refine hK _ _ ?_
  clear hK K
  refine plaing (by kernel_rfl) (fun K hK => ?_)
  go_big_op
  refine hK _ _ ?_
  clear hK K
  refine load18g (.tmp 15) _ _ cq2 (by kernel_rfl) rfl rfl ?_
  simp only [putA]
  refine load18g (.tmp 17) _ _ cq3 (by kernel_rfl) rfl rfl ?_
  simp only [putA]
  refine plaing (by kernel_rfl) (fun K hK => ?_)
  go_big_op
  refine hK _ _ ?_
  clear hK K
  refine plaing (by kernel_rfl) (fun K hK => ?_)
  go_big_op
  refine hK _ _ ?_
  clear hK K
  refine plaing (by kernel_rfl) (fun K hK => ?_)
  go_big_op
  refine hK _ _ ?_
  clear hK K
  refine plaing (by kernel_rfl) (fun K hK => ?_)
  go_big_op
  refine hK _ _ ?_
  clear hK K
  refine plaing (by kernel_rfl) (fun K hK => ?_)
  go_big_op
  refine hK _ _ ?_
  clear hK K
  refine plaing (by kernel_rfl) (fun K hK => ?_)
  go_big_op
  refine hK _ _ ?_
  clear hK K
  refine plaing (by kernel_rfl) (fun K hK => ?_)
  go_big_op
  refine hK _ _ ?_
  clear hK K
  refine plaing (by kernel_rfl) (fun K hK => ?_)
  go_big_op
  refine hK _ _ ?_
  clear hK K
  refine load18g (.tmp 19) _ _ cq4 (by kernel_rfl) rfl rfl ?_
  simp only [putA]
  refine load18g (.tmp 21) _ _ cq5 (by kernel_rfl) rfl rfl ?_
  simp only [putA]
  refine plaing (by kernel_rfl) (fun K hK => ?_)
  go_big_op
  refine hK _ _ ?_
  clear hK K
  refine plaing (by kernel_rfl) (fun K hK => ?_)
  go_big_op
  refine hK _ _ ?_
  clear hK K
  refine plaing (by kernel_rfl) (fun K hK => ?_)
  go_big_op
  refine hK _ _ ?_
  clear hK K
  refine plaing (by kernel_rfl) (fun K hK => ?_)
  go_big_op
  refine hK _ _ ?_
  clear hK K
  refine plaing (by kernel_rfl) (fun K hK => ?_)
  go_big_op
  refine hK _ _ ?_
  clear hK K
  refine plaing (by kernel_rfl) (fun K hK => ?_)
  go_big_op
  refine hK _ _ ?_
  clear hK K
  refine plaing (by kernel_rfl) (fun K hK => ?_)
  go_big_op
  refine hK _ _ ?_
  clear hK K
  refine plaing (by kernel_rfl) (fun K hK => ?_)
  go_big_op
  refine hK _ _ ?_
  clear hK K
  refine plaing (by kernel_rfl) (fun K hK => ?_)
  go_big_op
  refine hK _ _ ?_
  clear hK K
  refine plaing (by kernel_rfl) (fun K hK => ?_)
  go_big_op
  refine hK _ _ ?_
  clear hK K
  refine plaing (by kernel_rfl) (fun K hK => ?_)
  go_big_op
  refine hK _ _ ?_
  clear hK K
  refine plaing (by kernel_rfl) (fun K hK => ?_)
  go_big_op
  refine hK _ _ ?_
  clear hK K
  refine plaing (by kernel_rfl) (fun K hK => ?_)
  go_big_op
  refine hK _ _ ?_
  clear hK K
  refine plaing (by kernel_rfl) (fun K hK => ?_)
  go_big_op
  refine hK _ _ ?_
  clear hK K
  refine plaing (by kernel_rfl) (fun K hK => ?_)
  go_big_op
  refine hK _ _ ?_
  clear hK K
  refine plaing (by kernel_rfl) (fun K hK => ?_)
  go_big_op
  refine hK _ _ ?_
  clear hK K
  refine plaing (by kernel_rfl) (fun K hK => ?_)
  go_big_op
  refine hK _ _ ?_
  clear hK K
  refine plaing (by kernel_rfl) (fun K hK => ?_)
  go_big_op
  refine hK _ _ ?_
  clear hK K
  refine load18g (.tmp 27) _ _ cq8 (by kernel_rfl) rfl rfl ?_
  simp only [putA]
  refine load18g (.tmp 29) _ _ cq9 (by kernel_rfl) rfl rfl ?_
  simp only [putA]
  refine plaing (by kernel_rfl) (fun K hK => ?_)
  go_big_op
  refine hK _ _ ?_
  clear hK K
  refine plaing (by kernel_rfl) (fun K hK => ?_)
  go_big_op
  refine hK _ _ ?_
  clear hK K
  refine plaing (by kernel_rfl) (fun K hK => ?_)
  go_big_op
  refine hK _ _ ?_
  clear hK K
  refine plaing (by kernel_rfl) (fun K hK => ?_)
  go_big_op
  refine hK _ _ ?_
  clear hK K
  refine plaing (by kernel_rfl) (fun K hK => ?_)
  go_big_op
  refine hK _ _ ?_
  clear hK K
  refine plaing (by kernel_rfl) (fun K hK => ?_)
  go_big_op
  refine hK _ _ ?_
  clear hK K
  refine plaing (by kernel_rfl) (fun K hK => ?_)
  go_big_op
  refine hK _ _ ?_
  clear hK K
  refine plaing (by kernel_rfl) (fun K hK => ?_)
  go_big_op
  refine hK _ _ ?_
  clear hK K
  refine plaing (by kernel_rfl) (fun K hK => ?_)
  go_big_op
  refine hK _ _ ?_
  clear hK K
  refine plaing (by kernel_rfl) (fun K hK => ?_)
  go_big_op
  refine hK _ _ ?_
  clear hK K
  refine plaing (by kernel_rfl) (fun K hK => ?_)
  go_big_op
  refine hK _ _ ?_
  clear hK K
  refine plaing (by kernel_rfl) (fun K hK => ?_)
  go_big_op
  refine hK _ _ ?_
  clear hK K
  refine plaing (by kernel_rfl) (fun K hK => ?_)
  go_big_op
  refine hK _ _ ?_
  clear hK K
  refine plaing (by kernel_rfl) (fun K hK => ?_)
  go_big_op
  refine hK _ _ ?_
  clear hK K
  refine plaing (by kernel_rfl) (fun K hK => ?_)
  go_big_op
  refine hK _ _ ?_
  clear hK K
  refine plaing (by kernel_rfl) (fun K hK => ?_)
  go_big_op
  refine hK _ _ ?_
  clear hK K
  refine plaing (by kernel_rfl) (fun K hK => ?_)
  go_big_op
  refine hK _ _ ?_
  clear hK K
  refine plaing (by kernel_rfl) (fun K hK => ?_)
  go_big_op
  refine hK _ _ ?_
  clear hK K
  go_wp2_with fail
  go_ret
  exact ⟨rfl, kb⟩
end Go.Proofs.Ytlijkebdaalldaa
namespace Go.Proofs.Ytlijkebdaalldaa
open Go.ChangeShapes Go.WideShapes Go.ChangeAt Go.RowKit Go.Joins Go.Deep
set_option linter.unusedVariables false
set_option linter.unusedSimpArgs false

theorem cellsFr : Try.prog.cellsOf 23 = 2 := by kernel_rfl
theorem cellsVe : Try.prog.cellsOf 32 = 6 := by kernel_rfl
theorem array6 {α : Type} {cs : Array α} (h : cs.size = 6) : ∃ c0 c1 c2 c3 c4 c5, cs = #[c0, c1, c2, c3, c4, c5] := by
  obtain ⟨l⟩ := cs
  match l, h with
  | [c0, c1, c2, c3, c4, c5], _ => exact ⟨c0, c1, c2, c3, c4, c5, rfl⟩

section
variable {H : Type} {enc : TypeId × Value → H} {w : World} {base : Nat} {sp : Nat → Bool} {held : Bool}
def fracD (a b : Int) : DataW H := .agg [.lit (.int .i64 a), .lit (.int .i64 b)]
set_option maxRecDepth 100000 in
theorem frac_opened {n : Nat} {v0 v1 : Value} {y : DataW H × List MemPlace} (h : DataW.trod enc Try.prog w base sp held n 23 [v0, v1] = some y) :
    ∃ a b : Int, v0 = .int .i64 a ∧ v1 = .int .i64 b ∧ y = (fracD a b, []) ∧ (Lit.int .i64 a).wf = true ∧ (Lit.int .i64 b).wf = true := by
  obtain ⟨y0, y1, m, hx, _, h0, h1⟩ := trod_struct2 Try.underlying23 h
  have c1 : Try.prog.cellsOf 2 = 1 := by kernel_rfl
  have k0 : DataW.trod enc Try.prog w base sp held m 2 [v0] = some y0 := by simpa [c1] using h0
  have k1 : DataW.trod enc Try.prog w base sp held m 2 [v1] = some y1 := by simpa [c1] using h1
  obtain ⟨a, e0, u0, wa⟩ := DataW.trod_int Try.underlying2 k0
  obtain ⟨b, e1, u1, wb⟩ := DataW.trod_int Try.underlying2 k1
  simp at e0 e1
  subst e0 e1 u0 u1
  exact ⟨a, b, rfl, rfl, by rw [hx]; rfl, wa, wb⟩
theorem frac_shut (a b : Int) (wa : (Lit.int .i64 a).wf = true) (wb : (Lit.int .i64 b).wf = true) :
    ∃ n, DataW.trod enc Try.prog w base sp held n 23 [.int .i64 a, .int .i64 b] = some (fracD a b, []) := by
  obtain ⟨n, h⟩ := shut_agg2 (enc := enc) (w := w) (base := base) (spare := sp) (held := held) (v0 := .int .i64 a) (v1 := .int .i64 b) (y0 := (.lit (.int .i64 a), [])) (y1 := (.lit (.int .i64 b), [])) Try.underlying23 (by kernel_rfl) cellsFr ⟨1, by simp [DataW.trod, Try.underlying2, wa]⟩ ⟨1, by simp [DataW.trod, Try.underlying2, wb]⟩
  exact ⟨n, h⟩
set_option maxRecDepth 100000 in
theorem vec_opened {b0 : Nat} {v : Value} {d : DataW H} {p : List MemPlace} (hv : Value.okWide Try.prog w .any b0 32 v) (h : DataW.Trod enc Try.prog w base sp held 32 v d p) :
    ∃ a b c d' e f : Int, v = .agg #[.int .i64 a, .int .i64 b, .int .i64 c, .int .i64 (d'), .int .i64 e, .int .i64 f] ∧ d = .agg [fracD a b, fracD c d', fracD e f] ∧ p = [] ∧ ((Lit.int .i64 a).wf = true ∧ (Lit.int .i64 b).wf = true) ∧ ((Lit.int .i64 c).wf = true ∧ (Lit.int .i64 d').wf = true) ∧ ((Lit.int .i64 e).wf = true ∧ (Lit.int .i64 f).wf = true) := by
  obtain ⟨cs, rfl, hsz⟩ := okWide_struct Try.underlying32 hv
  obtain ⟨c0, c1, c2, c3, c4, c5, rfl⟩ := array6 (hsz.trans cellsVe)
  obtain ⟨fuel, hf⟩ := h
  obtain ⟨y0, y1, y2, n, hx, _, h0, h1, h2⟩ := trod_struct3 Try.underlying32 hf
  have k0 : DataW.trod enc Try.prog w base sp held n 23 [c0, c1] = some y0 := by simpa [Value.cells, cellsFr] using h0
  have k1 : DataW.trod enc Try.prog w base sp held n 23 [c2, c3] = some y1 := by simpa [Value.cells, cellsFr] using h1
  have k2 : DataW.trod enc Try.prog w base sp held n 23 [c4, c5] = some y2 := by simpa [Value.cells, cellsFr] using h2
  obtain ⟨a, b, rfl, rfl, rfl, wa, wb⟩ := frac_opened k0
  obtain ⟨c, d', rfl, rfl, rfl, wc, wd⟩ := frac_opened k1
  obtain ⟨e, f, rfl, rfl, rfl, we, wf⟩ := frac_opened k2
  simp only [Prod.mk.injEq] at hx
  exact ⟨a, b, c, d', e, f, rfl, hx.1, by simpa using hx.2, ⟨wa, wb⟩, ⟨wc, wd⟩, ⟨we, wf⟩⟩
set_option maxRecDepth 100000 in
theorem vec_shut (a b c d e f : Int) (h1 : (Lit.int .i64 a).wf = true ∧ (Lit.int .i64 b).wf = true) (h2 : (Lit.int .i64 c).wf = true ∧ (Lit.int .i64 d).wf = true) (h3 : (Lit.int .i64 e).wf = true ∧ (Lit.int .i64 f).wf = true) :
    DataW.Trod enc Try.prog w base sp held 32 (.agg #[.int .i64 a, .int .i64 b, .int .i64 c, .int .i64 d, .int .i64 e, .int .i64 f]) (.agg [fracD a b, fracD c d, fracD e f]) [] := by
  obtain ⟨n0, t0⟩ := frac_shut (enc := enc) (w := w) (base := base) (sp := sp) (held := held) a b h1.1 h1.2
  obtain ⟨n1, t1⟩ := frac_shut (enc := enc) (w := w) (base := base) (sp := sp) (held := held) c d h2.1 h2.2
  obtain ⟨n2, t2⟩ := frac_shut (enc := enc) (w := w) (base := base) (sp := sp) (held := held) e f h3.1 h3.2
  have ts := trod_struct3_mk (enc := enc) (w := w) (base := base) (spare := sp) (held := held) (n := n0 + n1 + n2) (cs := [.int .i64 a, .int .i64 b, .int .i64 c, .int .i64 d, .int .i64 e, .int .i64 f]) Try.underlying32 (by simp [cellsVe])
    (by simpa [cellsFr] using DataW.trod_le (show n0 ≤ n0 + n1 + n2 by omega) t0) (by simpa [cellsFr] using DataW.trod_le (show n1 ≤ n0 + n1 + n2 by omega) t1) (by simpa [cellsFr] using DataW.trod_le (show n2 ≤ n0 + n1 + n2 by omega) t2)
  exact ⟨_, by simpa [Value.cells] using ts⟩
end
theorem wf_okC {a b : Int} (h : (Lit.int .i64 a).wf = true ∧ (Lit.int .i64 b).wf = true) : -9223372036854775808 ≤ a ∧ a ≤ 9223372036854775807 ∧ -9223372036854775808 ≤ b ∧ b ≤ 9223372036854775807 := by
  have h0 : -9223372036854775808 ≤ a ∧ a ≤ 9223372036854775807 := by simpa [Lit.wf, IntKind.min, IntKind.max, IntKind.signed, IntKind.bits] using h.1
  have h1 : -9223372036854775808 ≤ b ∧ b ≤ 9223372036854775807 := by simpa [Lit.wf, IntKind.min, IntKind.max, IntKind.signed, IntKind.bits] using h.2
  exact ⟨h0.1, h0.2, h1.1, h1.2⟩
end Go.Proofs.Ytlijkebdaalldaa
namespace Go.Proofs.Ytlijkebdaalldaa
open Go.ChangeShapes Go.WideShapes Go.ChangeAt Go.RowKit Go.Joins Go.Deep
set_option linter.unusedVariables false
set_option linter.unusedSimpArgs false

section
variable {H : Type} {enc : TypeId × Value → H} {P : Program} {w : World} {base : Nat} {sp : Nat → Bool} {held : Bool}
theorem arr3_opened {t e : TypeId} {n k : Nat} {cs : List Value} {x : DataW H × List MemPlace} (ht : P.underlying t = some (.array 3 e)) (hk : P.cellsOf e = k) (h : DataW.trod enc P w base sp held n t cs = some x) :
    ∃ (y0 y1 y2 : DataW H × List MemPlace) (m : Nat), x = (.agg [y0.1, y1.1, y2.1], y0.2 ++ (y1.2 ++ (y2.2 ++ []))) ∧ DataW.trod enc P w base sp held m e ((cs.drop 0).take k) = some y0 ∧
      DataW.trod enc P w base sp held m e ((cs.drop k).take k) = some y1 ∧ DataW.trod enc P w base sp held m e ((cs.drop (2 * k)).take k) = some y2 := by
  obtain ⟨xs, m, rfl, rfl, hl, hn, hf⟩ := DataW.trod_array ht h
  subst hk
  match xs, hn with
  | [y0, y1, y2], _ =>
    have h0 := hf 0 (by omega)
    have h1 := hf 1 (by omega)
    have h2 := hf 2 (by omega)
    rw [Nat.zero_mul] at h0
    rw [Nat.one_mul] at h1
    exact ⟨y0, y1, y2, m, by simp, h0, h1, h2⟩
theorem arr3_mk {t e : TypeId} {n k : Nat} {cs : List Value} {y0 y1 y2 : DataW H × List MemPlace} (ht : P.underlying t = some (.array 3 e)) (hk : P.cellsOf e = k) (hl : cs.length = P.cellsOf t)
    (h0 : DataW.trod enc P w base sp held n e ((cs.drop 0).take k) = some y0) (h1 : DataW.trod enc P w base sp held n e ((cs.drop k).take k) = some y1)
    (h2 : DataW.trod enc P w base sp held n e ((cs.drop (2 * k)).take k) = some y2) :
    DataW.trod enc P w base sp held (n + 1) t cs = some (.agg [y0.1, y1.1, y2.1], y0.2 ++ (y1.2 ++ (y2.2 ++ []))) := by
  subst hk
  have hm : (List.range 3).mapM (fun i => DataW.trod enc P w base sp held n e ((cs.drop (i * P.cellsOf e)).take (P.cellsOf e))) = some [y0, y1, y2] := by
    have r3 : List.range 3 = [0, 1, 2] := rfl
    rw [r3]
    have e0 : DataW.trod enc P w base sp held n e ((cs.drop (0 * P.cellsOf e)).take (P.cellsOf e)) = some y0 := by rw [Nat.zero_mul]; exact h0
    have e1 : DataW.trod enc P w base sp held n e ((cs.drop (1 * P.cellsOf e)).take (P.cellsOf e)) = some y1 := by rw [Nat.one_mul]; exact h1
    simp only [List.mapM_cons, List.mapM_nil, e0, e1, h2]
    rfl
  unfold DataW.trod
  rw [ht]
  split <;> simp_all
theorem okWide_array {n : Nat} {e t : TypeId} {r : Reach} {b0 : Nat} {v : Value} (ht : P.underlying t = some (.array n e)) (h : Value.okWide P w r b0 t v) : ∃ cs, v = .agg cs ∧ cs.size = P.cellsOf t := by
  simp only [Value.okWide, ht] at h
  obtain ⟨cs, h1, h2, _⟩ := h
  exact ⟨cs, h1, h2⟩
end
theorem und_Mat : Try.prog.underlying 27 = some (.array 3 25) := by kernel_rfl
theorem und_Row : Try.prog.underlying 25 = some (.array 3 23) := by kernel_rfl
theorem cells_Mat : Try.prog.cellsOf 27 = 18 := by kernel_rfl
theorem cells_Row : Try.prog.cellsOf 25 = 6 := by kernel_rfl
theorem array18 {α : Type} {cs : Array α} (h : cs.size = 18) : ∃ c0 c1 c2 c3 c4 c5 c6 c7 c8 c9 c10 c11 c12 c13 c14 c15 c16 c17, cs = #[c0, c1, c2, c3, c4, c5, c6, c7, c8, c9, c10, c11, c12, c13, c14, c15, c16, c17] := by
  obtain ⟨l⟩ := cs
  match l, h with
  | [c0, c1, c2, c3, c4, c5, c6, c7, c8, c9, c10, c11, c12, c13, c14, c15, c16, c17], _ => exact ⟨c0, c1, c2, c3, c4, c5, c6, c7, c8, c9, c10, c11, c12, c13, c14, c15, c16, c17, rfl⟩

section
variable {H : Type} {enc : TypeId × Value → H} {w : World} {base : Nat} {sp : Nat → Bool} {held : Bool}
def rowD (a b c d e f : Int) : DataW H := .agg [fracD a b, fracD c d, fracD e f]
def wf2 (a b : Int) : Prop := (Lit.int .i64 a).wf = true ∧ (Lit.int .i64 b).wf = true
set_option maxRecDepth 100000 in
theorem row_opened {n : Nat} {c0 c1 c2 c3 c4 c5 : Value} {y : DataW H × List MemPlace} (h : DataW.trod enc Try.prog w base sp held n 25 [c0, c1, c2, c3, c4, c5] = some y) :
    ∃ a b c d e f : Int, c0 = .int .i64 a ∧ c1 = .int .i64 b ∧ c2 = .int .i64 c ∧ c3 = .int .i64 d ∧ c4 = .int .i64 e ∧ c5 = .int .i64 f ∧ y = (rowD a b c d e f, []) ∧ wf2 a b ∧ wf2 c d ∧ wf2 e f := by
  obtain ⟨y0, y1, y2, m, hx, h0, h1, h2⟩ := arr3_opened und_Row cellsFr h
  obtain ⟨a, b, e0, e1, e2, wa, wb⟩ := frac_opened (v0 := c0) (v1 := c1) h0
  obtain ⟨c, d, e3, e4, e5, wc, wd⟩ := frac_opened (v0 := c2) (v1 := c3) h1
  obtain ⟨e, f, e6, e7, e8, we, wf⟩ := frac_opened (v0 := c4) (v1 := c5) h2
  subst e2 e5 e8
  exact ⟨a, b, c, d, e, f, e0, e1, e3, e4, e6, e7, by rw [hx]; rfl, ⟨wa, wb⟩, ⟨wc, wd⟩, ⟨we, wf⟩⟩
set_option maxRecDepth 100000 in
theorem row_shut (a b c d e f : Int) (h1 : wf2 a b) (h2 : wf2 c d) (h3 : wf2 e f) :
    ∃ n, DataW.trod enc Try.prog w base sp held n 25 [.int .i64 a, .int .i64 b, .int .i64 c, .int .i64 d, .int .i64 e, .int .i64 f] = some (rowD a b c d e f, []) := by
  obtain ⟨n0, t0⟩ := frac_shut (enc := enc) (w := w) (base := base) (sp := sp) (held := held) a b h1.1 h1.2
  obtain ⟨n1, t1⟩ := frac_shut (enc := enc) (w := w) (base := base) (sp := sp) (held := held) c d h2.1 h2.2
  obtain ⟨n2, t2⟩ := frac_shut (enc := enc) (w := w) (base := base) (sp := sp) (held := held) e f h3.1 h3.2
  exact ⟨_, arr3_mk (n := n0 + n1 + n2) (cs := [.int .i64 a, .int .i64 b, .int .i64 c, .int .i64 d, .int .i64 e, .int .i64 f]) und_Row cellsFr (by rw [cells_Row]; rfl) (DataW.trod_le (show n0 ≤ n0 + n1 + n2 by omega) t0) (DataW.trod_le (show n1 ≤ n0 + n1 + n2 by omega) t1) (DataW.trod_le (show n2 ≤ n0 + n1 + n2 by omega) t2)⟩
def rowAt (N : Nat → Int) (k : Nat) : DataW H := rowD (N k) (N (k + 1)) (N (k + 2)) (N (k + 3)) (N (k + 4)) (N (k + 5))
def matD (N : Nat → Int) : DataW H := .agg [rowAt N 0, rowAt N 6, rowAt N 12]
def wfM (N : Nat → Int) : Prop := ∀ i, i < 9 → wf2 (N (2 * i)) (N (2 * i + 1))
set_option maxRecDepth 100000 in
theorem mat_opened {b0 : Nat} {v : Value} {d : DataW H} {p : List MemPlace} (hv : Value.okWide Try.prog w .any b0 27 v) (h : DataW.Trod enc Try.prog w base sp held 27 v d p) :
    ∃ N : Nat → Int, v = .agg #[.int .i64 (N 0), .int .i64 (N 1), .int .i64 (N 2), .int .i64 (N 3), .int .i64 (N 4), .int .i64 (N 5), .int .i64 (N 6), .int .i64 (N 7), .int .i64 (N 8), .int .i64 (N 9), .int .i64 (N 10), .int .i64 (N 11), .int .i64 (N 12), .int .i64 (N 13), .int .i64 (N 14), .int .i64 (N 15), .int .i64 (N 16), .int .i64 (N 17)] ∧ d = matD N ∧ p = [] ∧ wfM N := by
  obtain ⟨cs, rfl, hsz⟩ := okWide_array und_Mat hv
  obtain ⟨c0, c1, c2, c3, c4, c5, c6, c7, c8, c9, c10, c11, c12, c13, c14, c15, c16, c17, rfl⟩ := array18 (hsz.trans cells_Mat)
  obtain ⟨fuel, hf⟩ := h
  obtain ⟨y0, y1, y2, m, hx, h0, h1, h2⟩ := arr3_opened und_Mat cells_Row hf
  obtain ⟨a0, a1, a2, a3, a4, a5, rfl, rfl, rfl, rfl, rfl, rfl, e0, wa, wb, wc⟩ := row_opened (c0 := c0) (c1 := c1) (c2 := c2) (c3 := c3) (c4 := c4) (c5 := c5) h0
  obtain ⟨a6, a7, a8, a9, a10, a11, rfl, rfl, rfl, rfl, rfl, rfl, e1, wd, we, wf⟩ := row_opened (c0 := c6) (c1 := c7) (c2 := c8) (c3 := c9) (c4 := c10) (c5 := c11) h1
  obtain ⟨a12, a13, a14, a15, a16, a17, rfl, rfl, rfl, rfl, rfl, rfl, e2, wg, wh, wi⟩ := row_opened (c0 := c12) (c1 := c13) (c2 := c14) (c3 := c15) (c4 := c16) (c5 := c17) h2
  subst e0 e1 e2
  simp only [Prod.mk.injEq] at hx
  refine ⟨fun o => [a0, a1, a2, a3, a4, a5, a6, a7, a8, a9, a10, a11, a12, a13, a14, a15, a16, a17].getD o 0, rfl, hx.1, hx.2, ?_⟩
  intro i hi
  rcases (show i = 0 ∨ i = 1 ∨ i = 2 ∨ i = 3 ∨ i = 4 ∨ i = 5 ∨ i = 6 ∨ i = 7 ∨ i = 8 by omega) with rfl | rfl | rfl | rfl | rfl | rfl | rfl | rfl | rfl
  · exact wa
  · exact wb
  · exact wc
  · exact wd
  · exact we
  · exact wf
  · exact wg
  · exact wh
  · exact wi
set_option maxRecDepth 100000 in
theorem mat_shut (N : Nat → Int) (h : wfM N) : DataW.Trod enc Try.prog w base sp held 27 (.agg #[.int .i64 (N 0), .int .i64 (N 1), .int .i64 (N 2), .int .i64 (N 3), .int .i64 (N 4), .int .i64 (N 5), .int .i64 (N 6), .int .i64 (N 7), .int .i64 (N 8), .int .i64 (N 9), .int .i64 (N 10), .int .i64 (N 11), .int .i64 (N 12), .int .i64 (N 13), .int .i64 (N 14), .int .i64 (N 15), .int .i64 (N 16), .int .i64 (N 17)]) (matD N) [] := by
  obtain ⟨n0, t0⟩ := row_shut (enc := enc) (w := w) (base := base) (sp := sp) (held := held) (N 0) (N 1) (N 2) (N 3) (N 4) (N 5) (h 0 (by omega)) (h 1 (by omega)) (h 2 (by omega))
  obtain ⟨n1, t1⟩ := row_shut (enc := enc) (w := w) (base := base) (sp := sp) (held := held) (N 6) (N 7) (N 8) (N 9) (N 10) (N 11) (h 3 (by omega)) (h 4 (by omega)) (h 5 (by omega))
  obtain ⟨n2, t2⟩ := row_shut (enc := enc) (w := w) (base := base) (sp := sp) (held := held) (N 12) (N 13) (N 14) (N 15) (N 16) (N 17) (h 6 (by omega)) (h 7 (by omega)) (h 8 (by omega))
  exact ⟨_, arr3_mk (n := n0 + n1 + n2) (cs := [.int .i64 (N 0), .int .i64 (N 1), .int .i64 (N 2), .int .i64 (N 3), .int .i64 (N 4), .int .i64 (N 5), .int .i64 (N 6), .int .i64 (N 7), .int .i64 (N 8), .int .i64 (N 9), .int .i64 (N 10), .int .i64 (N 11), .int .i64 (N 12), .int .i64 (N 13), .int .i64 (N 14), .int .i64 (N 15), .int .i64 (N 16), .int .i64 (N 17)]) und_Mat cells_Row (by rw [cells_Mat]; rfl) (DataW.trod_le (show n0 ≤ n0 + n1 + n2 by omega) t0) (DataW.trod_le (show n1 ≤ n0 + n1 + n2 by omega) t1) (DataW.trod_le (show n2 ≤ n0 + n1 + n2 by omega) t2)⟩
end
theorem wfM_okCM {N : Nat → Int} (h : wfM N) : okCM N := by
  intro i hi
  rcases (show i = 0 ∨ i = 1 ∨ i = 2 by omega) with rfl | rfl | rfl
  · exact ⟨wf_okC (h 0 (by omega)), wf_okC (h 1 (by omega)), wf_okC (h 2 (by omega))⟩
  · exact ⟨wf_okC (h 3 (by omega)), wf_okC (h 4 (by omega)), wf_okC (h 5 (by omega))⟩
  · exact ⟨wf_okC (h 6 (by omega)), wf_okC (h 7 (by omega)), wf_okC (h 8 (by omega))⟩
end Go.Proofs.Ytlijkebdaalldaa
