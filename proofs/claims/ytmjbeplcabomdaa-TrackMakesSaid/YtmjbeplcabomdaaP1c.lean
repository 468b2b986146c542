/-
  The reference of track: a path that is one.
-/
import Derived.Test.YtmjbeplcabomdaaP1b
import Derived.Test.YtmjbeplcabomdaaPl
import Derived.Laws.AppendOwn
namespace Go.Proofs.Ytmjbeplcabomdaa
open Go.RowKit
set_option linter.unusedVariables false
set_option linter.unusedSimpArgs false
theorem own_below {B : Nat} {e : TypeId} {size : Nat} {v : Value} {n : Nat} {xs : List Value} {wr wv : World} (h : wr.ownsRow B e size v n xs) (hb : Below wr.heap.size wr wv) : wv.ownsRow B e size v n xs := by
  obtain ⟨hl, h⟩ := h
  refine ⟨hl, ?_⟩
  rcases h with h | ⟨g, cap, cur, hv, h1, h2, rest⟩
  · exact Or.inl h
  · refine Or.inr ⟨g, cap, cur, hv, h1, ?_, rest⟩
    have hg : g < wr.heap.size := (Array.getElem?_eq_some_iff.1 h2).1
    obtain ⟨_, _, _, _, h5⟩ := hb
    rw [h5 g hg]; exact h2
theorem own_mono {B B' : Nat} {e : TypeId} {size : Nat} {v : Value} {n : Nat} {xs : List Value} {wr : World} (h : wr.ownsRow B e size v n xs) (hb : B' ≤ B) : wr.ownsRow B' e size v n xs := by
  obtain ⟨hl, h⟩ := h
  refine ⟨hl, ?_⟩
  rcases h with h | ⟨g, cap, cur, hv, h1, h2, rest⟩
  · exact Or.inl h
  · exact Or.inr ⟨g, cap, cur, hv, Nat.le_trans hb h1, h2, rest⟩
def rowP (ra dec fr st : Int) (i : Nat) : List Value := (List.range (i * 6)).map (fun o => Value.int .i64 (pth ra dec fr st o))
theorem rowP_step (ra dec fr st : Int) (i : Nat) : rowP ra dec fr st (i + 1) = rowP ra dec fr st i ++ [.int .i64 (pth ra dec fr st (i * 6)), .int .i64 (pth ra dec fr st (i * 6 + 1)), .int .i64 (pth ra dec fr st (i * 6 + 2)), .int .i64 (pth ra dec fr st (i * 6 + 3)), .int .i64 (pth ra dec fr st (i * 6 + 4)), .int .i64 (pth ra dec fr st (i * 6 + 5))] := by
  unfold rowP
  rw [show (i + 1) * 6 = i * 6 + 1 + 1 + 1 + 1 + 1 + 1 by omega, List.range_succ, List.range_succ, List.range_succ, List.range_succ, List.range_succ, List.range_succ]
  simp
theorem app6 {B : Nat} {e : TypeId} {v v' : Value} {i : Nat} {xs ys : List Value} {w3 wv w2 : World} {o : Obj} (hown : wv.ownsRow B e 6 v i xs) (hb : Below B w3 wv) (hB : B ≤ wv.heap.size)
    (hown' : w2.ownsRow B e 6 v' (i + 1) ys) (hg : (wv.alloc o).grownBy w2 v.ownBlock) : Below B w3 w2 ∧ B ≤ w2.heap.size := by
  have h := (hb.alloc (by omega) o).grown hg (by simp; omega) (fun j hj => by have := (hown.lt j hj).1; omega)
  refine ⟨h, ?_⟩
  have h1 := h.size
  have h2 := hg.size
  simp at h2
  omega

set_option maxRecDepth 100000 in
set_option maxHeartbeats 3200000 in
theorem ref6_Path_ok (s : ByteArray) (ra dec fr st : Int) (n : Nat) (hE : paE s ra dec fr st (n : Int) = 0) (w : World) :
    Calls Try.prog 19 #[.agg #[.string s, .int .i64 ra, .int .i64 dec], .int .i64 fr, .int .i64 st, .int .i64 (n : Int)] w fun e w' => (∃ v : Value, e = .returned (.tuple #[v, .int .i64 0]) ∧ w'.ownsRow w.heap.size 30 6 v n (rowP ra dec fr st n)) ∧ Below w.heap.size w w' := by
  obtain ⟨i0, hi, hzz⟩ := Option.map_eq_some_iff.1 infoDir
  simp only [Prod.mk.injEq] at hzz
  obtain ⟨hz0, hz1, hz2⟩ := hzz
  obtain ⟨h1, h2, h3, h4, h5, h6, h7⟩ := paE_ok hE
  obtain ⟨n1, n2, n3, n4, n5⟩ := srE_ok h1
  obtain ⟨f1, f2⟩ := tk_out h6
  obtain ⟨l1, l2⟩ := tk_out h7
  have A1 := fun w => ref6_Check s ra dec w
  rw [h1] at A1
  have A2 := fun w => ref6_Tick fr w
  rw [h6] at A2
  obtain ⟨m0, m1, m2, m3⟩ := ma_bd h2 h3
  obtain ⟨q0, q1⟩ := st_bd h4 h5 m0 m1
  have A4 : ∀ tk : Int, -1000000 ≤ tk → tk ≤ 1000000 → ∀ w : World, _ := fun tk t1 t2 w => ref6_Direction s ra dec tk (by omega) (by omega) w
  have HM : Hid (∀ (i : Nat) (q : Int), i < n → st * (i : Int) = q → 0 ≤ q ∧ q ≤ 71280 ∧ fr + q ≤ 1000000) := Lib.hid (fun i q hi hq => by
    unfold lastT at l2
    exact tick_mid hi (by omega) h4 h5 hq f1 (m3 (by omega)) l2)
  have g2 : ((n : Int) < 0) = False := eq_false h2
  have g3 : (100 < (n : Int)) = False := eq_false h3
  have g4 : (st < 1) = False := eq_false h4
  have g5 : (720 < st) = False := eq_false h5
  have hn : n ≤ 100 := by omega
  have g6 : ¬ (n : Int) < 0 := h2
  have g7 : ¬ 100 < (n : Int) := h3
  have HA4 := Lib.hid A4
  have HF1 := Lib.hid f1
  have HL := Lib.hid (And.intro l1 l2)
  have H7 := Lib.hid h7
  have HM3 := Lib.hid m3
  have HI0 := Lib.hid (And.intro hi (And.intro hz0 (And.intro hz1 hz2)))
  clear h1 h2 h3 h4 h5 h6 h7 hE A4 m2 m3 n1 n2 n3 n4 n5 hi hz0 hz1 hz2 l1 l2
  by_cases hp : (0 : Int) < (n : Int)
  · have hp' : (0 < (n : Int)) = True := eq_true hp
    have hpn : (0 < n) = True := by simp; omega
    have A3 := fun w => ref6_Tick (fr + st * ((n : Int) - 1)) w
    have e7 := H7.out
    have hl := HL.out
    unfold lastT at e7 hl
    rw [HM3.out (by omega)] at e7 hl q0 q1
    rw [e7] at A3
    have hc : ((n : Int) - 1) * st = st * ((n : Int) - 1) := Int.mul_comm _ _
    clear e7 hp
    generalize hq : st * ((n : Int) - 1) = q at *
    have w1 : -9223372036854775808 ≤ fr + q := by omega
    have w2 : fr + q ≤ 9223372036854775807 := by omega
    clear hl m0 m1 H7 HL HM3
    have dAl := dAl; have dSt := dSt; have xC := ext_cell; have xF := ext_frozen; have xS := ext_set; have xN := ext_drewN; have xD := ext_drew; have xL := ext_lt; have xE := ext_ne; have xG := ext_nr; have xX := ext_ext; have xL1 := ext_lt1; have xL2 := ext_lt2; have xL3 := ext_lt3; have xM0 := ext_le0; have xM1 := ext_le1; have xM2 := ext_le2
    go_enter Try.func19, Try.ntmps19
    go_wp2_with fail
    with_reducible refine (A1 _).mono ?_
    rintro e v1 ⟨rfl, hb1⟩
    have zz1 := hb1.size
    try simp [ext_size] at zz1
    have cc1_0 : v1.cell? ⟨w.heap.size, 0, none⟩ = some (.string s) := (hb1.cell (p := ⟨w.heap.size, 0, none⟩) (by first | omega | (simp [ext_size]; try omega))).trans (by (simp (maxDischargeDepth := 8) [go_sem, World.cell?_alloc_past, ltk2, ltk3, ltk4, ltk5, ltk6, ltk7, ltk8, ltk9, *]))
    have cc1_1 : v1.cell? ⟨w.heap.size, 1, none⟩ = some (.int .i64 ra) := (hb1.cell (p := ⟨w.heap.size, 1, none⟩) (by first | omega | (simp [ext_size]; try omega))).trans (by (simp (maxDischargeDepth := 8) [go_sem, World.cell?_alloc_past, ltk2, ltk3, ltk4, ltk5, ltk6, ltk7, ltk8, ltk9, *]))
    have cc1_2 : v1.cell? ⟨w.heap.size, 2, none⟩ = some (.int .i64 dec) := (hb1.cell (p := ⟨w.heap.size, 2, none⟩) (by first | omega | (simp [ext_size]; try omega))).trans (by (simp (maxDischargeDepth := 8) [go_sem, World.cell?_alloc_past, ltk2, ltk3, ltk4, ltk5, ltk6, ltk7, ltk8, ltk9, *]))
    have zl1_0 : w.heap.size < v1.heap.size := by omega
    have hB1 : Below w.heap.size w v1 := Below.trans (by (repeat (first | with_reducible exact b0 _ | (with_reducible refine bext ?_ _ _) | (with_reducible refine below_drewN ?_ _) | (with_reducible refine Below.drew ?_) | (with_reducible refine bal ?_ _)))) (hb1.mono (by first | omega | (simp [ext_size]; try omega)))
    have zw1 := hB1.size
    clear hb1
    go_wp2_with fail
    with_reducible refine (A2 _).mono ?_
    rintro e v2 ⟨rfl, hb2⟩
    have zz2 := hb2.size
    try simp [ext_size] at zz2
    have cc2_0 : v2.cell? ⟨w.heap.size, 0, none⟩ = some (.string s) := (hb2.cell (p := ⟨w.heap.size, 0, none⟩) (by first | omega | (simp [ext_size]; try omega))).trans (by (simp (maxDischargeDepth := 8) [go_sem, World.cell?_alloc_past, ltk2, ltk3, ltk4, ltk5, ltk6, ltk7, ltk8, ltk9, *]))
    have cc2_1 : v2.cell? ⟨w.heap.size, 1, none⟩ = some (.int .i64 ra) := (hb2.cell (p := ⟨w.heap.size, 1, none⟩) (by first | omega | (simp [ext_size]; try omega))).trans (by (simp (maxDischargeDepth := 8) [go_sem, World.cell?_alloc_past, ltk2, ltk3, ltk4, ltk5, ltk6, ltk7, ltk8, ltk9, *]))
    have cc2_2 : v2.cell? ⟨w.heap.size, 2, none⟩ = some (.int .i64 dec) := (hb2.cell (p := ⟨w.heap.size, 2, none⟩) (by first | omega | (simp [ext_size]; try omega))).trans (by (simp (maxDischargeDepth := 8) [go_sem, World.cell?_alloc_past, ltk2, ltk3, ltk4, ltk5, ltk6, ltk7, ltk8, ltk9, *]))
    have zl2_0 : w.heap.size < v2.heap.size := by omega
    have hB2 : Below w.heap.size w v2 := Below.trans (by (repeat (first | with_reducible exact hB1 | (with_reducible refine bext ?_ _ _) | (with_reducible refine below_drewN ?_ _) | (with_reducible refine Below.drew ?_) | (with_reducible refine bal ?_ _) | (with_reducible refine bset ?_ (by first | omega | (simp <;> omega)) _)))) (hb2.mono (by first | omega | (simp [ext_size]; try omega)))
    have zw2 := hB2.size
    clear hb2
    clear cc1_0 cc1_1 cc1_2 zl1_0 zz1 zw1 hB1
    go_wp2_with fail
    with_reducible refine (A3 _).mono ?_
    rintro e v3 ⟨rfl, hb3⟩
    have zz3 := hb3.size
    try simp [ext_size] at zz3
    have cc3_0 : v3.cell? ⟨w.heap.size, 0, none⟩ = some (.string s) := (hb3.cell (p := ⟨w.heap.size, 0, none⟩) (by first | omega | (simp [ext_size]; try omega))).trans (by (simp (maxDischargeDepth := 8) [go_sem, World.cell?_alloc_past, ltk2, ltk3, ltk4, ltk5, ltk6, ltk7, ltk8, ltk9, *]))
    have cc3_1 : v3.cell? ⟨w.heap.size, 1, none⟩ = some (.int .i64 ra) := (hb3.cell (p := ⟨w.heap.size, 1, none⟩) (by first | omega | (simp [ext_size]; try omega))).trans (by (simp (maxDischargeDepth := 8) [go_sem, World.cell?_alloc_past, ltk2, ltk3, ltk4, ltk5, ltk6, ltk7, ltk8, ltk9, *]))
    have cc3_2 : v3.cell? ⟨w.heap.size, 2, none⟩ = some (.int .i64 dec) := (hb3.cell (p := ⟨w.heap.size, 2, none⟩) (by first | omega | (simp [ext_size]; try omega))).trans (by (simp (maxDischargeDepth := 8) [go_sem, World.cell?_alloc_past, ltk2, ltk3, ltk4, ltk5, ltk6, ltk7, ltk8, ltk9, *]))
    have zl3_0 : w.heap.size < v3.heap.size := by omega
    have hB3 : Below w.heap.size w v3 := Below.trans (by (repeat (first | with_reducible exact hB2 | (with_reducible refine bext ?_ _ _) | (with_reducible refine below_drewN ?_ _) | (with_reducible refine Below.drew ?_) | (with_reducible refine bal ?_ _) | (with_reducible refine bset ?_ (by first | omega | (simp <;> omega)) _)))) (hb3.mono (by first | omega | (simp [ext_size]; try omega)))
    have zw3 := hB3.size
    clear hb3
    clear cc2_0 cc2_1 cc2_2 zl2_0 zz2 zw2 hB2
    clear dAl dSt xC xF xS xN xD xL xE xG xX xL1 xL2 xL3 xM0 xM1 xM2 A1 A2 A3
    go_wp2_with fail
    go_loopg [10, 11] n (fun kk v s11 wr => ∃ i : Nat, kk = n - i ∧ s11 = .int .i64 i ∧ i ≤ n ∧ wr.ownsRow v3.heap.size 30 6 v i (rowP ra dec fr st i) ∧ v3.heap.size ≤ wr.heap.size ∧ Below v3.heap.size v3 wr)
    case atStart => exact ⟨0, rfl, rfl, by omega, World.ownsRow_nil _ _ _ _, Nat.le_refl _, Below.refl _ _⟩
    case round =>
      obtain ⟨i, rfl, rfl, him, hown, hsz, hbr⟩ := hrel
      have hbw : Below w.heap.size w wr := Below.trans hB3 (hbr.mono zw3)
      by_cases hi : i < n
      · have zi : ((i : Int) < (n : Int)) = True := by simp; omega
        obtain ⟨p, hpq⟩ : ∃ p, st * (i : Int) = p := ⟨_, rfl⟩
        obtain ⟨p0, p1, p2⟩ := HM.out i p hi hpq
        have f1 := HF1.out
        have cm : (i : Int) * st = p := by rw [Int.mul_comm]; exact hpq
        have u0 : wr.cell? ⟨w.heap.size, 0, none⟩ = some (.string s) := (hbr.cell (p := ⟨w.heap.size, 0, none⟩) zl3_0).trans cc3_0
        have u1 : wr.cell? ⟨w.heap.size, 1, none⟩ = some (.int .i64 ra) := (hbr.cell (p := ⟨w.heap.size, 1, none⟩) zl3_0).trans cc3_1
        have u2 : wr.cell? ⟨w.heap.size, 2, none⟩ = some (.int .i64 dec) := (hbr.cell (p := ⟨w.heap.size, 2, none⟩) zl3_0).trans cc3_2
        have B5 := HA4.out (fr + p) (by omega) p2
        have y0 : pth ra dec fr st (i * 6) = dirC dec (ra - (fr + st * (i : Int))) 0 := pth_at ra dec fr st i 0 (by omega)
        have y1 : pth ra dec fr st (i * 6 + 1) = dirC dec (ra - (fr + st * (i : Int))) 1 := pth_at ra dec fr st i 1 (by omega)
        have y2 : pth ra dec fr st (i * 6 + 2) = dirC dec (ra - (fr + st * (i : Int))) 2 := pth_at ra dec fr st i 2 (by omega)
        have y3 : pth ra dec fr st (i * 6 + 3) = dirC dec (ra - (fr + st * (i : Int))) 3 := pth_at ra dec fr st i 3 (by omega)
        have y4 : pth ra dec fr st (i * 6 + 4) = dirC dec (ra - (fr + st * (i : Int))) 4 := pth_at ra dec fr st i 4 (by omega)
        have y5 : pth ra dec fr st (i * 6 + 5) = dirC dec (ra - (fr + st * (i : Int))) 5 := pth_at ra dec fr st i 5 (by omega)
        rw [hpq] at y0 y1 y2 y3 y4 y5
        dsimp only [dirC] at y0 y1 y2 y3 y4 y5
        generalize dxL dec (ra - (fr + p)) = x0 at *
        generalize dxH dec (ra - (fr + p)) = x1 at *
        generalize dyL dec (ra - (fr + p)) = x2 at *
        generalize dyH dec (ra - (fr + p)) = x3 at *
        generalize sL dec = x4 at *
        generalize sH dec = x5 at *
        have hstep := rowP_step ra dec fr st i
        rw [y0, y1, y2, y3, y4, y5] at hstep
        have HS := Lib.hid hstep
        have HI := Lib.hid hi
        have i40 : i < 1000 := by omega
        have vb1 : -9223372036854775808 ≤ fr + p := by omega
        have vb2 : fr + p ≤ 9223372036854775807 := by omega
        have HO := Lib.hid hown
        clear y0 y1 y2 y3 y4 y5 hstep hi hown him hpq
        go_wp2_with fail
        with_reducible refine (B5 _).mono ?_
        rintro e wv ⟨rfl, hbv⟩
        have how := own_below HO.out hbv
        have zsv : v3.heap.size ≤ wv.heap.size := Nat.le_trans hsz hbv.size
        have hbv4 : Below v3.heap.size v3 wv := Below.trans hbr (hbv.mono hsz)
        obtain ⟨j1, j2, j3, j4⟩ := HI0.out
        clear B5 HO hbv u0 u1 u2
        go_wp2_with (at_builtin; refine wpList_append_own _ rfl _ _ 33 rfl v3.heap.size 30 i0 (.agg zero6) 6 48 Try.underlying33 j1 j2 j3 j4 rfl (by decide) _ _ _ rfl (how.alloc _) ⟨wv.heap.size, 0, none⟩ 1 1 [.int .i64 x0, .int .i64 x1, .int .i64 x2, .int .i64 x3, .int .i64 x4, .int .i64 x5] rfl rfl ?c1 ?c2 ?c3 ?c4 ?c5 ?_)
        case c1 =>
          intro j u hj
          have hj6 : j < 6 := (List.getElem?_eq_some_iff.1 hj).1
          rcases (show j = 0 ∨ j = 1 ∨ j = 2 ∨ j = 3 ∨ j = 4 ∨ j = 5 by omega) with rfl | rfl | rfl | rfl | rfl | rfl <;> (simp at hj; subst hj; simp [Addr.add])
        case c2 => intro u hu; simp at hu; rcases hu with rfl | rfl | rfl | rfl | rfl | rfl <;> rfl
        case c3 => unfold maxLen; omega
        case c4 => omega
        case c5 => simp; omega
        intro v' w2 hown' hgrow _
        have R := app6 how hbv4 zsv hown' hgrow
        rw [← HS.out] at hown'
        have HO' := Lib.hid hown'
        clear hown' hgrow how hbv4 j1 j2 j3 j4
        go_wp2
        go_roundg (n - (i + 1))
        case measure => have := HI.out; omega
        case rel => exact ⟨i + 1, rfl, by go_num, by have := HI.out; omega, HO'.out, R.2, R.1⟩
      · have zi : ((i : Int) < (n : Int)) = False := by simp; omega
        have ei : i = n := by omega
        subst ei
        have HO := Lib.hid (own_mono hown zw3)
        clear hown hi
        go_wp2
        go_ret2
        exact ⟨⟨_, rfl, HO.out⟩, hbw⟩
  · have hp' : (0 < (n : Int)) = False := eq_false hp
    have hpn : (0 < n) = False := by simp; omega
    clear hp q0 q1 m0 m1 H7 HL HM3
    have dAl := dAl; have dSt := dSt; have xC := ext_cell; have xF := ext_frozen; have xS := ext_set; have xN := ext_drewN; have xD := ext_drew; have xL := ext_lt; have xE := ext_ne; have xG := ext_nr; have xX := ext_ext; have xL1 := ext_lt1; have xL2 := ext_lt2; have xL3 := ext_lt3; have xM0 := ext_le0; have xM1 := ext_le1; have xM2 := ext_le2
    go_enter Try.func19, Try.ntmps19
    go_wp2_with fail
    with_reducible refine (A1 _).mono ?_
    rintro e v1 ⟨rfl, hb1⟩
    have zz1 := hb1.size
    try simp [ext_size] at zz1
    have cc1_0 : v1.cell? ⟨w.heap.size, 0, none⟩ = some (.string s) := (hb1.cell (p := ⟨w.heap.size, 0, none⟩) (by first | omega | (simp [ext_size]; try omega))).trans (by (simp (maxDischargeDepth := 8) [go_sem, World.cell?_alloc_past, ltk2, ltk3, ltk4, ltk5, ltk6, ltk7, ltk8, ltk9, *]))
    have cc1_1 : v1.cell? ⟨w.heap.size, 1, none⟩ = some (.int .i64 ra) := (hb1.cell (p := ⟨w.heap.size, 1, none⟩) (by first | omega | (simp [ext_size]; try omega))).trans (by (simp (maxDischargeDepth := 8) [go_sem, World.cell?_alloc_past, ltk2, ltk3, ltk4, ltk5, ltk6, ltk7, ltk8, ltk9, *]))
    have cc1_2 : v1.cell? ⟨w.heap.size, 2, none⟩ = some (.int .i64 dec) := (hb1.cell (p := ⟨w.heap.size, 2, none⟩) (by first | omega | (simp [ext_size]; try omega))).trans (by (simp (maxDischargeDepth := 8) [go_sem, World.cell?_alloc_past, ltk2, ltk3, ltk4, ltk5, ltk6, ltk7, ltk8, ltk9, *]))
    have zl1_0 : w.heap.size < v1.heap.size := by omega
    have hB1 : Below w.heap.size w v1 := Below.trans (by (repeat (first | with_reducible exact b0 _ | (with_reducible refine bext ?_ _ _) | (with_reducible refine below_drewN ?_ _) | (with_reducible refine Below.drew ?_) | (with_reducible refine bal ?_ _)))) (hb1.mono (by first | omega | (simp [ext_size]; try omega)))
    have zw1 := hB1.size
    clear hb1
    go_wp2_with fail
    with_reducible refine (A2 _).mono ?_
    rintro e v2 ⟨rfl, hb2⟩
    have zz2 := hb2.size
    try simp [ext_size] at zz2
    have cc2_0 : v2.cell? ⟨w.heap.size, 0, none⟩ = some (.string s) := (hb2.cell (p := ⟨w.heap.size, 0, none⟩) (by first | omega | (simp [ext_size]; try omega))).trans (by (simp (maxDischargeDepth := 8) [go_sem, World.cell?_alloc_past, ltk2, ltk3, ltk4, ltk5, ltk6, ltk7, ltk8, ltk9, *]))
    have cc2_1 : v2.cell? ⟨w.heap.size, 1, none⟩ = some (.int .i64 ra) := (hb2.cell (p := ⟨w.heap.size, 1, none⟩) (by first | omega | (simp [ext_size]; try omega))).trans (by (simp (maxDischargeDepth := 8) [go_sem, World.cell?_alloc_past, ltk2, ltk3, ltk4, ltk5, ltk6, ltk7, ltk8, ltk9, *]))
    have cc2_2 : v2.cell? ⟨w.heap.size, 2, none⟩ = some (.int .i64 dec) := (hb2.cell (p := ⟨w.heap.size, 2, none⟩) (by first | omega | (simp [ext_size]; try omega))).trans (by (simp (maxDischargeDepth := 8) [go_sem, World.cell?_alloc_past, ltk2, ltk3, ltk4, ltk5, ltk6, ltk7, ltk8, ltk9, *]))
    have zl2_0 : w.heap.size < v2.heap.size := by omega
    have hB2 : Below w.heap.size w v2 := Below.trans (by (repeat (first | with_reducible exact hB1 | (with_reducible refine bext ?_ _ _) | (with_reducible refine below_drewN ?_ _) | (with_reducible refine Below.drew ?_) | (with_reducible refine bal ?_ _) | (with_reducible refine bset ?_ (by first | omega | (simp <;> omega)) _)))) (hb2.mono (by first | omega | (simp [ext_size]; try omega)))
    have zw2 := hB2.size
    clear hb2
    clear cc1_0 cc1_1 cc1_2 zl1_0 zz1 zw1 hB1
    clear dAl dSt xC xF xS xN xD xL xE xG xX xL1 xL2 xL3 xM0 xM1 xM2 A1 A2
    go_wp2_with fail
    go_loopg [10, 11] n (fun kk v s11 wr => ∃ i : Nat, kk = n - i ∧ s11 = .int .i64 i ∧ i ≤ n ∧ wr.ownsRow v2.heap.size 30 6 v i (rowP ra dec fr st i) ∧ v2.heap.size ≤ wr.heap.size ∧ Below v2.heap.size v2 wr)
    case atStart => exact ⟨0, rfl, rfl, by omega, World.ownsRow_nil _ _ _ _, Nat.le_refl _, Below.refl _ _⟩
    case round =>
      obtain ⟨i, rfl, rfl, him, hown, hsz, hbr⟩ := hrel
      have hbw : Below w.heap.size w wr := Below.trans hB2 (hbr.mono zw2)
      by_cases hi : i < n
      · have zi : ((i : Int) < (n : Int)) = True := by simp; omega
        obtain ⟨p, hpq⟩ : ∃ p, st * (i : Int) = p := ⟨_, rfl⟩
        obtain ⟨p0, p1, p2⟩ := HM.out i p hi hpq
        have f1 := HF1.out
        have cm : (i : Int) * st = p := by rw [Int.mul_comm]; exact hpq
        have u0 : wr.cell? ⟨w.heap.size, 0, none⟩ = some (.string s) := (hbr.cell (p := ⟨w.heap.size, 0, none⟩) zl2_0).trans cc2_0
        have u1 : wr.cell? ⟨w.heap.size, 1, none⟩ = some (.int .i64 ra) := (hbr.cell (p := ⟨w.heap.size, 1, none⟩) zl2_0).trans cc2_1
        have u2 : wr.cell? ⟨w.heap.size, 2, none⟩ = some (.int .i64 dec) := (hbr.cell (p := ⟨w.heap.size, 2, none⟩) zl2_0).trans cc2_2
        have B5 := HA4.out (fr + p) (by omega) p2
        have y0 : pth ra dec fr st (i * 6) = dirC dec (ra - (fr + st * (i : Int))) 0 := pth_at ra dec fr st i 0 (by omega)
        have y1 : pth ra dec fr st (i * 6 + 1) = dirC dec (ra - (fr + st * (i : Int))) 1 := pth_at ra dec fr st i 1 (by omega)
        have y2 : pth ra dec fr st (i * 6 + 2) = dirC dec (ra - (fr + st * (i : Int))) 2 := pth_at ra dec fr st i 2 (by omega)
        have y3 : pth ra dec fr st (i * 6 + 3) = dirC dec (ra - (fr + st * (i : Int))) 3 := pth_at ra dec fr st i 3 (by omega)
        have y4 : pth ra dec fr st (i * 6 + 4) = dirC dec (ra - (fr + st * (i : Int))) 4 := pth_at ra dec fr st i 4 (by omega)
        have y5 : pth ra dec fr st (i * 6 + 5) = dirC dec (ra - (fr + st * (i : Int))) 5 := pth_at ra dec fr st i 5 (by omega)
        rw [hpq] at y0 y1 y2 y3 y4 y5
        dsimp only [dirC] at y0 y1 y2 y3 y4 y5
        generalize dxL dec (ra - (fr + p)) = x0 at *
        generalize dxH dec (ra - (fr + p)) = x1 at *
        generalize dyL dec (ra - (fr + p)) = x2 at *
        generalize dyH dec (ra - (fr + p)) = x3 at *
        generalize sL dec = x4 at *
        generalize sH dec = x5 at *
        have hstep := rowP_step ra dec fr st i
        rw [y0, y1, y2, y3, y4, y5] at hstep
        have HS := Lib.hid hstep
        have HI := Lib.hid hi
        have i40 : i < 1000 := by omega
        have vb1 : -9223372036854775808 ≤ fr + p := by omega
        have vb2 : fr + p ≤ 9223372036854775807 := by omega
        have HO := Lib.hid hown
        clear y0 y1 y2 y3 y4 y5 hstep hi hown him hpq
        go_wp2_with fail
        with_reducible refine (B5 _).mono ?_
        rintro e wv ⟨rfl, hbv⟩
        have how := own_below HO.out hbv
        have zsv : v2.heap.size ≤ wv.heap.size := Nat.le_trans hsz hbv.size
        have hbv4 : Below v2.heap.size v2 wv := Below.trans hbr (hbv.mono hsz)
        obtain ⟨j1, j2, j3, j4⟩ := HI0.out
        clear B5 HO hbv u0 u1 u2
        go_wp2_with (at_builtin; refine wpList_append_own _ rfl _ _ 33 rfl v2.heap.size 30 i0 (.agg zero6) 6 48 Try.underlying33 j1 j2 j3 j4 rfl (by decide) _ _ _ rfl (how.alloc _) ⟨wv.heap.size, 0, none⟩ 1 1 [.int .i64 x0, .int .i64 x1, .int .i64 x2, .int .i64 x3, .int .i64 x4, .int .i64 x5] rfl rfl ?c1 ?c2 ?c3 ?c4 ?c5 ?_)
        case c1 =>
          intro j u hj
          have hj6 : j < 6 := (List.getElem?_eq_some_iff.1 hj).1
          rcases (show j = 0 ∨ j = 1 ∨ j = 2 ∨ j = 3 ∨ j = 4 ∨ j = 5 by omega) with rfl | rfl | rfl | rfl | rfl | rfl <;> (simp at hj; subst hj; simp [Addr.add])
        case c2 => intro u hu; simp at hu; rcases hu with rfl | rfl | rfl | rfl | rfl | rfl <;> rfl
        case c3 => unfold maxLen; omega
        case c4 => omega
        case c5 => simp; omega
        intro v' w2 hown' hgrow _
        have R := app6 how hbv4 zsv hown' hgrow
        rw [← HS.out] at hown'
        have HO' := Lib.hid hown'
        clear hown' hgrow how hbv4 j1 j2 j3 j4
        go_wp2
        go_roundg (n - (i + 1))
        case measure => have := HI.out; omega
        case rel => exact ⟨i + 1, rfl, by go_num, by have := HI.out; omega, HO'.out, R.2, R.1⟩
      · have zi : ((i : Int) < (n : Int)) = False := by simp; omega
        have ei : i = n := by omega
        subst ei
        have HO := Lib.hid (own_mono hown zw2)
        clear hown hi
        go_wp2
        go_ret2
        exact ⟨⟨_, rfl, HO.out⟩, hbw⟩
end Go.Proofs.Ytmjbeplcabomdaa
