/-
  Windows: what two lists have in common, by the code.
-/
import Derived.Test.YtcigjdadahlgnaaRb
import Derived.Laws.AppendOwn
import Derived.Deep.DeepCutAuto
namespace Go.Proofs.Ytcigjdadahlgnaa
open Go.RowKit
set_option linter.unusedVariables false
set_option linter.unusedSimpArgs false
theorem own_belowW {B : Nat} {e : TypeId} {size : Nat} {v : Value} {n : Nat} {xs : List Value} {wr wv : World} (h : wr.ownsRow B e size v n xs) (hb : Below wr.heap.size wr wv) : wv.ownsRow B e size v n xs := by
  obtain ⟨hl, h⟩ := h
  refine ⟨hl, ?_⟩
  rcases h with h | ⟨g, cap, cur, hv, h1, h2, rest⟩
  · exact Or.inl h
  · refine Or.inr ⟨g, cap, cur, hv, h1, ?_, rest⟩
    have hg : g < wr.heap.size := (Array.getElem?_eq_some_iff.1 h2).1
    obtain ⟨_, _, _, _, h5⟩ := hb
    rw [h5 g hg]; exact h2
theorem own_monoW {B B' : Nat} {e : TypeId} {size : Nat} {v : Value} {n : Nat} {xs : List Value} {wr : World} (h : wr.ownsRow B e size v n xs) (hb : B' ≤ B) : wr.ownsRow B' e size v n xs := by
  obtain ⟨hl, h⟩ := h
  refine ⟨hl, ?_⟩
  rcases h with h | ⟨g, cap, cur, hv, h1, h2, rest⟩
  · exact Or.inl h
  · exact Or.inr ⟨g, cap, cur, hv, Nat.le_trans hb h1, h2, rest⟩
def zeroW : Array Value := #[.int .i64 0, .int .i64 0]
theorem infoWin : (Try.prog.info? 38).map (fun i => (i.zero, i.size, i.bytes)) = some (some (.agg zeroW), 2, 16) := by kernel_rfl
theorem appW {B : Nat} {e : TypeId} {v v' : Value} {i : Nat} {xs ys : List Value} {w3 wv w2 : World} {o : Obj} (hown : wv.ownsRow B e 2 v i xs) (hb : Below B w3 wv) (hB : B ≤ wv.heap.size)
    (hown' : w2.ownsRow B e 2 v' (i + 1) ys) (hg : (wv.alloc o).grownBy w2 v.ownBlock) : Below B w3 w2 ∧ B ≤ w2.heap.size := by
  have h := (hb.alloc (by omega) o).grown hg (by simp; omega) (fun j hj => by have := (hown.lt j hj).1; omega)
  refine ⟨h, ?_⟩
  have h1 := h.size
  have h2 := hg.size
  simp at h2
  omega
set_option maxRecDepth 100000 in
set_option maxHeartbeats 800000 in
theorem rise_overlap (a b c d : Int) (w : World) :
    Calls Try.prog 12 #[.agg #[.int .i64 a, .int .i64 b], .agg #[.int .i64 c, .int .i64 d]] w fun e w' => e = .returned (.agg #[.int .i64 (ma2 a c), .int .i64 (mi2 b d)]) ∧ Below w.heap.size w w' := by
  have M1 := run_max2
  have M2 := run_min2
  go_enter Try.func12, Try.ntmps12
  go_wp2
  refine bodyPost_ret (by simp [results, Try.results12, go_sem, ext_cell, World.cell?_alloc_past, ltk2, ltk3, ltk4, ltk5, ltk6, ltk7, ltk8, ltk9, *]; try rfl) rfl ?_
  exact ⟨rfl, by (repeat (first | with_reducible exact b0 _ | (with_reducible refine bext ?_ _ _) | (with_reducible refine below_drewN ?_ _) | (with_reducible refine Below.drew ?_) | (with_reducible refine bal ?_ _)))⟩

theorem mtE_no1 {A B : List Win} (h : ¬ wcE A = 0) : mtE A B = wcE A ∧ mtW A B = [] := by
  have e : mtE A B = wcE A := by unfold mtE; rw [if_neg h]
  exact ⟨e, by unfold mtW; rw [e, if_neg h]⟩
theorem mtE_no2 {A B : List Win} (h : wcE A = 0) (k : ¬ wcE B = 0) : mtE A B = wcE B ∧ mtW A B = [] := by
  have e : mtE A B = wcE B := by unfold mtE; rw [if_pos h, if_neg k]
  exact ⟨e, by unfold mtW; rw [e, if_neg k]⟩
theorem mtE_yes {A B : List Win} (h : wcE A = 0) (k : wcE B = 0) : (1000 < (refM A B).length → mtE A B = 4 ∧ mtW A B = []) ∧ (¬ 1000 < (refM A B).length → mtE A B = 0 ∧ mtW A B = refM A B) := by
  constructor
  · intro l
    have e : mtE A B = 4 := by unfold mtE; rw [if_pos h, if_pos k, if_pos l]
    exact ⟨e, by unfold mtW; rw [e, if_neg (by decide)]⟩
  · intro l
    have e : mtE A B = 0 := by unfold mtE; rw [if_pos h, if_pos k, if_neg l]
    exact ⟨e, by unfold mtW; rw [e, if_pos rfl]⟩

set_option maxRecDepth 100000 in
set_option maxHeartbeats 6400000 in
theorem rise_Meet (sa sb : Option Addr) (n m ca cb ga oa gb ob : Nat) (A B : List Win) (hn : n ≤ 1000000) (hm : m ≤ 1000000) (hca : n ≤ ca) (hcb : m ≤ cb) (w : World) (ha : slW w sa n ga oa A) (hb : slW w sb m gb ob B) :
    Calls Try.prog 5 #[.slice sa n ca, .slice sb m cb] w fun e w' => (∃ v : Value, e = .returned (.tuple #[v, .int .i64 (mtE A B)]) ∧ w'.ownsRow w.heap.size 38 2 v (mtW A B).length (cellsW (mtW A B))) ∧ Below w.heap.size w w' := by
  have A1 : ∀ u : World, slW u sa n ga oa A → _ := fun u h => rise_Check sa n ca ga oa A hn u h
  have A2 : ∀ u : World, slW u sb m gb ob B → _ := fun u h => rise_Check sb m cb gb ob B hm u h
  have HA := Lib.hid ha
  have HB := Lib.hid hb
  have hnA : n = A.length := ha.1
  have hmB : m = B.length := hb.1
  clear ha hb
  by_cases h1 : wcE A = 0
  · by_cases h2 : wcE B = 0
    · obtain ⟨n1, okA⟩ := wcE_ok h1
      obtain ⟨m1, okB⟩ := wcE_ok h2
      have hR := mtE_yes h1 h2
      have hlen := refM_len A B
      have hlen2 : (refM A B).length ≤ 1000000 := Nat.le_trans hlen (Nat.mul_le_mul n1 m1)
      have sA := okW_srt okA
      have sB := okW_srt okB
      rw [h1] at A1
      rw [h2] at A2
      generalize mtE A B = E at *
      generalize mtW A B = M0 at *
      generalize hRR : refM A B = R at *
      have HR := Lib.hid hR
      have HQ := Lib.hid (And.intro hRR (And.intro sA (And.intro sB hlen2)))
      obtain ⟨i0, hi, hzz⟩ := Option.map_eq_some_iff.1 infoWin
      simp only [Prod.mk.injEq] at hzz
      obtain ⟨hz0, hz1, hz2⟩ := hzz
      have HI0 := Lib.hid (And.intro hi (And.intro hz0 (And.intro hz1 hz2)))
      have HN := Lib.hid (And.intro hnA hmB)
      clear h1 h2 hR hlen hlen2 sA sB okA okB n1 m1 hi hz0 hz1 hz2 hnA hmB
      have dAl := dAl; have dSt := dSt; have xC := ext_cell; have xF := ext_frozen; have xS := ext_set; have xN := ext_drewN; have xD := ext_drew; have xL := ext_lt; have xE := ext_ne; have xG := ext_nr; have xX := ext_ext; have xL1 := ext_lt1; have xL2 := ext_lt2; have xL3 := ext_lt3; have xM0 := ext_le0; have xM1 := ext_le1; have xM2 := ext_le2
      go_enter Try.func5, Try.ntmps5
      go_wp2_with fail
      with_reducible refine (A1 _ (slW_up HA.out (by (repeat (first | with_reducible exact b0 _ | (with_reducible refine bext ?_ _ _) | (with_reducible refine below_drewN ?_ _) | (with_reducible refine Below.drew ?_) | (with_reducible refine bal ?_ _)))))).mono ?_
      rintro e v1 ⟨rfl, hb1⟩
      have hB1 : Below w.heap.size w v1 := Below.trans (by (repeat (first | with_reducible exact b0 _ | (with_reducible refine bext ?_ _ _) | (with_reducible refine below_drewN ?_ _) | (with_reducible refine Below.drew ?_) | (with_reducible refine bal ?_ _)))) (hb1.mono (by first | omega | (simp [ext_size]; try omega)))
      clear hb1
      go_wp2_with fail
      with_reducible refine (A2 _ (slW_up HB.out (by (repeat (first | with_reducible exact hB1 | (with_reducible refine bext ?_ _ _) | (with_reducible refine below_drewN ?_ _) | (with_reducible refine Below.drew ?_) | (with_reducible refine bal ?_ _) | (with_reducible refine bset ?_ (by first | omega | (simp <;> omega)) _)))))).mono ?_
      rintro e v2 ⟨rfl, hb2⟩
      have hB2 : Below w.heap.size w v2 := Below.trans (by (repeat (first | with_reducible exact hB1 | (with_reducible refine bext ?_ _ _) | (with_reducible refine below_drewN ?_ _) | (with_reducible refine Below.drew ?_) | (with_reducible refine bal ?_ _) | (with_reducible refine bset ?_ (by first | omega | (simp <;> omega)) _)))) (hb2.mono (by first | exact hB1.size | omega | (simp [ext_size]; try omega)))
      clear hb2 hB1
      clear dAl dSt xC xF xS xN xD xL xE xG xX xL1 xL2 xL3 xM0 xM1 xM2 A1 A2
      have zw2 := hB2.size
      go_wp2_with fail
      go_loopg [0, 1, 8] (n + m) (fun kk s0 s1 v wr => ∃ (p q : Nat) (A' B' M : List Win) (t0 t1 : Option Addr) (c0 c1 o0 o1 : Nat), kk = p + q ∧ s0 = .slice t0 p c0 ∧ s1 = .slice t1 q c1 ∧ p ≤ 1000000 ∧ q ≤ 1000000 ∧ p ≤ c0 ∧ q ≤ c1 ∧ slW v2 t0 p ga o0 A' ∧ slW v2 t1 q gb o1 B' ∧ Hid (M ++ refM A' B' = R ∧ srt A' ∧ srt B') ∧ wr.ownsRow v2.heap.size 38 2 v M.length (cellsW M) ∧ v2.heap.size ≤ wr.heap.size ∧ Below v2.heap.size v2 wr)
      case atStart =>
        have hu := slW_up HA.out hB2
        have hv := slW_up HB.out hB2
        refine ⟨n, m, A, B, [], sa, sb, ca, cb, oa, ob, rfl, rfl, rfl, hn, hm, hca, hcb, hu, hv, Lib.hid ⟨HQ.out.1, HQ.out.2.1, HQ.out.2.2.1⟩, World.ownsRow_nil _ _ _ _, Nat.le_refl _, Below.refl _ _⟩
      case round =>
        obtain ⟨p, q, A', B', M, t0, t1, c0, c1, o0, o1, rfl, rfl, rfl, p0, q0, pc, qc, hp, hq, HM, hown, hsz, hbr⟩ := hrel
        have hbw : Below w.heap.size w wr := Below.trans hB2 (hbr.mono zw2)
        by_cases hp0 : p = 0
        · subst hp0
          have hA' : A' = [] := List.eq_nil_of_length_eq_zero hp.1.symm
          subst hA'
          have hMR : M = R := by have := HM.out.1; rw [refM_nil', List.append_nil] at this; exact this
          subst hMR
          obtain ⟨r4, r0⟩ := HR.out
          have HOW := Lib.hid (own_monoW hown zw2)
          clear hown HM HR HQ hp hq
          by_cases hl : 1000 < M.length
          · obtain ⟨rfl, rfl⟩ := r4 hl
            have zl : ((1000 : Int) < (M.length : Int)) = True := by simp; omega
            obtain ⟨s2, c2, g2, rfl, hs2⟩ := slW_own HOW.out
            clear r4 r0 hl hs2
            go_wp2
            go_ret2
            exact ⟨⟨_, rfl, World.ownsRow_nil _ _ _ _⟩, by (repeat (first | with_reducible exact hbw | (with_reducible refine bext ?_ _ _) | (with_reducible refine below_drewN ?_ _) | (with_reducible refine Below.drew ?_) | (with_reducible refine bal ?_ _) | (with_reducible refine bset ?_ (by first | omega | (simp <;> omega)) _)))⟩
          · obtain ⟨rfl, rfl⟩ := r0 hl
            have zl : ((1000 : Int) < (M0.length : Int)) = False := by simp; omega
            obtain ⟨s2, c2, g2, rfl, hs2⟩ := slW_own HOW.out
            clear r4 r0 hl hs2
            go_wp2
            go_ret2
            exact ⟨⟨_, rfl, HOW.out⟩, by (repeat (first | with_reducible exact hbw | (with_reducible refine bext ?_ _ _) | (with_reducible refine below_drewN ?_ _) | (with_reducible refine Below.drew ?_) | (with_reducible refine bal ?_ _) | (with_reducible refine bset ?_ (by first | omega | (simp <;> omega)) _)))⟩
        obtain ⟨p, rfl⟩ : ∃ p', p = p' + 1 := ⟨p - 1, by omega⟩
        by_cases hq0 : q = 0
        · subst hq0
          have hB' : B' = [] := List.eq_nil_of_length_eq_zero hq.1.symm
          subst hB'
          have zp : ((0 : Int) < (p : Int) + 1) = True := eq_true (by omega)
          have hMR : M = R := by have := HM.out.1; rw [refM_nil, List.append_nil] at this; exact this
          subst hMR
          obtain ⟨r4, r0⟩ := HR.out
          have HOW := Lib.hid (own_monoW hown zw2)
          clear hown HM HR HQ hp hq
          by_cases hl : 1000 < M.length
          · obtain ⟨rfl, rfl⟩ := r4 hl
            have zl : ((1000 : Int) < (M.length : Int)) = True := by simp; omega
            obtain ⟨s2, c2, g2, rfl, hs2⟩ := slW_own HOW.out
            clear r4 r0 hl hs2
            go_wp2
            go_ret2
            exact ⟨⟨_, rfl, World.ownsRow_nil _ _ _ _⟩, by (repeat (first | with_reducible exact hbw | (with_reducible refine bext ?_ _ _) | (with_reducible refine below_drewN ?_ _) | (with_reducible refine Below.drew ?_) | (with_reducible refine bal ?_ _) | (with_reducible refine bset ?_ (by first | omega | (simp <;> omega)) _)))⟩
          · obtain ⟨rfl, rfl⟩ := r0 hl
            have zl : ((1000 : Int) < (M0.length : Int)) = False := by simp; omega
            obtain ⟨s2, c2, g2, rfl, hs2⟩ := slW_own HOW.out
            clear r4 r0 hl hs2
            go_wp2
            go_ret2
            exact ⟨⟨_, rfl, HOW.out⟩, by (repeat (first | with_reducible exact hbw | (with_reducible refine bext ?_ _ _) | (with_reducible refine below_drewN ?_ _) | (with_reducible refine Below.drew ?_) | (with_reducible refine bal ?_ _) | (with_reducible refine bset ?_ (by first | omega | (simp <;> omega)) _)))⟩
        obtain ⟨q, rfl⟩ : ∃ q', q = q' + 1 := ⟨q - 1, by omega⟩
        obtain ⟨⟨a, b⟩, A1', rfl⟩ : ∃ v L, A' = v :: L := by cases A' with | nil => (have := hp.1; simp at this) | cons v L => exact ⟨v, L, rfl⟩
        obtain ⟨⟨c, d⟩, B1', rfl⟩ : ∃ v L, B' = v :: L := by cases B' with | nil => (have := hq.1; simp at this) | cons v L => exact ⟨v, L, rfl⟩
        obtain ⟨rfl, za, e0, e1⟩ := slW_head hp
        obtain ⟨rfl, zb, f0, f1⟩ := slW_head hq
        have HP := Lib.hid (And.intro (slW_tail hp) (slW_tail hq))
        have HPQ := Lib.hid (And.intro hp hq)
        have E1 := Lib.hid e1
        have F1 := Lib.hid f1
        have zp : ((0 : Int) < (p : Int) + 1) = True := eq_true (by omega)
        have zq : ((0 : Int) < (q : Int) + 1) = True := eq_true (by omega)
        have za1 : ga < wr.heap.size := Nat.lt_of_lt_of_le za hbr.size
        have zb1 : gb < wr.heap.size := Nat.lt_of_lt_of_le zb hbr.size
        have x0 : wr.cell? ⟨ga, o0, none⟩ = some (.int .i64 a) := (hbr.cell za).trans e0
        have x1 : wr.cell? ⟨ga, o0 + 1, none⟩ = some (.int .i64 b) := (hbr.cell za).trans e1
        have y0 : wr.cell? ⟨gb, o1, none⟩ = some (.int .i64 c) := (hbr.cell zb).trans f0
        have y1 : wr.cell? ⟨gb, o1 + 1, none⟩ = some (.int .i64 d) := (hbr.cell zb).trans f1
        have HOW := Lib.hid hown
        have AO := fun w => rise_overlap a b c d w
        have HSt := Lib.hid (refM_step HM.out.2.1 HM.out.2.2)
        clear e0 e1 f0 f1 hp hq hown hp0 hq0
        go_wp2_with fail
        go_cut [9] (fun s9 wx => ∃ pb : Nat, s9 = .pointer (some ⟨pb, 0, none⟩) ∧ wx.cell? ⟨pb, 0, none⟩ = some (.int .i64 (ma2 a c)) ∧ wx.cell? ⟨pb, 1, none⟩ = some (.int .i64 (mi2 b d)) ∧ wr.heap.size ≤ pb ∧ pb < wx.heap.size ∧ Below wr.heap.size wr wx)
        case first =>
          have dAl := dAl; have dSt := dSt; have xC := ext_cell; have xF := ext_frozen; have xS := ext_set; have xN := ext_drewN; have xD := ext_drew; have xL := ext_lt; have xE := ext_ne; have xG := ext_nr; have xX := ext_ext; have xL1 := ext_lt1; have xL2 := ext_lt2; have xL3 := ext_lt3; have xM0 := ext_le0; have xM1 := ext_le1; have xM2 := ext_le2
          have dz1 : ∀ (W : World) (l : List Obj) (d : Nat), (ext W.drew l d) = (ext W l d) := fun _ _ _ => rfl
          have dz2 : ∀ (W : World) (l : List Obj) (n d : Nat), (ext (W.drewN n) l d) = (ext W l d) := fun _ _ _ _ => rfl
          go_region_held3 (fun w' => w'.cell? ⟨ga, o0, none⟩ = some (.int .i64 a) ∧ w'.cell? ⟨ga, o0 + 1, none⟩ = some (.int .i64 b) ∧ w'.cell? ⟨gb, o1, none⟩ = some (.int .i64 c) ∧ w'.cell? ⟨gb, o1 + 1, none⟩ = some (.int .i64 d)) (simp (maxDischargeDepth := 8) [go_sem, World.cell?_alloc_past, ltk2, ltk3, ltk4, ltk5, ltk6, ltk7, ltk8, ltk9, *])
            ((go_at_call 12; with_reducible refine (AO _).mono ?_; rintro x w' ⟨rfl, hb⟩; obtain ⟨l9, d9, rfl⟩ := toExt hb; clear hb))
          all_goals (try go_wp2_with fail)
          all_goals go_meet
          all_goals exact ⟨_, rfl, by (simp (maxDischargeDepth := 8) [go_sem, World.cell?_alloc_past, ltk2, ltk3, ltk4, ltk5, ltk6, ltk7, ltk8, ltk9, *]), by (simp (maxDischargeDepth := 8) [go_sem, World.cell?_alloc_past, ltk2, ltk3, ltk4, ltk5, ltk6, ltk7, ltk8, ltk9, *]), by first | omega | (simp [ext_size] <;> omega), by first | omega | (simp [ext_size, World.setCell] <;> omega), by (repeat (first | with_reducible exact b0 _ | (with_reducible refine bext ?_ _ _) | (with_reducible refine below_drewN ?_ _) | (with_reducible refine Below.drew ?_) | (with_reducible refine bal ?_ _)))⟩
        case rest =>
          obtain ⟨pb, rfl, k0, k1, zpb, zpb2, hBx⟩ := hcut
          have hBc : Below v2.heap.size v2 wc := Below.trans hbr (hBx.mono hsz)
          have zc : v2.heap.size ≤ wc.heap.size := hBc.size
          have how := own_belowW HOW.out hBx
          clear x0 x1 y0 y1 za1 zb1 hBx HOW AO
          by_cases ht : ma2 a c < mi2 b d
          · have zt : (ma2 a c < mi2 b d) = True := eq_true ht
            have hs1 := HSt.out
            simp only [if_pos ht] at hs1
            have HS1 := Lib.hid hs1
            clear hs1 ht HSt
            obtain ⟨j1, j2, j3, j4⟩ := HI0.out
            have hML : M.length ≤ 1000000 := by
              have h1 := HM.out.1
              have h2 := HQ.out.2.2.2
              rw [← h1, List.length_append] at h2
              omega
            go_wp2_with (at_builtin; refine wpList_append_own _ rfl _ _ 22 rfl v2.heap.size 38 i0 (.agg zeroW) 2 16 Try.underlying22 j1 j2 j3 j4 rfl (by decide) _ _ _ rfl (how.alloc _) ⟨wc.heap.size, 0, none⟩ 1 1 [.int .i64 (ma2 a c), .int .i64 (mi2 b d)] rfl rfl ?c1 ?c2 ?c3 ?c4 ?c5 ?_)
            case c1 =>
              intro j u hj
              have hj6 : j < 2 := (List.getElem?_eq_some_iff.1 hj).1
              rcases (show j = 0 ∨ j = 1 by omega) with rfl | rfl <;> (simp at hj; subst hj; simp [Addr.add])
            case c2 => intro u hu; simp at hu; rcases hu with rfl | rfl <;> rfl
            case c3 => unfold maxLen; omega
            case c4 => omega
            case c5 => simp; omega
            intro v' w2 hown' hgrow _
            have R1 := appW how hBc zc hown' hgrow
            have hcl : cellsW M ++ [.int .i64 (ma2 a c), .int .i64 (mi2 b d)] = cellsW (M ++ [(ma2 a c, mi2 b d)]) := by rw [cellsW_app]; rfl
            have hll : M.length + 1 = (M ++ [(ma2 a c, mi2 b d)]).length := by simp
            rw [hcl, hll] at hown'
            have HO' := Lib.hid hown'
            have x1 : w2.cell? ⟨ga, o0 + 1, none⟩ = some (.int .i64 b) := (R1.1.cell za).trans E1.out
            have y1 : w2.cell? ⟨gb, o1 + 1, none⟩ = some (.int .i64 d) := (R1.1.cell zb).trans F1.out
            clear hown' hgrow how hBc j1 j2 j3 j4 hcl hll k0 k1 zpb zpb2
            by_cases hbd : b < d
            · have zbd : (b < d) = True := eq_true hbd
              have hs1 := HS1.out
              simp only [if_pos hbd] at hs1
              have HS2 := Lib.hid hs1
              clear hs1 hbd HS1
              go_wp2_with fail
              go_quiet (fail)
              go_wp2
              · go_roundg (p + (q + 1))
                case measure => omega
                case rel => exact ⟨p, q + 1, A1', (c, d) :: B1', M ++ [(ma2 a c, mi2 b d)], some ⟨ga, o0, none⟩, some ⟨gb, o1, none⟩, 0, c1, o0 + 2, o1, rfl, rfl, rfl, by omega, q0, by omega, qc, slW_any HP.out.1 (by omega), HPQ.out.2, Lib.hid ⟨by have := HM.out.1; rw [HS2.out] at this; rw [List.append_assoc]; exact this, srt_tail HM.out.2.1, HM.out.2.2⟩, HO'.out, R1.2, by (repeat (first | with_reducible exact R1.1 | (with_reducible refine bext ?_ _ _) | (with_reducible refine below_drewN ?_ _) | (with_reducible refine Below.drew ?_) | (with_reducible refine bal ?_ _) | (with_reducible refine bset ?_ (by first | omega | (simp <;> omega)) _)))⟩
              · go_roundg (p + (q + 1))
                case measure => omega
                case rel => exact ⟨p, q + 1, A1', (c, d) :: B1', M ++ [(ma2 a c, mi2 b d)], some ⟨ga, o0 + 2, none⟩, some ⟨gb, o1, none⟩, c0 - 1, c1, o0 + 2, o1, rfl, rfl, rfl, by omega, q0, by omega, qc, HP.out.1, HPQ.out.2, Lib.hid ⟨by have := HM.out.1; rw [HS2.out] at this; rw [List.append_assoc]; exact this, srt_tail HM.out.2.1, HM.out.2.2⟩, HO'.out, R1.2, by (repeat (first | with_reducible exact R1.1 | (with_reducible refine bext ?_ _ _) | (with_reducible refine below_drewN ?_ _) | (with_reducible refine Below.drew ?_) | (with_reducible refine bal ?_ _) | (with_reducible refine bset ?_ (by first | omega | (simp <;> omega)) _)))⟩
            · have zbd : (b < d) = False := eq_false hbd
              have hs1 := HS1.out
              simp only [if_neg hbd] at hs1
              have HS2 := Lib.hid hs1
              clear hs1 hbd HS1
              go_wp2_with fail
              go_quiet (fail)
              go_wp2
              · go_roundg (p + 1 + q)
                case measure => omega
                case rel => exact ⟨p + 1, q, (a, b) :: A1', B1', M ++ [(ma2 a c, mi2 b d)], some ⟨ga, o0, none⟩, some ⟨gb, o1, none⟩, c0, 0, o0, o1 + 2, rfl, rfl, rfl, p0, by omega, pc, by omega, HPQ.out.1, slW_any HP.out.2 (by omega), Lib.hid ⟨by have := HM.out.1; rw [HS2.out] at this; rw [List.append_assoc]; exact this, HM.out.2.1, srt_tail HM.out.2.2⟩, HO'.out, R1.2, by (repeat (first | with_reducible exact R1.1 | (with_reducible refine bext ?_ _ _) | (with_reducible refine below_drewN ?_ _) | (with_reducible refine Below.drew ?_) | (with_reducible refine bal ?_ _) | (with_reducible refine bset ?_ (by first | omega | (simp <;> omega)) _)))⟩
              · go_roundg (p + 1 + q)
                case measure => omega
                case rel => exact ⟨p + 1, q, (a, b) :: A1', B1', M ++ [(ma2 a c, mi2 b d)], some ⟨ga, o0, none⟩, some ⟨gb, o1 + 2, none⟩, c0, c1 - 1, o0, o1 + 2, rfl, rfl, rfl, p0, by omega, pc, by omega, HPQ.out.1, HP.out.2, Lib.hid ⟨by have := HM.out.1; rw [HS2.out] at this; rw [List.append_assoc]; exact this, HM.out.2.1, srt_tail HM.out.2.2⟩, HO'.out, R1.2, by (repeat (first | with_reducible exact R1.1 | (with_reducible refine bext ?_ _ _) | (with_reducible refine below_drewN ?_ _) | (with_reducible refine Below.drew ?_) | (with_reducible refine bal ?_ _) | (with_reducible refine bset ?_ (by first | omega | (simp <;> omega)) _)))⟩
          · have zt : (ma2 a c < mi2 b d) = False := eq_false ht
            have hs1 := HSt.out
            simp only [if_neg ht, List.nil_append] at hs1
            have HS1 := Lib.hid hs1
            have HO' := Lib.hid how
            have x1 : wc.cell? ⟨ga, o0 + 1, none⟩ = some (.int .i64 b) := (hBc.cell za).trans E1.out
            have y1 : wc.cell? ⟨gb, o1 + 1, none⟩ = some (.int .i64 d) := (hBc.cell zb).trans F1.out
            clear hs1 ht HSt how
            by_cases hbd : b < d
            · have zbd : (b < d) = True := eq_true hbd
              have hs1 := HS1.out
              simp only [if_pos hbd] at hs1
              have HS2 := Lib.hid hs1
              clear hs1 hbd HS1
              go_wp2_with fail
              go_quiet (fail)
              go_wp2
              · go_roundg (p + (q + 1))
                case measure => omega
                case rel => exact ⟨p, q + 1, A1', (c, d) :: B1', M, some ⟨ga, o0, none⟩, some ⟨gb, o1, none⟩, 0, c1, o0 + 2, o1, rfl, rfl, rfl, by omega, q0, by omega, qc, slW_any HP.out.1 (by omega), HPQ.out.2, Lib.hid ⟨by have := HM.out.1; rw [HS2.out] at this; exact this, srt_tail HM.out.2.1, HM.out.2.2⟩, HO'.out, zc, by (repeat (first | with_reducible exact hBc | (with_reducible refine bext ?_ _ _) | (with_reducible refine below_drewN ?_ _) | (with_reducible refine Below.drew ?_) | (with_reducible refine bal ?_ _) | (with_reducible refine bset ?_ (by first | omega | (simp <;> omega)) _)))⟩
              · go_roundg (p + (q + 1))
                case measure => omega
                case rel => exact ⟨p, q + 1, A1', (c, d) :: B1', M, some ⟨ga, o0 + 2, none⟩, some ⟨gb, o1, none⟩, c0 - 1, c1, o0 + 2, o1, rfl, rfl, rfl, by omega, q0, by omega, qc, HP.out.1, HPQ.out.2, Lib.hid ⟨by have := HM.out.1; rw [HS2.out] at this; exact this, srt_tail HM.out.2.1, HM.out.2.2⟩, HO'.out, zc, by (repeat (first | with_reducible exact hBc | (with_reducible refine bext ?_ _ _) | (with_reducible refine below_drewN ?_ _) | (with_reducible refine Below.drew ?_) | (with_reducible refine bal ?_ _) | (with_reducible refine bset ?_ (by first | omega | (simp <;> omega)) _)))⟩
            · have zbd : (b < d) = False := eq_false hbd
              have hs1 := HS1.out
              simp only [if_neg hbd] at hs1
              have HS2 := Lib.hid hs1
              clear hs1 hbd HS1
              go_wp2_with fail
              go_quiet (fail)
              go_wp2
              · go_roundg (p + 1 + q)
                case measure => omega
                case rel => exact ⟨p + 1, q, (a, b) :: A1', B1', M, some ⟨ga, o0, none⟩, some ⟨gb, o1, none⟩, c0, 0, o0, o1 + 2, rfl, rfl, rfl, p0, by omega, pc, by omega, HPQ.out.1, slW_any HP.out.2 (by omega), Lib.hid ⟨by have := HM.out.1; rw [HS2.out] at this; exact this, HM.out.2.1, srt_tail HM.out.2.2⟩, HO'.out, zc, by (repeat (first | with_reducible exact hBc | (with_reducible refine bext ?_ _ _) | (with_reducible refine below_drewN ?_ _) | (with_reducible refine Below.drew ?_) | (with_reducible refine bal ?_ _) | (with_reducible refine bset ?_ (by first | omega | (simp <;> omega)) _)))⟩
              · go_roundg (p + 1 + q)
                case measure => omega
                case rel => exact ⟨p + 1, q, (a, b) :: A1', B1', M, some ⟨ga, o0, none⟩, some ⟨gb, o1 + 2, none⟩, c0, c1 - 1, o0, o1 + 2, rfl, rfl, rfl, p0, by omega, pc, by omega, HPQ.out.1, HP.out.2, Lib.hid ⟨by have := HM.out.1; rw [HS2.out] at this; exact this, HM.out.2.1, srt_tail HM.out.2.2⟩, HO'.out, zc, by (repeat (first | with_reducible exact hBc | (with_reducible refine bext ?_ _ _) | (with_reducible refine below_drewN ?_ _) | (with_reducible refine Below.drew ?_) | (with_reducible refine bal ?_ _) | (with_reducible refine bset ?_ (by first | omega | (simp <;> omega)) _)))⟩
    · obtain ⟨e1, e2⟩ := mtE_no2 h1 h2
      rw [e1, e2]
      rw [h1] at A1
      have zE : (wcE B != 0) = true := by simp [h2]
      clear e1 e2 h1 h2 hnA hmB
      generalize wcE B = E at *
      have dAl := dAl; have dSt := dSt; have xC := ext_cell; have xF := ext_frozen; have xS := ext_set; have xN := ext_drewN; have xD := ext_drew; have xL := ext_lt; have xE := ext_ne; have xG := ext_nr; have xX := ext_ext; have xL1 := ext_lt1; have xL2 := ext_lt2; have xL3 := ext_lt3; have xM0 := ext_le0; have xM1 := ext_le1; have xM2 := ext_le2
      go_enter Try.func5, Try.ntmps5
      go_wp2_with fail
      with_reducible refine (A1 _ (slW_up HA.out (by (repeat (first | with_reducible exact b0 _ | (with_reducible refine bext ?_ _ _) | (with_reducible refine below_drewN ?_ _) | (with_reducible refine Below.drew ?_) | (with_reducible refine bal ?_ _)))))).mono ?_
      rintro e v1 ⟨rfl, hb1⟩
      have hB1 : Below w.heap.size w v1 := Below.trans (by (repeat (first | with_reducible exact b0 _ | (with_reducible refine bext ?_ _ _) | (with_reducible refine below_drewN ?_ _) | (with_reducible refine Below.drew ?_) | (with_reducible refine bal ?_ _)))) (hb1.mono (by first | omega | (simp [ext_size]; try omega)))
      clear hb1
      go_wp2_with fail
      with_reducible refine (A2 _ (slW_up HB.out (by (repeat (first | with_reducible exact hB1 | (with_reducible refine bext ?_ _ _) | (with_reducible refine below_drewN ?_ _) | (with_reducible refine Below.drew ?_) | (with_reducible refine bal ?_ _) | (with_reducible refine bset ?_ (by first | omega | (simp <;> omega)) _)))))).mono ?_
      rintro e v2 ⟨rfl, hb2⟩
      have hB2 : Below w.heap.size w v2 := Below.trans (by (repeat (first | with_reducible exact hB1 | (with_reducible refine bext ?_ _ _) | (with_reducible refine below_drewN ?_ _) | (with_reducible refine Below.drew ?_) | (with_reducible refine bal ?_ _) | (with_reducible refine bset ?_ (by first | omega | (simp <;> omega)) _)))) (hb2.mono (by first | exact hB1.size | omega | (simp [ext_size]; try omega)))
      clear hb2 hB1
      clear dAl dSt xC xF xS xN xD xL xE xG xX xL1 xL2 xL3 xM0 xM1 xM2 A1 A2
      go_wp2
      go_ret2
      exact ⟨⟨_, rfl, World.ownsRow_nil _ _ _ _⟩, by (repeat (first | with_reducible exact hB2 | (with_reducible refine bext ?_ _ _) | (with_reducible refine below_drewN ?_ _) | (with_reducible refine Below.drew ?_) | (with_reducible refine bal ?_ _) | (with_reducible refine bset ?_ (by first | omega | (simp <;> omega)) _)))⟩
  · obtain ⟨e1, e2⟩ := mtE_no1 (B := B) h1
    rw [e1, e2]
    have zE : (wcE A != 0) = true := by simp [h1]
    clear e1 e2 h1 hnA hmB
    generalize wcE A = E at *
    have dAl := dAl; have dSt := dSt; have xC := ext_cell; have xF := ext_frozen; have xS := ext_set; have xN := ext_drewN; have xD := ext_drew; have xL := ext_lt; have xE := ext_ne; have xG := ext_nr; have xX := ext_ext; have xL1 := ext_lt1; have xL2 := ext_lt2; have xL3 := ext_lt3; have xM0 := ext_le0; have xM1 := ext_le1; have xM2 := ext_le2
    go_enter Try.func5, Try.ntmps5
    go_wp2_with fail
    with_reducible refine (A1 _ (slW_up HA.out (by (repeat (first | with_reducible exact b0 _ | (with_reducible refine bext ?_ _ _) | (with_reducible refine below_drewN ?_ _) | (with_reducible refine Below.drew ?_) | (with_reducible refine bal ?_ _)))))).mono ?_
    rintro e v1 ⟨rfl, hb1⟩
    have hB1 : Below w.heap.size w v1 := Below.trans (by (repeat (first | with_reducible exact b0 _ | (with_reducible refine bext ?_ _ _) | (with_reducible refine below_drewN ?_ _) | (with_reducible refine Below.drew ?_) | (with_reducible refine bal ?_ _)))) (hb1.mono (by first | omega | (simp [ext_size]; try omega)))
    clear hb1
    clear dAl dSt xC xF xS xN xD xL xE xG xX xL1 xL2 xL3 xM0 xM1 xM2 A1 A2
    go_wp2
    go_ret2
    exact ⟨⟨_, rfl, World.ownsRow_nil _ _ _ _⟩, by (repeat (first | with_reducible exact hB1 | (with_reducible refine bext ?_ _ _) | (with_reducible refine below_drewN ?_ _) | (with_reducible refine Below.drew ?_) | (with_reducible refine bal ?_ _) | (with_reducible refine bset ?_ (by first | omega | (simp <;> omega)) _)))⟩
end Go.Proofs.Ytcigjdadahlgnaa
