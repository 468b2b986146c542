/-
  RiseMeets, walked.
-/
import Derived.Test.YtcigjdadahlgnaaRf
import Derived.Laws.AppendOwnNone
namespace Go.Proofs.Ytcigjdadahlgnaa
open Go.RowKit
set_option linter.unusedVariables false
set_option linter.unusedSimpArgs false
theorem opqW {G : World → Prop} {W : World} (P : World → Prop) (hP : P W) (h : ∀ w, P w → G w) : G W := h W hP
theorem cells_src {w : World} {n g o : Nat} {L : List Win} (h : slW w (some ⟨g, o, none⟩) n g o L) : ∀ (j : Nat) (u : Value), (cellsW L)[j]? = some u → w.cell? ((⟨g, o, none⟩ : Addr).add j) = some u := by
  intro j u hj
  obtain ⟨h1, h2, h3⟩ := h
  have hlt : j < (cellsW L).length := (List.getElem?_eq_some_iff.1 hj).1
  rw [cellsW_len] at hlt
  have e : ((⟨g, o, none⟩ : Addr).add j) = ⟨g, o + j, none⟩ := by
    unfold Addr.add
    by_cases h0 : j = 0
    · simp [h0]
    · simp [h0]
  rw [e]
  rcases Nat.mod_two_eq_zero_or_one j with hp | hp
  · obtain ⟨k, rfl⟩ : ∃ k, j = k * 2 := ⟨j / 2, by omega⟩
    have := (cellsW_at L (k := k) (by omega)).1
    rw [this] at hj
    cases hj
    exact (h3 k (by omega)).1
  · obtain ⟨k, rfl⟩ : ∃ k, j = k * 2 + 1 := ⟨j / 2, by omega⟩
    have := (cellsW_at L (k := k) (by omega)).2
    rw [this] at hj
    cases hj
    exact (h3 k (by omega)).2
theorem cells_one (L : List Win) : ∀ u ∈ cellsW L, u.oneCell' = true := by
  intro u hu
  unfold cellsW at hu
  obtain ⟨v, _, hv⟩ := List.mem_flatMap.1 hu
  simp at hv
  rcases hv with rfl | rfl <;> rfl

set_option maxRecDepth 100000 in
set_option maxHeartbeats 6400000 in
theorem meets7 (sa sb : Option Addr) (n m ca cb ga oa gb ob : Nat) (A B : List Win) (at_ len : Int) (hsa : sa = none → n = 0 ∧ ca = 0) (hca : n ≤ ca) (hcb : m ≤ cb) (hbd : ∀ k, k < n → -9223372036854775808 ≤ fW A k ∧ tW A k ≤ 9223372036854775807) (l1 : len ≤ 9223372036854775807) (w : World) (ha : slW w sa n ga oa A) (hb : slW w sb m gb ob B) :
    Calls Try.prog 3 #[.slice sa n ca, .slice sb m cb, .int .i64 at_, .int .i64 len] w fun e w' => e = .returned (.bool true) ∧ Below w.heap.size w w' := by
  have G1 := fun u => ref7_Great sa n ca u
  have G2 := fun u => ref7_Great sb m cb u
  by_cases h1 : (40 < n ∧ n ≤ 1000) ∨ 1010 < n
  · rw [decide_eq_true h1] at G1
    clear ha hb h1
    have dAl := dAl; have dSt := dSt; have xC := ext_cell; have xF := ext_frozen; have xS := ext_set; have xN := ext_drewN; have xD := ext_drew; have xL := ext_lt; have xE := ext_ne; have xG := ext_nr; have xX := ext_ext; have xL1 := ext_lt1; have xL2 := ext_lt2; have xL3 := ext_lt3; have xM0 := ext_le0; have xM1 := ext_le1; have xM2 := ext_le2
    go_enter Try.func3, Try.ntmps3
    go_wp2_with fail
    refine (G1 _).mono ?_
    rintro e w1c ⟨rfl, hb1c⟩
    obtain ⟨l1c, d1c, rfl⟩ := toExt hb1c
    clear hb1c
    go_wp2
    go_ret
    exact ⟨rfl, by (repeat (first | with_reducible exact b0 _ | (with_reducible refine bext ?_ _ _) | (with_reducible refine below_drewN ?_ _) | (with_reducible refine Below.drew ?_) | (with_reducible refine bal ?_ _)))⟩
  rw [decide_eq_false h1] at G1
  by_cases h2 : (40 < m ∧ m ≤ 1000) ∨ 1010 < m
  · rw [decide_eq_true h2] at G2
    clear ha hb h1 h2
    have dAl := dAl; have dSt := dSt; have xC := ext_cell; have xF := ext_frozen; have xS := ext_set; have xN := ext_drewN; have xD := ext_drew; have xL := ext_lt; have xE := ext_ne; have xG := ext_nr; have xX := ext_ext; have xL1 := ext_lt1; have xL2 := ext_lt2; have xL3 := ext_lt3; have xM0 := ext_le0; have xM1 := ext_le1; have xM2 := ext_le2
    go_enter Try.func3, Try.ntmps3
    go_wp2_with fail
    refine (G1 _).mono ?_
    rintro e w2c ⟨rfl, hb2c⟩
    obtain ⟨l2c, d2c, rfl⟩ := toExt hb2c
    clear hb2c
    go_wp2_with fail
    refine (G2 _).mono ?_
    rintro e w3c ⟨rfl, hb3c⟩
    obtain ⟨l3c, d3c, rfl⟩ := toExt hb3c
    clear hb3c
    go_wp2
    go_ret
    exact ⟨rfl, by (repeat (first | with_reducible exact b0 _ | (with_reducible refine bext ?_ _ _) | (with_reducible refine below_drewN ?_ _) | (with_reducible refine Below.drew ?_) | (with_reducible refine bal ?_ _)))⟩
  rw [decide_eq_false h2] at G2
  have n40 : n ≤ 1010 := by omega
  have m40 : m ≤ 1010 := by omega
  have A1 : ∀ u : World, slW u sa n ga oa A → slW u sb m gb ob B → _ := fun u h k => rise_Meet sa sb n m ca cb ga oa gb ob A B (by omega) (by omega) hca hcb u h k
  have A2 : ∀ u : World, slW u sa n ga oa A → slW u sb m gb ob B → _ := fun u h k => ref7_Meet sa sb n m ca cb ga oa gb ob A B (by omega) (by omega) u h k
  have A3 : ∀ u : World, slW u sa n ga oa A → _ := fun u h => rise_Next sa n ca ga oa A at_ len (by omega) hbd l1 u h
  have A4 : ∀ u : World, slW u sa n ga oa A → _ := fun u h => ref7_Next sa n ca ga oa A at_ len (by omega) hbd l1 u h
  have A5 : ∀ u : World, slW u sa n ga oa A → _ := fun u h => rise_Check sa n ca ga oa A (by omega) u h
  have A6 : ∀ u : World, slW u sa n ga oa A → _ := fun u h => ref7_Check sa n ca ga oa A (by omega) u h
  have hml : (mtW A B).length ≤ 1000000 := by
    by_cases k1 : wcE A = 0
    · by_cases k2 : wcE B = 0
      · by_cases k3 : 1000 < (refM A B).length
        · rw [((mtE_yes k1 k2).1 k3).2]; simp
        · rw [((mtE_yes k1 k2).2 k3).2]; omega
      · rw [(mtE_no2 k1 k2).2]; simp
    · rw [(mtE_no1 k1).2]; simp
  have S1 : ∀ (u : World) (s1 s2 : Option Addr) (c1 c2 g1 g2 : Nat), slW u s1 (mtW A B).length g1 0 (mtW A B) → slW u s2 (mtW A B).length g2 0 (mtW A B) → _ := fun u s1 s2 c1 c2 g1 g2 h k => ref7_Same s1 s2 (mtW A B).length c1 c2 g1 0 g2 0 (mtW A B) hml u h k
  have S2 : ∀ (u : World) (s2 : Option Addr) (c2 g2 : Nat), slW u sa n ga oa A → slW u s2 n g2 0 A → _ := fun u s2 c2 g2 h k => ref7_Same sa s2 n ca c2 ga oa g2 0 A (by omega) u h k
  have HA := Lib.hid ha
  have HB := Lib.hid hb
  have HS1 := Lib.hid S1
  have HS2 := Lib.hid S2
  have HA1 := Lib.hid A1
  have HA2 := Lib.hid A2
  have HA3 := Lib.hid A3
  have HA4 := Lib.hid A4
  have HA5 := Lib.hid A5
  have HA6 := Lib.hid A6
  have HN := Lib.hid (And.intro n40 hsa)
  obtain ⟨i0, hi, hzz⟩ := Option.map_eq_some_iff.1 infoWin
  simp only [Prod.mk.injEq] at hzz
  obtain ⟨hz0, hz1, hz2⟩ := hzz
  have HI0 := Lib.hid (And.intro hi (And.intro hz0 (And.intro hz1 hz2)))
  clear ha hb h1 h2 S1 S2 A1 A2 A3 A4 A5 A6 hml hbd hi hz0 hz1 hz2 n40 m40 hsa hca hcb
  generalize hM : mtW A B = M at *
  clear hM
  generalize mtE A B = E at *
  generalize nxV A at_ len = X at *
  generalize nxE A at_ len = Y at *
  generalize wcE A = Z at *
  have dAl := dAl; have dSt := dSt; have xC := ext_cell; have xF := ext_frozen; have xS := ext_set; have xN := ext_drewN; have xD := ext_drew; have xL := ext_lt; have xE := ext_ne; have xG := ext_nr; have xX := ext_ext; have xL1 := ext_lt1; have xL2 := ext_lt2; have xL3 := ext_lt3; have xM0 := ext_le0; have xM1 := ext_le1; have xM2 := ext_le2
  go_enter Try.func3, Try.ntmps3
  go_wp2_with fail
  refine (G1 _).mono ?_
  rintro e w4c ⟨rfl, hb4c⟩
  obtain ⟨l4c, d4c, rfl⟩ := toExt hb4c
  clear hb4c
  go_wp2_with fail
  refine (G2 _).mono ?_
  rintro e w5c ⟨rfl, hb5c⟩
  obtain ⟨l5c, d5c, rfl⟩ := toExt hb5c
  clear hb5c
  go_upto_region 3 with fail
  go_cut [9] (fun s9 wx => ∃ (s2 : Option Addr) (c2 g2 : Nat), s9 = .slice s2 n c2 ∧ slW wx s2 n g2 0 A ∧ Below w.heap.size w wx)
  case first =>
    obtain ⟨j1, j2, j3, j4⟩ := HI0.out
    clear G1 G2
    refine opqW (fun wx => Below w.heap.size w wx) ?_ ?_
    · (repeat (first | with_reducible exact b0 _ | (with_reducible refine bext ?_ _ _) | (with_reducible refine below_drewN ?_ _) | (with_reducible refine Below.drew ?_) | (with_reducible refine bal ?_ _)))
    rintro wx hbx
    have hax := slW_up HA.out hbx
    have zx := hbx.size
    have HNA := Lib.hid hax.1
    have hown := World.ownsRow_lit (base := wx.heap.size) (e := 38) (size := 2) wx #[] 0 (Nat.le_refl _) (by decide) rfl
    cases sa with
    | none =>
      obtain ⟨n0, c0⟩ := HN.out.2 rfl
      subst n0 c0
      clear hax
      go_wp2_with (at_builtin; refine wpList_append_own_none _ rfl _ _ 22 rfl wx.heap.size 38 i0 2 Try.underlying22 j1 _ 0 [] rfl hown rfl ?_)
      go_meet
      exact ⟨_, _, 0, rfl, ⟨HNA.out, fun h => by omega, fun k hk => by omega⟩, by (repeat (first | with_reducible exact hbx | (with_reducible refine bext ?_ _ _) | (with_reducible refine below_drewN ?_ _) | (with_reducible refine Below.drew ?_) | (with_reducible refine bal ?_ _) | (with_reducible refine bset ?_ (by first | omega | (simp <;> omega)) _)))⟩
    | some ad =>
      have hsrc2 : ∀ (j : Nat) (u : Value), (cellsW A)[j]? = some u → (wx.alloc (.cells #[] 38)).cell? (ad.add j) = some u := by
        intro j u hj
        have hlt : j < (cellsW A).length := (List.getElem?_eq_some_iff.1 hj).1
        rw [cellsW_len, ← HNA.out] at hlt
        obtain ⟨hs, hg⟩ := hax.2.1 (by omega)
        cases hs
        have h := cells_src hax j u hj
        have e : ((⟨ga, oa, none⟩ : Addr).add j).block = ga := by
          unfold Addr.add
          split <;> rfl
        rw [← h]
        exact ((Below.refl wx.heap.size wx).alloc (Nat.le_refl _) _).cell (by rw [e]; exact hg)
      have h1010 := HN.out.1
      have hsz := World.size_alloc wx (.cells #[] 38)
      have HAX := Lib.hid hax
      have HSR := Lib.hid hsrc2
      clear hax hsrc2
      go_wp2_with (at_builtin; refine wpList_append_own _ rfl _ _ 22 rfl wx.heap.size 38 i0 (.agg zeroW) 2 16 Try.underlying22 j1 j2 j3 j4 rfl (by decide) _ _ _ rfl hown ad n ca (cellsW A) rfl ?c1 HSR.out (cells_one A) ?c2 ?c3 ?c4 ?_)
      case c1 => rw [cellsW_len, ← HNA.out]
      case c2 => unfold maxLen; omega
      case c3 => omega
      all_goals (try case c4 => omega)
      intro v' w2 hown' hgrow _
      rw [HNA.out] at hown'
      obtain ⟨s2, c2, g2, rfl, hs2⟩ := slW_own hown'
      rw [← HNA.out] at hs2
      have hB2 : Below w.heap.size w w2 := Below.grown (Below.alloc hbx zx _) hgrow (by omega) (fun j hj => by have := (hown.lt j hj).1; omega)
      clear hown hown' hgrow j1 j2 j3 j4
      have hs3 := Lib.hid hs2
      clear hs2
      rw [← HNA.out]
      go_wp2_with fail
      go_meet
      exact ⟨_, _, _, rfl, hs3.out, by (repeat (first | with_reducible exact hB2 | (with_reducible refine bext ?_ _ _) | (with_reducible refine below_drewN ?_ _) | (with_reducible refine Below.drew ?_) | (with_reducible refine bal ?_ _) | (with_reducible refine bset ?_ (by first | omega | (simp <;> omega)) _)))⟩
  case rest =>
    obtain ⟨s2, c2, g2, rfl, hw2, hB0⟩ := hcut
    have HW2 := Lib.hid hw2
    have zw0 := hB0.size
    clear hw2 G1 G2
    go_wp2_with fail
    with_reducible refine (HA1.out _ (slW_up HA.out (by (repeat (first | with_reducible exact hB0 | (with_reducible refine bext ?_ _ _) | (with_reducible refine below_drewN ?_ _) | (with_reducible refine Below.drew ?_) | (with_reducible refine bal ?_ _) | (with_reducible refine bset ?_ (by first | omega | (simp <;> omega)) _))))) (slW_up HB.out (by (repeat (first | with_reducible exact hB0 | (with_reducible refine bext ?_ _ _) | (with_reducible refine below_drewN ?_ _) | (with_reducible refine Below.drew ?_) | (with_reducible refine bal ?_ _) | (with_reducible refine bset ?_ (by first | omega | (simp <;> omega)) _)))))).mono ?_
    rintro e v1 ⟨⟨x1, rfl, ho1⟩, hb1⟩
    have hB1 : Below w.heap.size w v1 := Below.trans hB0 (hb1.mono zw0)
    have zw1 := hB1.size
    obtain ⟨s3, c3, g3, rfl, hs3⟩ := slW_own ho1
    have HW3 := Lib.hid (slW_up HW2.out hb1)
    have HM1 := Lib.hid hs3
    clear hs3 ho1 hb1 hB0 zw0 HW2
    go_wp2_with fail
    with_reducible refine (HA2.out _ (slW_up HA.out (by (repeat (first | with_reducible exact hB1 | (with_reducible refine bext ?_ _ _) | (with_reducible refine below_drewN ?_ _) | (with_reducible refine Below.drew ?_) | (with_reducible refine bal ?_ _) | (with_reducible refine bset ?_ (by first | omega | (simp <;> omega)) _))))) (slW_up HB.out (by (repeat (first | with_reducible exact hB1 | (with_reducible refine bext ?_ _ _) | (with_reducible refine below_drewN ?_ _) | (with_reducible refine Below.drew ?_) | (with_reducible refine bal ?_ _) | (with_reducible refine bset ?_ (by first | omega | (simp <;> omega)) _)))))).mono ?_
    rintro e v2 ⟨⟨x2, rfl, ho2⟩, hb2⟩
    have hB2 : Below w.heap.size w v2 := Below.trans hB1 (hb2.mono zw1)
    have zw2 := hB2.size
    obtain ⟨s4, c4, g4, rfl, hs4⟩ := slW_own ho2
    have HW4 := Lib.hid (slW_up HW3.out hb2)
    have HM2 := Lib.hid (slW_up HM1.out hb2)
    have HM3 := Lib.hid hs4
    clear hs4 ho2 hb2 hB1 zw1 HW3 HM1
    go_wp2_with fail
    with_reducible refine (HA3.out _ (slW_up HA.out (by (repeat (first | with_reducible exact hB2 | (with_reducible refine bext ?_ _ _) | (with_reducible refine below_drewN ?_ _) | (with_reducible refine Below.drew ?_) | (with_reducible refine bal ?_ _) | (with_reducible refine bset ?_ (by first | omega | (simp <;> omega)) _)))))).mono ?_
    rintro e v3 ⟨rfl, hb3⟩
    have hB3 : Below w.heap.size w v3 := Below.trans hB2 (hb3.mono zw2)
    have zw3 := hB3.size
    have HW5 := Lib.hid (slW_up HW4.out hb3)
    have HM4 := Lib.hid (slW_up HM2.out hb3)
    have HM5 := Lib.hid (slW_up HM3.out hb3)
    clear hb3 hB2 zw2 HW4 HM2 HM3
    go_wp2_with fail
    with_reducible refine (HA4.out _ (slW_up HA.out (by (repeat (first | with_reducible exact hB3 | (with_reducible refine bext ?_ _ _) | (with_reducible refine below_drewN ?_ _) | (with_reducible refine Below.drew ?_) | (with_reducible refine bal ?_ _) | (with_reducible refine bset ?_ (by first | omega | (simp <;> omega)) _)))))).mono ?_
    rintro e v4 ⟨rfl, hb4⟩
    have hB4 : Below w.heap.size w v4 := Below.trans hB3 (hb4.mono zw3)
    have zw4 := hB4.size
    have HW6 := Lib.hid (slW_up HW5.out hb4)
    have HM6 := Lib.hid (slW_up HM4.out hb4)
    have HM7 := Lib.hid (slW_up HM5.out hb4)
    clear hb4 hB3 zw3 HW5 HM4 HM5
    go_wp2_with fail
    with_reducible refine (HA5.out _ (slW_up HA.out (by (repeat (first | with_reducible exact hB4 | (with_reducible refine bext ?_ _ _) | (with_reducible refine below_drewN ?_ _) | (with_reducible refine Below.drew ?_) | (with_reducible refine bal ?_ _) | (with_reducible refine bset ?_ (by first | omega | (simp <;> omega)) _)))))).mono ?_
    rintro e v5 ⟨rfl, hb5⟩
    have hB5 : Below w.heap.size w v5 := Below.trans hB4 (hb5.mono zw4)
    have zw5 := hB5.size
    have HW7 := Lib.hid (slW_up HW6.out hb5)
    have HM8 := Lib.hid (slW_up HM6.out hb5)
    have HM9 := Lib.hid (slW_up HM7.out hb5)
    clear hb5 hB4 zw4 HW6 HM6 HM7
    go_wp2_with fail
    with_reducible refine (HA6.out _ (slW_up HA.out (by (repeat (first | with_reducible exact hB5 | (with_reducible refine bext ?_ _ _) | (with_reducible refine below_drewN ?_ _) | (with_reducible refine Below.drew ?_) | (with_reducible refine bal ?_ _) | (with_reducible refine bset ?_ (by first | omega | (simp <;> omega)) _)))))).mono ?_
    rintro e v6 ⟨rfl, hb6⟩
    have hB6 : Below w.heap.size w v6 := Below.trans hB5 (hb6.mono zw5)
    have zw6 := hB6.size
    have HW8 := Lib.hid (slW_up HW7.out hb6)
    have HN0 := Lib.hid (slW_up HM8.out hb6)
    have HN1 := Lib.hid (slW_up HM9.out hb6)
    clear hb6 hB5 zw5 HW7 HM8 HM9
    go_wp2_with fail
    with_reducible refine (HS1.out _ s3 s4 c3 c4 g3 g4 HN0.out HN1.out).mono ?_
    rintro e v7 ⟨rfl, hb7⟩
    have hB7 : Below w.heap.size w v7 := Below.trans hB6 (hb7.mono zw6)
    have zw7 := hB7.size
    have HW9 := Lib.hid (slW_up HW8.out hb7)
    clear hb7 hB6 zw6 HW8 HN0 HN1
    go_wp2_with fail
    with_reducible refine (HS2.out _ s2 c2 g2 (slW_up HA.out (by (repeat (first | with_reducible exact hB7 | (with_reducible refine bext ?_ _ _) | (with_reducible refine below_drewN ?_ _) | (with_reducible refine Below.drew ?_) | (with_reducible refine bal ?_ _) | (with_reducible refine bset ?_ (by first | omega | (simp <;> omega)) _))))) HW9.out).mono ?_
    rintro e v8 ⟨rfl, hb8⟩
    have hB8 : Below w.heap.size w v8 := Below.trans hB7 (hb8.mono zw7)
    go_wp2
    go_ret
    exact ⟨rfl, hB8⟩
end Go.Proofs.Ytcigjdadahlgnaa
