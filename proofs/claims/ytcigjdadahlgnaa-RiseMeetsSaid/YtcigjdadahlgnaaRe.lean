/-
  Windows: the next time, by the code and by the reference.
-/
import Derived.Test.YtcigjdadahlgnaaRb
namespace Go.Proofs.Ytcigjdadahlgnaa
open Go.RowKit
set_option linter.unusedVariables false
set_option linter.unusedSimpArgs false
theorem nxW_step (at_ len : Int) (L : List Win) {i : Nat} (h : i < L.length) : nxW at_ len (L.drop i) = if ma2 (fW L i) at_ < tW L i then (if len ≤ tW L i - ma2 (fW L i) at_ then (ma2 (fW L i) at_, 0) else nxW at_ len (L.drop (i + 1))) else nxW at_ len (L.drop (i + 1)) := by
  rw [drop_win L h, nxW]
theorem nxE_no {L : List Win} {at_ len : Int} (h : ¬ wcE L = 0) : nxV L at_ len = 0 ∧ nxE L at_ len = wcE L := by
  unfold nxV nxE; rw [if_neg h, if_neg h]; exact ⟨rfl, rfl⟩
theorem nxE_arg {L : List Win} {at_ len : Int} (h : wcE L = 0) (k : len < 1) : nxV L at_ len = 0 ∧ nxE L at_ len = 2 := by
  unfold nxV nxE; rw [if_pos h, if_pos h, if_pos k, if_pos k]; exact ⟨rfl, rfl⟩
theorem nxE_yes {L : List Win} {at_ len : Int} (h : wcE L = 0) (k : ¬ len < 1) : nxV L at_ len = (nxW at_ len L).1 ∧ nxE L at_ len = (nxW at_ len L).2 := by
  unfold nxV nxE; rw [if_pos h, if_pos h, if_neg k, if_neg k]; exact ⟨rfl, rfl⟩
theorem u64_of (x : Int) (h : 1 ≤ x) (h2 : x ≤ 9223372036854775807) : IntKind.u64.wrap x = x := by
  simp [IntKind.wrap, IntKind.bits, IntKind.signed]; omega
theorem u64_dif {t s : Int} (h : s < t) (h1 : -9223372036854775808 ≤ s) (h2 : t ≤ 9223372036854775807) : IntKind.u64.wrap (IntKind.u64.wrap t - IntKind.u64.wrap s) = t - s := by
  simp [IntKind.wrap, IntKind.bits, IntKind.signed]; omega

set_option maxRecDepth 100000 in
set_option maxHeartbeats 3200000 in
theorem rise_Next (s : Option Addr) (n cap g o : Nat) (L : List Win) (at_ len : Int) (hn : n ≤ 1000000) (hB : ∀ k, k < n → -9223372036854775808 ≤ fW L k ∧ tW L k ≤ 9223372036854775807) (l1 : len ≤ 9223372036854775807) (w : World) (hs : slW w s n g o L) :
    Calls Try.prog 7 #[.slice s n cap, .int .i64 at_, .int .i64 len] w fun e w' => e = .returned (.tuple #[.int .i64 (nxV L at_ len), .int .i64 (nxE L at_ len)]) ∧ Below w.heap.size w w' := by
  have A1 : ∀ u : World, slW u s n g o L → _ := fun u h => rise_Check s n cap g o L hn u h
  have HS := Lib.hid hs
  have hL : n = L.length := hs.1
  clear hs
  by_cases h1 : wcE L = 0
  · rw [h1] at A1
    by_cases h2 : len < 1
    · obtain ⟨e1, e2⟩ := nxE_arg (at_ := at_) h1 h2
      rw [e1, e2]
      have z1 : (len < 1) = True := eq_true h2
      clear e1 e2 h1 h2 hL hB
      have dAl := dAl; have dSt := dSt; have xC := ext_cell; have xF := ext_frozen; have xS := ext_set; have xN := ext_drewN; have xD := ext_drew; have xL := ext_lt; have xE := ext_ne; have xG := ext_nr; have xX := ext_ext; have xL1 := ext_lt1; have xL2 := ext_lt2; have xL3 := ext_lt3; have xM0 := ext_le0; have xM1 := ext_le1; have xM2 := ext_le2
      go_enter Try.func7, Try.ntmps7
      go_wp2_with fail
      with_reducible refine (A1 _ (slW_up HS.out (by (repeat (first | with_reducible exact b0 _ | (with_reducible refine bext ?_ _ _) | (with_reducible refine below_drewN ?_ _) | (with_reducible refine Below.drew ?_) | (with_reducible refine bal ?_ _)))))).mono ?_
      rintro e v1 ⟨rfl, hb1⟩
      have hB1 : Below w.heap.size w v1 := Below.trans (by (repeat (first | with_reducible exact b0 _ | (with_reducible refine bext ?_ _ _) | (with_reducible refine below_drewN ?_ _) | (with_reducible refine Below.drew ?_) | (with_reducible refine bal ?_ _)))) (hb1.mono (by first | omega | (simp [ext_size]; try omega)))
      clear hb1
      clear dAl dSt xC xF xS xN xD xL xE xG xX xL1 xL2 xL3 xM0 xM1 xM2 A1
      go_wp2
      go_ret2
      exact ⟨rfl, by (repeat (first | with_reducible exact hB1 | (with_reducible refine bext ?_ _ _) | (with_reducible refine below_drewN ?_ _) | (with_reducible refine Below.drew ?_) | (with_reducible refine bal ?_ _) | (with_reducible refine bset ?_ (by first | omega | (simp <;> omega)) _)))⟩
    have z1 : (len < 1) = False := eq_false h2
    obtain ⟨e1, e2⟩ := nxE_yes (at_ := at_) h1 h2
    rw [e1, e2]
    obtain ⟨R, hR⟩ : ∃ R, nxW at_ len L = R := ⟨_, rfl⟩
    rw [hR]
    have HR := Lib.hid hR
    have HL := Lib.hid hL
    have HN := Lib.hid (And.intro hn hB)
    have ul := u64_of len (by omega) l1
    clear e1 e2 h1 hR hL hn hB
    have dAl := dAl; have dSt := dSt; have xC := ext_cell; have xF := ext_frozen; have xS := ext_set; have xN := ext_drewN; have xD := ext_drew; have xL := ext_lt; have xE := ext_ne; have xG := ext_nr; have xX := ext_ext; have xL1 := ext_lt1; have xL2 := ext_lt2; have xL3 := ext_lt3; have xM0 := ext_le0; have xM1 := ext_le1; have xM2 := ext_le2
    go_enter Try.func7, Try.ntmps7
    go_wp2_with fail
    with_reducible refine (A1 _ (slW_up HS.out (by (repeat (first | with_reducible exact b0 _ | (with_reducible refine bext ?_ _ _) | (with_reducible refine below_drewN ?_ _) | (with_reducible refine Below.drew ?_) | (with_reducible refine bal ?_ _)))))).mono ?_
    rintro e v1 ⟨rfl, hb1⟩
    have hB1 : Below w.heap.size w v1 := Below.trans (by (repeat (first | with_reducible exact b0 _ | (with_reducible refine bext ?_ _ _) | (with_reducible refine below_drewN ?_ _) | (with_reducible refine Below.drew ?_) | (with_reducible refine bal ?_ _)))) (hb1.mono (by first | omega | (simp [ext_size]; try omega)))
    clear hb1
    clear dAl dSt xC xF xS xN xD xL xE xG xX xL1 xL2 xL3 xM0 xM1 xM2 A1
    have zw1 := hB1.size
    go_wp2_with fail
    go_loopg [21] n (fun kk s21 wr => ∃ i : Nat, kk = n - i ∧ s21 = .int .i64 i ∧ i ≤ n ∧ Hid (nxW at_ len (L.drop i) = R) ∧ Below w.heap.size w wr)
    case atStart => exact ⟨0, rfl, rfl, by omega, HR, hB1⟩
    case round =>
      obtain ⟨i, rfl, rfl, him, HQ, hbr⟩ := hrel
      by_cases hi : i < n
      · obtain ⟨-, q2, q3⟩ := slW_up HS.out hbr
        obtain ⟨rfl, hg⟩ := q2 (by omega)
        obtain ⟨e0, e1⟩ := q3 i hi
        have hb := HN.out.2 i hi
        have hq := HQ.out
        rw [nxW_step at_ len L (by have := HL.out; omega)] at hq
        generalize fW L i = a at *
        generalize tW L i = b at *
        have zi : ((i : Int) < (n : Int)) = True := by simp; omega
        have HI := Lib.hid hi
        have i40 : i ≤ 1000000 := by have := HN.out.1; omega
        have M1 := run_max2
        have hma : ma2 a at_ ≥ a := by unfold ma2; omega
        by_cases hc : ma2 a at_ < b
        · have zc : (ma2 a at_ < b) = True := eq_true hc
          have hd := u64_dif hc (by omega) hb.2
          rw [if_pos hc] at hq
          by_cases hlen : len ≤ b - ma2 a at_
          · have zl : (len ≤ b - ma2 a at_) = True := eq_true hlen
            rw [if_pos hlen] at hq
            have HH := Lib.hid hq
            clear hq hlen hc hb hma q2 q3 hi him
            go_wp2
            go_ret2
            exact ⟨by rw [← HH.out]; rfl, by (repeat (first | with_reducible exact hbr | (with_reducible refine bext ?_ _ _) | (with_reducible refine below_drewN ?_ _) | (with_reducible refine Below.drew ?_) | (with_reducible refine bal ?_ _) | (with_reducible refine bset ?_ (by first | omega | (simp <;> omega)) _)))⟩
          · have zl : (len ≤ b - ma2 a at_) = False := eq_false hlen
            rw [if_neg hlen] at hq
            have HH := Lib.hid hq
            clear hq hlen hc hb hma q2 q3 hi him
            go_wp2
            go_roundg (n - (i + 1))
            case measure => have := HI.out; omega
            case rel => exact ⟨i + 1, rfl, by go_num, by have := HI.out; omega, HH, by (repeat (first | with_reducible exact hbr | (with_reducible refine bext ?_ _ _) | (with_reducible refine below_drewN ?_ _) | (with_reducible refine Below.drew ?_) | (with_reducible refine bal ?_ _) | (with_reducible refine bset ?_ (by first | omega | (simp <;> omega)) _)))⟩
        · have zc : (ma2 a at_ < b) = False := eq_false hc
          rw [if_neg hc] at hq
          have HH := Lib.hid hq
          clear hq hc hb hma q2 q3 hi him
          go_wp2
          go_roundg (n - (i + 1))
          case measure => have := HI.out; omega
          case rel => exact ⟨i + 1, rfl, by go_num, by have := HI.out; omega, HH, by (repeat (first | with_reducible exact hbr | (with_reducible refine bext ?_ _ _) | (with_reducible refine below_drewN ?_ _) | (with_reducible refine Below.drew ?_) | (with_reducible refine bal ?_ _) | (with_reducible refine bset ?_ (by first | omega | (simp <;> omega)) _)))⟩
      · have zi : ((i : Int) < (n : Int)) = False := by simp; omega
        have hq := HQ.out
        rw [drop_end L (by have := HL.out; omega)] at hq
        have HH := Lib.hid hq
        clear hq hi
        go_wp2
        go_ret2
        exact ⟨by rw [← HH.out]; rfl, by (repeat (first | with_reducible exact hbr | (with_reducible refine bext ?_ _ _) | (with_reducible refine below_drewN ?_ _) | (with_reducible refine Below.drew ?_) | (with_reducible refine bal ?_ _) | (with_reducible refine bset ?_ (by first | omega | (simp <;> omega)) _)))⟩
  · obtain ⟨e1, e2⟩ := nxE_no (at_ := at_) (len := len) h1
    rw [e1, e2]
    have zE : (wcE L != 0) = true := by simp [h1]
    clear e1 e2 h1 hL hB
    generalize wcE L = E at *
    have dAl := dAl; have dSt := dSt; have xC := ext_cell; have xF := ext_frozen; have xS := ext_set; have xN := ext_drewN; have xD := ext_drew; have xL := ext_lt; have xE := ext_ne; have xG := ext_nr; have xX := ext_ext; have xL1 := ext_lt1; have xL2 := ext_lt2; have xL3 := ext_lt3; have xM0 := ext_le0; have xM1 := ext_le1; have xM2 := ext_le2
    go_enter Try.func7, Try.ntmps7
    go_wp2_with fail
    with_reducible refine (A1 _ (slW_up HS.out (by (repeat (first | with_reducible exact b0 _ | (with_reducible refine bext ?_ _ _) | (with_reducible refine below_drewN ?_ _) | (with_reducible refine Below.drew ?_) | (with_reducible refine bal ?_ _)))))).mono ?_
    rintro e v1 ⟨rfl, hb1⟩
    have hB1 : Below w.heap.size w v1 := Below.trans (by (repeat (first | with_reducible exact b0 _ | (with_reducible refine bext ?_ _ _) | (with_reducible refine below_drewN ?_ _) | (with_reducible refine Below.drew ?_) | (with_reducible refine bal ?_ _)))) (hb1.mono (by first | omega | (simp [ext_size]; try omega)))
    clear hb1
    clear dAl dSt xC xF xS xN xD xL xE xG xX xL1 xL2 xL3 xM0 xM1 xM2 A1
    go_wp2
    go_ret2
    exact ⟨rfl, by (repeat (first | with_reducible exact hB1 | (with_reducible refine bext ?_ _ _) | (with_reducible refine below_drewN ?_ _) | (with_reducible refine Below.drew ?_) | (with_reducible refine bal ?_ _) | (with_reducible refine bset ?_ (by first | omega | (simp <;> omega)) _)))⟩
theorem run_maxc (P : Program) (k : Array TypeId) (t : TypeId) (p q : Int) (w : World) : Sem.run P (Builtin.max_ k t #[.int .i64 p, .int .i64 q]) w = .ok (.int .i64 (ma2 q p)) w := by
  rw [run_max2]
  unfold ma2
  rw [Int.max_comm]
set_option maxRecDepth 100000 in
set_option maxHeartbeats 3200000 in
theorem ref7_Next (s : Option Addr) (n cap g o : Nat) (L : List Win) (at_ len : Int) (hn : n ≤ 1000000) (hB : ∀ k, k < n → -9223372036854775808 ≤ fW L k ∧ tW L k ≤ 9223372036854775807) (l1 : len ≤ 9223372036854775807) (w : World) (hs : slW w s n g o L) :
    Calls Try.prog 8 #[.slice s n cap, .int .i64 at_, .int .i64 len] w fun e w' => e = .returned (.tuple #[.int .i64 (nxV L at_ len), .int .i64 (nxE L at_ len)]) ∧ Below w.heap.size w w' := by
  have A1 : ∀ u : World, slW u s n g o L → _ := fun u h => ref7_Check s n cap g o L hn u h
  have HS := Lib.hid hs
  have hL : n = L.length := hs.1
  clear hs
  by_cases h1 : wcE L = 0
  · rw [h1] at A1
    by_cases h2 : len < 1
    · obtain ⟨e1, e2⟩ := nxE_arg (at_ := at_) h1 h2
      rw [e1, e2]
      have z1 : (len < 1) = True := eq_true h2
      clear e1 e2 h1 h2 hL hB
      have dAl := dAl; have dSt := dSt; have xC := ext_cell; have xF := ext_frozen; have xS := ext_set; have xN := ext_drewN; have xD := ext_drew; have xL := ext_lt; have xE := ext_ne; have xG := ext_nr; have xX := ext_ext; have xL1 := ext_lt1; have xL2 := ext_lt2; have xL3 := ext_lt3; have xM0 := ext_le0; have xM1 := ext_le1; have xM2 := ext_le2
      go_enter Try.func8, Try.ntmps8
      go_wp2_with fail
      with_reducible refine (A1 _ (slW_up HS.out (by (repeat (first | with_reducible exact b0 _ | (with_reducible refine bext ?_ _ _) | (with_reducible refine below_drewN ?_ _) | (with_reducible refine Below.drew ?_) | (with_reducible refine bal ?_ _)))))).mono ?_
      rintro e v1 ⟨rfl, hb1⟩
      have hB1 : Below w.heap.size w v1 := Below.trans (by (repeat (first | with_reducible exact b0 _ | (with_reducible refine bext ?_ _ _) | (with_reducible refine below_drewN ?_ _) | (with_reducible refine Below.drew ?_) | (with_reducible refine bal ?_ _)))) (hb1.mono (by first | omega | (simp [ext_size]; try omega)))
      clear hb1
      clear dAl dSt xC xF xS xN xD xL xE xG xX xL1 xL2 xL3 xM0 xM1 xM2 A1
      go_wp2
      go_ret2
      exact ⟨rfl, by (repeat (first | with_reducible exact hB1 | (with_reducible refine bext ?_ _ _) | (with_reducible refine below_drewN ?_ _) | (with_reducible refine Below.drew ?_) | (with_reducible refine bal ?_ _) | (with_reducible refine bset ?_ (by first | omega | (simp <;> omega)) _)))⟩
    have z1 : (len < 1) = False := eq_false h2
    obtain ⟨e1, e2⟩ := nxE_yes (at_ := at_) h1 h2
    rw [e1, e2]
    obtain ⟨R, hR⟩ : ∃ R, nxW at_ len L = R := ⟨_, rfl⟩
    rw [hR]
    have HR := Lib.hid hR
    have HL := Lib.hid hL
    have HN := Lib.hid (And.intro hn hB)
    have ul := u64_of len (by omega) l1
    clear e1 e2 h1 hR hL hn hB
    have dAl := dAl; have dSt := dSt; have xC := ext_cell; have xF := ext_frozen; have xS := ext_set; have xN := ext_drewN; have xD := ext_drew; have xL := ext_lt; have xE := ext_ne; have xG := ext_nr; have xX := ext_ext; have xL1 := ext_lt1; have xL2 := ext_lt2; have xL3 := ext_lt3; have xM0 := ext_le0; have xM1 := ext_le1; have xM2 := ext_le2
    go_enter Try.func8, Try.ntmps8
    go_wp2_with fail
    with_reducible refine (A1 _ (slW_up HS.out (by (repeat (first | with_reducible exact b0 _ | (with_reducible refine bext ?_ _ _) | (with_reducible refine below_drewN ?_ _) | (with_reducible refine Below.drew ?_) | (with_reducible refine bal ?_ _)))))).mono ?_
    rintro e v1 ⟨rfl, hb1⟩
    have hB1 : Below w.heap.size w v1 := Below.trans (by (repeat (first | with_reducible exact b0 _ | (with_reducible refine bext ?_ _ _) | (with_reducible refine below_drewN ?_ _) | (with_reducible refine Below.drew ?_) | (with_reducible refine bal ?_ _)))) (hb1.mono (by first | omega | (simp [ext_size]; try omega)))
    clear hb1
    clear dAl dSt xC xF xS xN xD xL xE xG xX xL1 xL2 xL3 xM0 xM1 xM2 A1
    have zw1 := hB1.size
    go_wp2_with fail
    go_loopg [8] n (fun kk s8 wr => ∃ i : Nat, kk = n - i ∧ s8 = .int .i64 i ∧ i ≤ n ∧ Hid (nxW at_ len (L.drop i) = R) ∧ Below w.heap.size w wr)
    case atStart => exact ⟨0, rfl, rfl, by omega, HR, hB1⟩
    case round =>
      obtain ⟨i, rfl, rfl, him, HQ, hbr⟩ := hrel
      by_cases hi : i < n
      · obtain ⟨-, q2, q3⟩ := slW_up HS.out hbr
        obtain ⟨rfl, hg⟩ := q2 (by omega)
        obtain ⟨e0, e1⟩ := q3 i hi
        have hb := HN.out.2 i hi
        have hq := HQ.out
        rw [nxW_step at_ len L (by have := HL.out; omega)] at hq
        generalize fW L i = a at *
        generalize tW L i = b at *
        have zi : ((i : Int) < (n : Int)) = True := by simp; omega
        have HI := Lib.hid hi
        have i40 : i ≤ 1000000 := by have := HN.out.1; omega
        have M1 := run_maxc
        have hma : ma2 a at_ ≥ a := by unfold ma2; omega
        by_cases hc : ma2 a at_ < b
        · have zc : (ma2 a at_ < b) = True := eq_true hc
          have hd := u64_dif hc (by omega) hb.2
          rw [if_pos hc] at hq
          by_cases hlen : len ≤ b - ma2 a at_
          · have zl : (len ≤ b - ma2 a at_) = True := eq_true hlen
            rw [if_pos hlen] at hq
            have HH := Lib.hid hq
            clear hq hlen hc hb hma q2 q3 hi him
            go_wp2
            go_ret2
            exact ⟨by rw [← HH.out]; rfl, by (repeat (first | with_reducible exact hbr | (with_reducible refine bext ?_ _ _) | (with_reducible refine below_drewN ?_ _) | (with_reducible refine Below.drew ?_) | (with_reducible refine bal ?_ _) | (with_reducible refine bset ?_ (by first | omega | (simp <;> omega)) _)))⟩
          · have zl : (len ≤ b - ma2 a at_) = False := eq_false hlen
            rw [if_neg hlen] at hq
            have HH := Lib.hid hq
            clear hq hlen hc hb hma q2 q3 hi him
            go_wp2
            go_roundg (n - (i + 1))
            case measure => have := HI.out; omega
            case rel => exact ⟨i + 1, rfl, by go_num, by have := HI.out; omega, HH, by (repeat (first | with_reducible exact hbr | (with_reducible refine bext ?_ _ _) | (with_reducible refine below_drewN ?_ _) | (with_reducible refine Below.drew ?_) | (with_reducible refine bal ?_ _) | (with_reducible refine bset ?_ (by first | omega | (simp <;> omega)) _)))⟩
        · have zc : (ma2 a at_ < b) = False := eq_false hc
          rw [if_neg hc] at hq
          have HH := Lib.hid hq
          clear hq hc hb hma q2 q3 hi him
          go_wp2
          go_roundg (n - (i + 1))
          case measure => have := HI.out; omega
          case rel => exact ⟨i + 1, rfl, by go_num, by have := HI.out; omega, HH, by (repeat (first | with_reducible exact hbr | (with_reducible refine bext ?_ _ _) | (with_reducible refine below_drewN ?_ _) | (with_reducible refine Below.drew ?_) | (with_reducible refine bal ?_ _) | (with_reducible refine bset ?_ (by first | omega | (simp <;> omega)) _)))⟩
      · have zi : ((i : Int) < (n : Int)) = False := by simp; omega
        have hq := HQ.out
        rw [drop_end L (by have := HL.out; omega)] at hq
        have HH := Lib.hid hq
        clear hq hi
        go_wp2
        go_ret2
        exact ⟨by rw [← HH.out]; rfl, by (repeat (first | with_reducible exact hbr | (with_reducible refine bext ?_ _ _) | (with_reducible refine below_drewN ?_ _) | (with_reducible refine Below.drew ?_) | (with_reducible refine bal ?_ _) | (with_reducible refine bset ?_ (by first | omega | (simp <;> omega)) _)))⟩
  · obtain ⟨e1, e2⟩ := nxE_no (at_ := at_) (len := len) h1
    rw [e1, e2]
    have zE : (wcE L != 0) = true := by simp [h1]
    clear e1 e2 h1 hL hB
    generalize wcE L = E at *
    have dAl := dAl; have dSt := dSt; have xC := ext_cell; have xF := ext_frozen; have xS := ext_set; have xN := ext_drewN; have xD := ext_drew; have xL := ext_lt; have xE := ext_ne; have xG := ext_nr; have xX := ext_ext; have xL1 := ext_lt1; have xL2 := ext_lt2; have xL3 := ext_lt3; have xM0 := ext_le0; have xM1 := ext_le1; have xM2 := ext_le2
    go_enter Try.func8, Try.ntmps8
    go_wp2_with fail
    with_reducible refine (A1 _ (slW_up HS.out (by (repeat (first | with_reducible exact b0 _ | (with_reducible refine bext ?_ _ _) | (with_reducible refine below_drewN ?_ _) | (with_reducible refine Below.drew ?_) | (with_reducible refine bal ?_ _)))))).mono ?_
    rintro e v1 ⟨rfl, hb1⟩
    have hB1 : Below w.heap.size w v1 := Below.trans (by (repeat (first | with_reducible exact b0 _ | (with_reducible refine bext ?_ _ _) | (with_reducible refine below_drewN ?_ _) | (with_reducible refine Below.drew ?_) | (with_reducible refine bal ?_ _)))) (hb1.mono (by first | omega | (simp [ext_size]; try omega)))
    clear hb1
    go_wp2_with fail
    with_reducible refine (A1 _ (slW_up HS.out (by (repeat (first | with_reducible exact hB1 | (with_reducible refine bext ?_ _ _) | (with_reducible refine below_drewN ?_ _) | (with_reducible refine Below.drew ?_) | (with_reducible refine bal ?_ _) | (with_reducible refine bset ?_ (by first | omega | (simp <;> omega)) _)))))).mono ?_
    rintro e v2 ⟨rfl, hb2⟩
    have hB2 : Below w.heap.size w v2 := Below.trans (by (repeat (first | with_reducible exact hB1 | (with_reducible refine bext ?_ _ _) | (with_reducible refine below_drewN ?_ _) | (with_reducible refine Below.drew ?_) | (with_reducible refine bal ?_ _) | (with_reducible refine bset ?_ (by first | omega | (simp <;> omega)) _)))) (hb2.mono (by first | exact hB1.size | omega | (simp [ext_size]; try omega)))
    clear hb2 hB1
    clear dAl dSt xC xF xS xN xD xL xE xG xX xL1 xL2 xL3 xM0 xM1 xM2 A1
    go_wp2
    go_ret2
    exact ⟨rfl, by (repeat (first | with_reducible exact hB2 | (with_reducible refine bext ?_ _ _) | (with_reducible refine below_drewN ?_ _) | (with_reducible refine Below.drew ?_) | (with_reducible refine bal ?_ _) | (with_reducible refine bset ?_ (by first | omega | (simp <;> omega)) _)))⟩
end Go.Proofs.Ytcigjdadahlgnaa
