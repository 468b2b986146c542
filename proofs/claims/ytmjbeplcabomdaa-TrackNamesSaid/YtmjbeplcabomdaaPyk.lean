/-
  TrackNames, part by part: part 9.
-/
import Derived.Test.YtmjbeplcabomdaaPya
namespace Go.Proofs.Ytmjbeplcabomdaa
open Go.RowKit
set_option linter.unusedVariables false
set_option linter.unusedSimpArgs false
set_option maxRecDepth 100000 in
set_option maxHeartbeats 25600000 in
theorem sg9 (w : World) (hn : Sg10 w) : Sg9 w := by
  intro wz0 g g6 hf xv m o u2 u4 u6 u12 u14 u16 u18 u20 u22 u31 u33 u35 u37 u39 u40 u41 u42 u43 u44 u45 u46 u47 u48 u49 u50 u51 u52 u53 u54 u55 u56 u57 u58 u59 u60 u61 u62 u63 u64 u65 u66 u67 u68 u69 u70 u71 u72 u73 u74 u75 u76 u77 u78 u79 u80 u81 u82 u83 u84 u85 u86 u87 u88 u89 u90 u91 u92 u93 u94 u95 u96 u97 u98 u99 u100 u101 u102 u103 u104 u105 u106 u107 u108 u109 u110 u111 u112 u113 u114 u115 u116 u117 u118 u119 u120 u121 u122 u123 u124 u125 u126 u127 u128 u129 u130 u131 u132 u133 u134 u135 u136 u137 u138 u139 u140 u141 u142 u143 u144 u145 u146 u147 u148 u149 u150 u151 u152 u153 u154 u155 u156 u157 u158 u159 u160 u161 u162 u163 u164 u165 u166 u167 u168 u169 u170 u171 u172 u173 u174 u175 u176 u177 u178 u179 u180 u181 u182 u183 u184 u185 u186 u187 u188 u189 u190 u191 u192 u193 u194 u195 u196 u197 u198 u199 u200 u201 u202 u203 u204 u205 u206 u207 u208 u209 u210 u211 u212 u213 u214 u215 u216 u217 u218 u219 u220 u221 u222 u223 u224 u225 u226 u227 u228 u229 u230 u231 u232 u233 u234 u235 u236 u237 u238 u239 u240 u241 u242 u243 u244 u245 u246 u247 u248 u249 u250 u251 u252 u253 u254 u255 u256 u257 u258 u259 u260 u261 u262 u263 u264 u265 u266 u267 u268 u269 u270 u271 u272 u273 u274 u275 u276 u277 u278 u279 u280 u281 u282 u283 u284 u285 u286 u287 u288 u289 u290 u291 u292 u293 u294 u295 u296 u297 u298 u299 u300 u301 u302 u303 u304 u305 u306 u307 u308 u309 u310 u311 u312 u313 u314 u315 u316 u317 u318 u319 u320 u321 u322 u323 u324 u325 u326 u327 u328 u329 u330 u331 u332 u333 u334 u335 u336 u337 u338 u339 u340 u341 u342 u343 u344 u345 u346 u347 u348 u349 u350 u351 u352 u353 cg_0_wz0 cg_1_wz0 cg_2_wz0 cg_3_wz0 cg_4_wz0 cg_5_wz0 cg_6_wz0 cg_7_wz0 cg_8_wz0 cg_9_wz0 cg_10_wz0 cg_11_wz0 cg_14_wz0 cg_15_wz0 zg_wz0 zg6_wz0 chf_0_wz0 chf_1_wz0 zhf_wz0 cxv_0_wz0 cxv_1_wz0 cxv_2_wz0 cxv_3_wz0 cxv_4_wz0 cxv_5_wz0 zxv_wz0 cm_0_wz0 cm_1_wz0 zm_wz0 co_0_wz0 co_1_wz0 zo_wz0 hW1000
  have NM0_0 := fun w => law6_named 0 0 w
  have NM0_999 := fun w => law6_named 0 999 w
  have NM10_20 := fun w => law6_named 10 20 w
  have AB := fun w => track_Apart_bad sN sN 0 0 0 999 (by decide +kernel) (by decide +kernel) w
  have AV := fun w => track_Apart_ok sN sN 10 20 10 20 999997 1000001 0 (by decide +kernel) (by decide +kernel) (by decide +kernel) w
  generalize sN = nm at *
  have HNM0_0 := Lib.hid NM0_0
  have HNM0_999 := Lib.hid NM0_999
  have HNM10_20 := Lib.hid NM10_20
  have HAB := Lib.hid AB
  have HAV := Lib.hid AV
  clear NM0_0 NM0_999 NM10_20 AB AV
  have dAl := dAl; have dSt := dSt; have xC := ext_cell; have xF := ext_frozen; have xS := ext_set; have xN := ext_drewN; have xD := ext_drew; have xL := ext_lt; have xE := ext_ne; have xG := ext_nr; have xX := ext_ext; have xL1 := ext_lt1; have xL2 := ext_lt2; have xL3 := ext_lt3; have xM0 := ext_le0; have xM1 := ext_le1; have xM2 := ext_le2
  conv => arg 2; whnf
  go_upto_region 24 with fail
  go_cut [40] (fun s40 wz1001 => s40 = .int .i64 8 ∧ Below wz0.heap.size wz0 wz1001)
  case first =>
    as_aux_lemma =>
      have NM0_0 := HNM0_0.out
      have NM0_999 := HNM0_999.out
      have AB := HAB.out
      go_wp2_with fail
      with_reducible refine (NM0_0 _).mono ?_
      rintro e v100002 ⟨rfl, hb100002⟩
      have zz100002 := hb100002.size
      try simp [ext_size] at zz100002
      have hB100002 : Below wz0.heap.size wz0 v100002 := Below.trans (by (repeat (first | with_reducible exact b0 _ | (with_reducible refine bext ?_ _ _) | (with_reducible refine below_drewN ?_ _) | (with_reducible refine Below.drew ?_) | (with_reducible refine bal ?_ _)))) (hb100002.mono (by first | omega | (simp [ext_size]; try omega)))
      have zw100002 := hB100002.size
      clear hb100002
      go_wp2_with fail
      with_reducible refine (NM0_999 _).mono ?_
      rintro e v100003 ⟨rfl, hb100003⟩
      have zz100003 := hb100003.size
      try simp [ext_size] at zz100003
      have hB100003 : Below wz0.heap.size wz0 v100003 := Below.trans (by (repeat (first | with_reducible exact hB100002 | (with_reducible refine bext ?_ _ _) | (with_reducible refine below_drewN ?_ _) | (with_reducible refine Below.drew ?_) | (with_reducible refine bal ?_ _) | (with_reducible refine bset ?_ (by first | omega | (simp <;> omega)) _)))) (hb100003.mono (by first | omega | (simp [ext_size]; try omega)))
      have zw100003 := hB100003.size
      clear hb100003
      clear zz100002 zw100002 hB100002
      go_wp2_with fail
      with_reducible refine (AB _).mono ?_
      rintro e v100004 ⟨rfl, hb100004⟩
      have zz100004 := hb100004.size
      try simp [ext_size] at zz100004
      have hB100004 : Below wz0.heap.size wz0 v100004 := Below.trans (by (repeat (first | with_reducible exact hB100003 | (with_reducible refine bext ?_ _ _) | (with_reducible refine below_drewN ?_ _) | (with_reducible refine Below.drew ?_) | (with_reducible refine bal ?_ _) | (with_reducible refine bset ?_ (by first | omega | (simp <;> omega)) _)))) (hb100004.mono (by first | omega | (simp [ext_size]; try omega)))
      have zw100004 := hB100004.size
      clear hb100004
      clear zz100003 zw100003 hB100003
      go_wp2_with fail
      go_meet
      exact ⟨rfl, by (repeat (first | with_reducible exact hB100004 | (with_reducible refine bext ?_ _ _) | (with_reducible refine below_drewN ?_ _) | (with_reducible refine Below.drew ?_) | (with_reducible refine bal ?_ _) | (with_reducible refine bset ?_ (by first | omega | (simp <;> omega)) _)))⟩
  case rest =>
    revert hcut; revert wc; intro wz1001 hcut
    obtain ⟨rfl, hB1001⟩ := hcut
    have cg_0_wz1001 : wz1001.cell? ⟨g, 0, none⟩ = some (.int .i64 707106) := (hB1001.cell (p := ⟨g, 0, none⟩) zg_wz0).trans cg_0_wz0
    have cg_1_wz1001 : wz1001.cell? ⟨g, 1, none⟩ = some (.int .i64 707107) := (hB1001.cell (p := ⟨g, 1, none⟩) zg_wz0).trans cg_1_wz0
    have cg_2_wz1001 : wz1001.cell? ⟨g, 2, none⟩ = some (.int .i64 707106) := (hB1001.cell (p := ⟨g, 2, none⟩) zg_wz0).trans cg_2_wz0
    have cg_3_wz1001 : wz1001.cell? ⟨g, 3, none⟩ = some (.int .i64 707107) := (hB1001.cell (p := ⟨g, 3, none⟩) zg_wz0).trans cg_3_wz0
    have cg_4_wz1001 : wz1001.cell? ⟨g, 4, none⟩ = some (.int .i64 0) := (hB1001.cell (p := ⟨g, 4, none⟩) zg_wz0).trans cg_4_wz0
    have cg_5_wz1001 : wz1001.cell? ⟨g, 5, none⟩ = some (.int .i64 0) := (hB1001.cell (p := ⟨g, 5, none⟩) zg_wz0).trans cg_5_wz0
    have cg_6_wz1001 : wz1001.cell? ⟨g, 6, none⟩ = some (.int .i64 1000000) := (hB1001.cell (p := ⟨g, 6, none⟩) zg_wz0).trans cg_6_wz0
    have cg_7_wz1001 : wz1001.cell? ⟨g, 7, none⟩ = some (.int .i64 1000000) := (hB1001.cell (p := ⟨g, 7, none⟩) zg_wz0).trans cg_7_wz0
    have cg_8_wz1001 : wz1001.cell? ⟨g, 8, none⟩ = some (.int .i64 0) := (hB1001.cell (p := ⟨g, 8, none⟩) zg_wz0).trans cg_8_wz0
    have cg_9_wz1001 : wz1001.cell? ⟨g, 9, none⟩ = some (.int .i64 0) := (hB1001.cell (p := ⟨g, 9, none⟩) zg_wz0).trans cg_9_wz0
    have cg_10_wz1001 : wz1001.cell? ⟨g, 10, none⟩ = some (.int .i64 0) := (hB1001.cell (p := ⟨g, 10, none⟩) zg_wz0).trans cg_10_wz0
    have cg_11_wz1001 : wz1001.cell? ⟨g, 11, none⟩ = some (.int .i64 0) := (hB1001.cell (p := ⟨g, 11, none⟩) zg_wz0).trans cg_11_wz0
    have cg_14_wz1001 : wz1001.cell? ⟨g, 14, none⟩ = some (.int .i64 (-707107)) := (hB1001.cell (p := ⟨g, 14, none⟩) zg_wz0).trans cg_14_wz0
    have cg_15_wz1001 : wz1001.cell? ⟨g, 15, none⟩ = some (.int .i64 (-707106)) := (hB1001.cell (p := ⟨g, 15, none⟩) zg_wz0).trans cg_15_wz0
    have zg_wz1001 : g < wz1001.heap.size := Nat.lt_of_lt_of_le zg_wz0 hB1001.size
    have zg6_wz1001 : g6 < wz1001.heap.size := Nat.lt_of_lt_of_le zg6_wz0 hB1001.size
    have chf_0_wz1001 : wz1001.cell? ⟨hf, 0, none⟩ = some (.int .i64 707106) := (hB1001.cell (p := ⟨hf, 0, none⟩) zhf_wz0).trans chf_0_wz0
    have chf_1_wz1001 : wz1001.cell? ⟨hf, 1, none⟩ = some (.int .i64 707107) := (hB1001.cell (p := ⟨hf, 1, none⟩) zhf_wz0).trans chf_1_wz0
    have zhf_wz1001 : hf < wz1001.heap.size := Nat.lt_of_lt_of_le zhf_wz0 hB1001.size
    have cxv_0_wz1001 : wz1001.cell? ⟨xv, 0, none⟩ = some (.int .i64 2) := (hB1001.cell (p := ⟨xv, 0, none⟩) zxv_wz0).trans cxv_0_wz0
    have cxv_1_wz1001 : wz1001.cell? ⟨xv, 1, none⟩ = some (.int .i64 1) := (hB1001.cell (p := ⟨xv, 1, none⟩) zxv_wz0).trans cxv_1_wz0
    have cxv_2_wz1001 : wz1001.cell? ⟨xv, 2, none⟩ = some (.int .i64 1) := (hB1001.cell (p := ⟨xv, 2, none⟩) zxv_wz0).trans cxv_2_wz0
    have cxv_3_wz1001 : wz1001.cell? ⟨xv, 3, none⟩ = some (.int .i64 2) := (hB1001.cell (p := ⟨xv, 3, none⟩) zxv_wz0).trans cxv_3_wz0
    have cxv_4_wz1001 : wz1001.cell? ⟨xv, 4, none⟩ = some (.int .i64 (-3)) := (hB1001.cell (p := ⟨xv, 4, none⟩) zxv_wz0).trans cxv_4_wz0
    have cxv_5_wz1001 : wz1001.cell? ⟨xv, 5, none⟩ = some (.int .i64 1) := (hB1001.cell (p := ⟨xv, 5, none⟩) zxv_wz0).trans cxv_5_wz0
    have zxv_wz1001 : xv < wz1001.heap.size := Nat.lt_of_lt_of_le zxv_wz0 hB1001.size
    have cm_0_wz1001 : wz1001.cell? ⟨m, 0, none⟩ = some (.int .i64 1767765) := (hB1001.cell (p := ⟨m, 0, none⟩) zm_wz0).trans cm_0_wz0
    have cm_1_wz1001 : wz1001.cell? ⟨m, 1, none⟩ = some (.int .i64 1767768) := (hB1001.cell (p := ⟨m, 1, none⟩) zm_wz0).trans cm_1_wz0
    have zm_wz1001 : m < wz1001.heap.size := Nat.lt_of_lt_of_le zm_wz0 hB1001.size
    have co_0_wz1001 : wz1001.cell? ⟨o, 0, none⟩ = some (.int .i64 2000000) := (hB1001.cell (p := ⟨o, 0, none⟩) zo_wz0).trans co_0_wz0
    have co_1_wz1001 : wz1001.cell? ⟨o, 1, none⟩ = some (.int .i64 2000000) := (hB1001.cell (p := ⟨o, 1, none⟩) zo_wz0).trans co_1_wz0
    have zo_wz1001 : o < wz1001.heap.size := Nat.lt_of_lt_of_le zo_wz0 hB1001.size
    clear cg_0_wz0 cg_1_wz0 cg_2_wz0 cg_3_wz0 cg_4_wz0 cg_5_wz0 cg_6_wz0 cg_7_wz0 cg_8_wz0 cg_9_wz0 cg_10_wz0 cg_11_wz0 cg_14_wz0 cg_15_wz0 chf_0_wz0 chf_1_wz0 cxv_0_wz0 cxv_1_wz0 cxv_2_wz0 cxv_3_wz0 cxv_4_wz0 cxv_5_wz0 cm_0_wz0 cm_1_wz0 co_0_wz0 co_1_wz0 zg_wz0 zg6_wz0 zhf_wz0 zxv_wz0 zm_wz0 zo_wz0
    have hW1001 : Below w.heap.size w wz1001 := Below.trans hW1000 (hB1001.mono hW1000.size)
    clear hB1001 hW1000
    go_upto_region 25 with fail
    go_cut [41, 42] (fun s41 s42 wz1002 => ∃ vv : Nat, s41 = .pointer (some ⟨vv, 0, none⟩) ∧ s42 = .int .i64 0 ∧ wz1002.cell? ⟨vv, 0, none⟩ = some (.int .i64 999997) ∧ wz1002.cell? ⟨vv, 1, none⟩ = some (.int .i64 1000001) ∧ vv < wz1002.heap.size ∧ Below wz1001.heap.size wz1001 wz1002)
    case first =>
      as_aux_lemma =>
        have NM10_20 := HNM10_20.out
        have AV := HAV.out
        go_wp2_with fail
        with_reducible refine (NM10_20 _).mono ?_
        rintro e v100102 ⟨rfl, hb100102⟩
        have zz100102 := hb100102.size
        try simp [ext_size] at zz100102
        have hB100102 : Below wz1001.heap.size wz1001 v100102 := Below.trans (by (repeat (first | with_reducible exact b0 _ | (with_reducible refine bext ?_ _ _) | (with_reducible refine below_drewN ?_ _) | (with_reducible refine Below.drew ?_) | (with_reducible refine bal ?_ _)))) (hb100102.mono (by first | omega | (simp [ext_size]; try omega)))
        have zw100102 := hB100102.size
        clear hb100102
        go_wp2_with fail
        with_reducible refine (NM10_20 _).mono ?_
        rintro e v100103 ⟨rfl, hb100103⟩
        have zz100103 := hb100103.size
        try simp [ext_size] at zz100103
        have hB100103 : Below wz1001.heap.size wz1001 v100103 := Below.trans (by (repeat (first | with_reducible exact hB100102 | (with_reducible refine bext ?_ _ _) | (with_reducible refine below_drewN ?_ _) | (with_reducible refine Below.drew ?_) | (with_reducible refine bal ?_ _) | (with_reducible refine bset ?_ (by first | omega | (simp <;> omega)) _)))) (hb100103.mono (by first | omega | (simp [ext_size]; try omega)))
        have zw100103 := hB100103.size
        clear hb100103
        clear zz100102 zw100102 hB100102
        go_wp2_with fail
        with_reducible refine (AV _).mono ?_
        rintro e v100104 ⟨rfl, hb100104⟩
        have zz100104 := hb100104.size
        try simp [ext_size] at zz100104
        have hB100104 : Below wz1001.heap.size wz1001 v100104 := Below.trans (by (repeat (first | with_reducible exact hB100103 | (with_reducible refine bext ?_ _ _) | (with_reducible refine below_drewN ?_ _) | (with_reducible refine Below.drew ?_) | (with_reducible refine bal ?_ _) | (with_reducible refine bset ?_ (by first | omega | (simp <;> omega)) _)))) (hb100104.mono (by first | omega | (simp [ext_size]; try omega)))
        have zw100104 := hB100104.size
        clear hb100104
        clear zz100103 zw100103 hB100103
        go_wp2_with fail
        go_meet
        exact ⟨_, rfl, rfl, by (simp (maxDischargeDepth := 8) [go_sem, World.cell?_alloc_past, ltk2, ltk3, ltk4, ltk5, ltk6, ltk7, ltk8, ltk9, *]), by (simp (maxDischargeDepth := 8) [go_sem, World.cell?_alloc_past, ltk2, ltk3, ltk4, ltk5, ltk6, ltk7, ltk8, ltk9, *]), by (simp; try omega), by (repeat (first | with_reducible exact hB100104 | (with_reducible refine bext ?_ _ _) | (with_reducible refine below_drewN ?_ _) | (with_reducible refine Below.drew ?_) | (with_reducible refine bal ?_ _) | (with_reducible refine bset ?_ (by first | omega | (simp <;> omega)) _)))⟩
    case rest =>
      revert hcut; revert wc; intro wz1002 hcut
      obtain ⟨vv, rfl, rfl, cvv_0_wz1002, cvv_1_wz1002, zvv_wz1002, hB1002⟩ := hcut
      have cg_0_wz1002 : wz1002.cell? ⟨g, 0, none⟩ = some (.int .i64 707106) := (hB1002.cell (p := ⟨g, 0, none⟩) zg_wz1001).trans cg_0_wz1001
      have cg_1_wz1002 : wz1002.cell? ⟨g, 1, none⟩ = some (.int .i64 707107) := (hB1002.cell (p := ⟨g, 1, none⟩) zg_wz1001).trans cg_1_wz1001
      have cg_2_wz1002 : wz1002.cell? ⟨g, 2, none⟩ = some (.int .i64 707106) := (hB1002.cell (p := ⟨g, 2, none⟩) zg_wz1001).trans cg_2_wz1001
      have cg_3_wz1002 : wz1002.cell? ⟨g, 3, none⟩ = some (.int .i64 707107) := (hB1002.cell (p := ⟨g, 3, none⟩) zg_wz1001).trans cg_3_wz1001
      have cg_4_wz1002 : wz1002.cell? ⟨g, 4, none⟩ = some (.int .i64 0) := (hB1002.cell (p := ⟨g, 4, none⟩) zg_wz1001).trans cg_4_wz1001
      have cg_5_wz1002 : wz1002.cell? ⟨g, 5, none⟩ = some (.int .i64 0) := (hB1002.cell (p := ⟨g, 5, none⟩) zg_wz1001).trans cg_5_wz1001
      have cg_6_wz1002 : wz1002.cell? ⟨g, 6, none⟩ = some (.int .i64 1000000) := (hB1002.cell (p := ⟨g, 6, none⟩) zg_wz1001).trans cg_6_wz1001
      have cg_7_wz1002 : wz1002.cell? ⟨g, 7, none⟩ = some (.int .i64 1000000) := (hB1002.cell (p := ⟨g, 7, none⟩) zg_wz1001).trans cg_7_wz1001
      have cg_8_wz1002 : wz1002.cell? ⟨g, 8, none⟩ = some (.int .i64 0) := (hB1002.cell (p := ⟨g, 8, none⟩) zg_wz1001).trans cg_8_wz1001
      have cg_9_wz1002 : wz1002.cell? ⟨g, 9, none⟩ = some (.int .i64 0) := (hB1002.cell (p := ⟨g, 9, none⟩) zg_wz1001).trans cg_9_wz1001
      have cg_10_wz1002 : wz1002.cell? ⟨g, 10, none⟩ = some (.int .i64 0) := (hB1002.cell (p := ⟨g, 10, none⟩) zg_wz1001).trans cg_10_wz1001
      have cg_11_wz1002 : wz1002.cell? ⟨g, 11, none⟩ = some (.int .i64 0) := (hB1002.cell (p := ⟨g, 11, none⟩) zg_wz1001).trans cg_11_wz1001
      have cg_14_wz1002 : wz1002.cell? ⟨g, 14, none⟩ = some (.int .i64 (-707107)) := (hB1002.cell (p := ⟨g, 14, none⟩) zg_wz1001).trans cg_14_wz1001
      have cg_15_wz1002 : wz1002.cell? ⟨g, 15, none⟩ = some (.int .i64 (-707106)) := (hB1002.cell (p := ⟨g, 15, none⟩) zg_wz1001).trans cg_15_wz1001
      have zg_wz1002 : g < wz1002.heap.size := Nat.lt_of_lt_of_le zg_wz1001 hB1002.size
      have zg6_wz1002 : g6 < wz1002.heap.size := Nat.lt_of_lt_of_le zg6_wz1001 hB1002.size
      have chf_0_wz1002 : wz1002.cell? ⟨hf, 0, none⟩ = some (.int .i64 707106) := (hB1002.cell (p := ⟨hf, 0, none⟩) zhf_wz1001).trans chf_0_wz1001
      have chf_1_wz1002 : wz1002.cell? ⟨hf, 1, none⟩ = some (.int .i64 707107) := (hB1002.cell (p := ⟨hf, 1, none⟩) zhf_wz1001).trans chf_1_wz1001
      have zhf_wz1002 : hf < wz1002.heap.size := Nat.lt_of_lt_of_le zhf_wz1001 hB1002.size
      have cxv_0_wz1002 : wz1002.cell? ⟨xv, 0, none⟩ = some (.int .i64 2) := (hB1002.cell (p := ⟨xv, 0, none⟩) zxv_wz1001).trans cxv_0_wz1001
      have cxv_1_wz1002 : wz1002.cell? ⟨xv, 1, none⟩ = some (.int .i64 1) := (hB1002.cell (p := ⟨xv, 1, none⟩) zxv_wz1001).trans cxv_1_wz1001
      have cxv_2_wz1002 : wz1002.cell? ⟨xv, 2, none⟩ = some (.int .i64 1) := (hB1002.cell (p := ⟨xv, 2, none⟩) zxv_wz1001).trans cxv_2_wz1001
      have cxv_3_wz1002 : wz1002.cell? ⟨xv, 3, none⟩ = some (.int .i64 2) := (hB1002.cell (p := ⟨xv, 3, none⟩) zxv_wz1001).trans cxv_3_wz1001
      have cxv_4_wz1002 : wz1002.cell? ⟨xv, 4, none⟩ = some (.int .i64 (-3)) := (hB1002.cell (p := ⟨xv, 4, none⟩) zxv_wz1001).trans cxv_4_wz1001
      have cxv_5_wz1002 : wz1002.cell? ⟨xv, 5, none⟩ = some (.int .i64 1) := (hB1002.cell (p := ⟨xv, 5, none⟩) zxv_wz1001).trans cxv_5_wz1001
      have zxv_wz1002 : xv < wz1002.heap.size := Nat.lt_of_lt_of_le zxv_wz1001 hB1002.size
      have cm_0_wz1002 : wz1002.cell? ⟨m, 0, none⟩ = some (.int .i64 1767765) := (hB1002.cell (p := ⟨m, 0, none⟩) zm_wz1001).trans cm_0_wz1001
      have cm_1_wz1002 : wz1002.cell? ⟨m, 1, none⟩ = some (.int .i64 1767768) := (hB1002.cell (p := ⟨m, 1, none⟩) zm_wz1001).trans cm_1_wz1001
      have zm_wz1002 : m < wz1002.heap.size := Nat.lt_of_lt_of_le zm_wz1001 hB1002.size
      have co_0_wz1002 : wz1002.cell? ⟨o, 0, none⟩ = some (.int .i64 2000000) := (hB1002.cell (p := ⟨o, 0, none⟩) zo_wz1001).trans co_0_wz1001
      have co_1_wz1002 : wz1002.cell? ⟨o, 1, none⟩ = some (.int .i64 2000000) := (hB1002.cell (p := ⟨o, 1, none⟩) zo_wz1001).trans co_1_wz1001
      have zo_wz1002 : o < wz1002.heap.size := Nat.lt_of_lt_of_le zo_wz1001 hB1002.size
      clear cg_0_wz1001 cg_1_wz1001 cg_2_wz1001 cg_3_wz1001 cg_4_wz1001 cg_5_wz1001 cg_6_wz1001 cg_7_wz1001 cg_8_wz1001 cg_9_wz1001 cg_10_wz1001 cg_11_wz1001 cg_14_wz1001 cg_15_wz1001 chf_0_wz1001 chf_1_wz1001 cxv_0_wz1001 cxv_1_wz1001 cxv_2_wz1001 cxv_3_wz1001 cxv_4_wz1001 cxv_5_wz1001 cm_0_wz1001 cm_1_wz1001 co_0_wz1001 co_1_wz1001 zg_wz1001 zg6_wz1001 zhf_wz1001 zxv_wz1001 zm_wz1001 zo_wz1001
      have hW1002 : Below w.heap.size w wz1002 := Below.trans hW1001 (hB1002.mono hW1001.size)
      clear hB1002 hW1001
      refine (show ∀ (a : Act) (w : World), Code.wp _ _ _ a w → (_ : Act → World → Prop) a w by assumption) _ _ ?_
      exact hn wz1002 g g6 hf xv m o vv _ _ _ _ _ _ _ _ _ _ _ _ _ _ _ _ _ _ _ _ _ _ _ _ _ _ _ _ _ _ _ _ _ _ _ _ _ _ _ _ _ _ _ _ _ _ _ _ _ _ _ _ _ _ _ _ _ _ _ _ _ _ _ _ _ _ _ _ _ _ _ _ _ _ _ _ _ _ _ _ _ _ _ _ _ _ _ _ _ _ _ _ _ _ _ _ _ _ _ _ _ _ _ _ _ _ _ _ _ _ _ _ _ _ _ _ _ _ _ _ _ _ _ _ _ _ _ _ _ _ _ _ _ _ _ _ _ _ _ _ _ _ _ _ _ _ _ _ _ _ _ _ _ _ _ _ _ _ _ _ _ _ _ _ _ _ _ _ _ _ _ _ _ _ _ _ _ _ _ _ _ _ _ _ _ _ _ _ _ _ _ _ _ _ _ _ _ _ _ _ _ _ _ _ _ _ _ _ _ _ _ _ _ _ _ _ _ _ _ _ _ _ _ _ _ _ _ _ _ _ _ _ _ _ _ _ _ _ _ _ _ _ _ _ _ _ _ _ _ _ _ _ _ _ _ _ _ _ _ _ _ _ _ _ _ _ _ _ _ _ _ _ _ _ _ _ _ _ _ _ _ _ _ _ _ _ _ _ _ _ _ _ _ _ _ _ _ _ _ _ _ _ _ _ _ _ _ _ _ _ _ _ _ _ _ _ _ _ _ _ _ _ _ _ _ cg_0_wz1002 cg_1_wz1002 cg_2_wz1002 cg_3_wz1002 cg_4_wz1002 cg_5_wz1002 cg_6_wz1002 cg_7_wz1002 cg_8_wz1002 cg_9_wz1002 cg_10_wz1002 cg_11_wz1002 cg_14_wz1002 cg_15_wz1002 zg_wz1002 zg6_wz1002 chf_0_wz1002 chf_1_wz1002 zhf_wz1002 cxv_0_wz1002 cxv_1_wz1002 cxv_2_wz1002 cxv_3_wz1002 cxv_4_wz1002 cxv_5_wz1002 zxv_wz1002 cm_0_wz1002 cm_1_wz1002 zm_wz1002 co_0_wz1002 co_1_wz1002 zo_wz1002 cvv_0_wz1002 cvv_1_wz1002 zvv_wz1002 hW1002
end Go.Proofs.Ytmjbeplcabomdaa
