/-
  TrackNames, part by part: part 4.
-/
import Derived.Test.YtmjbeplcabomdaaPya
namespace Go.Proofs.Ytmjbeplcabomdaa
open Go.RowKit
set_option linter.unusedVariables false
set_option linter.unusedSimpArgs false
set_option maxRecDepth 100000 in
set_option maxHeartbeats 25600000 in
theorem sg4 (w : World) (hn : Sg5 w) : Sg4 w := by
  intro wz0 g g6 u2 u4 u6 u12 u14 u16 u18 u19 u20 u21 u22 u23 u24 u25 u26 u27 u28 u29 u30 u31 u32 u33 u34 u35 u36 u37 u38 u39 u40 u41 u42 u43 u44 u45 u46 u47 u48 u49 u50 u51 u52 u53 u54 u55 u56 u57 u58 u59 u60 u61 u62 u63 u64 u65 u66 u67 u68 u69 u70 u71 u72 u73 u74 u75 u76 u77 u78 u79 u80 u81 u82 u83 u84 u85 u86 u87 u88 u89 u90 u91 u92 u93 u94 u95 u96 u97 u98 u99 u100 u101 u102 u103 u104 u105 u106 u107 u108 u109 u110 u111 u112 u113 u114 u115 u116 u117 u118 u119 u120 u121 u122 u123 u124 u125 u126 u127 u128 u129 u130 u131 u132 u133 u134 u135 u136 u137 u138 u139 u140 u141 u142 u143 u144 u145 u146 u147 u148 u149 u150 u151 u152 u153 u154 u155 u156 u157 u158 u159 u160 u161 u162 u163 u164 u165 u166 u167 u168 u169 u170 u171 u172 u173 u174 u175 u176 u177 u178 u179 u180 u181 u182 u183 u184 u185 u186 u187 u188 u189 u190 u191 u192 u193 u194 u195 u196 u197 u198 u199 u200 u201 u202 u203 u204 u205 u206 u207 u208 u209 u210 u211 u212 u213 u214 u215 u216 u217 u218 u219 u220 u221 u222 u223 u224 u225 u226 u227 u228 u229 u230 u231 u232 u233 u234 u235 u236 u237 u238 u239 u240 u241 u242 u243 u244 u245 u246 u247 u248 u249 u250 u251 u252 u253 u254 u255 u256 u257 u258 u259 u260 u261 u262 u263 u264 u265 u266 u267 u268 u269 u270 u271 u272 u273 u274 u275 u276 u277 u278 u279 u280 u281 u282 u283 u284 u285 u286 u287 u288 u289 u290 u291 u292 u293 u294 u295 u296 u297 u298 u299 u300 u301 u302 u303 u304 u305 u306 u307 u308 u309 u310 u311 u312 u313 u314 u315 u316 u317 u318 u319 u320 u321 u322 u323 u324 u325 u326 u327 u328 u329 u330 u331 u332 u333 u334 u335 u336 u337 u338 u339 u340 u341 u342 u343 u344 u345 u346 u347 u348 u349 u350 u351 u352 u353 cg_0_wz0 cg_1_wz0 cg_2_wz0 cg_3_wz0 cg_4_wz0 cg_5_wz0 cg_6_wz0 cg_7_wz0 cg_8_wz0 cg_9_wz0 cg_10_wz0 cg_11_wz0 cg_14_wz0 cg_15_wz0 zg_wz0 zg6_wz0 hW500
  have NM720_0 := fun w => law6_named 720 0 w
  have NM90_0 := fun w => law6_named 90 0 w
  have E3 := fun w => track_Path_no sN 90 0 1000000 1 2 (by decide +kernel) w
  rw [show paE sN 90 0 1000000 1 2 = 2 by decide +kernel] at E3
  have E4 := fun w => track_Path_no sN 90 0 1000001 1 0 (by decide +kernel) w
  rw [show paE sN 90 0 1000001 1 0 = 2 by decide +kernel] at E4
  have E5 := fun w => track_Path_no sN 720 0 0 0 101 (by decide +kernel) w
  rw [show paE sN 720 0 0 0 101 = 8 by decide +kernel] at E5
  generalize sN = nm at *
  have HNM720_0 := Lib.hid NM720_0
  have HNM90_0 := Lib.hid NM90_0
  have HE3 := Lib.hid E3
  have HE4 := Lib.hid E4
  have HE5 := Lib.hid E5
  clear NM720_0 NM90_0 E3 E4 E5
  have dAl := dAl; have dSt := dSt; have xC := ext_cell; have xF := ext_frozen; have xS := ext_set; have xN := ext_drewN; have xD := ext_drew; have xL := ext_lt; have xE := ext_ne; have xG := ext_nr; have xX := ext_ext; have xL1 := ext_lt1; have xL2 := ext_lt2; have xL3 := ext_lt3; have xM0 := ext_le0; have xM1 := ext_le1; have xM2 := ext_le2
  conv => arg 2; whnf
  go_upto_region 10 with fail
  go_cut [19] (fun s19 wz501 => s19 = .int .i64 2 ∧ Below wz0.heap.size wz0 wz501)
  case first =>
    as_aux_lemma =>
      have NM90_0 := HNM90_0.out
      have E3 := HE3.out
      go_wp2_with fail
      with_reducible refine (NM90_0 _).mono ?_
      rintro e v50002 ⟨rfl, hb50002⟩
      have zz50002 := hb50002.size
      try simp [ext_size] at zz50002
      have hB50002 : Below wz0.heap.size wz0 v50002 := Below.trans (by (repeat (first | with_reducible exact b0 _ | (with_reducible refine bext ?_ _ _) | (with_reducible refine below_drewN ?_ _) | (with_reducible refine Below.drew ?_) | (with_reducible refine bal ?_ _)))) (hb50002.mono (by first | omega | (simp [ext_size]; try omega)))
      have zw50002 := hB50002.size
      clear hb50002
      go_wp2_with fail
      with_reducible refine (E3 _).mono ?_
      rintro e v50003 ⟨rfl, hb50003⟩
      have zz50003 := hb50003.size
      try simp [ext_size] at zz50003
      have hB50003 : Below wz0.heap.size wz0 v50003 := Below.trans (by (repeat (first | with_reducible exact hB50002 | (with_reducible refine bext ?_ _ _) | (with_reducible refine below_drewN ?_ _) | (with_reducible refine Below.drew ?_) | (with_reducible refine bal ?_ _) | (with_reducible refine bset ?_ (by first | omega | (simp <;> omega)) _)))) (hb50003.mono (by first | omega | (simp [ext_size]; try omega)))
      have zw50003 := hB50003.size
      clear hb50003
      clear zz50002 zw50002 hB50002
      go_wp2_with fail
      go_meet
      exact ⟨rfl, by (repeat (first | with_reducible exact hB50003 | (with_reducible refine bext ?_ _ _) | (with_reducible refine below_drewN ?_ _) | (with_reducible refine Below.drew ?_) | (with_reducible refine bal ?_ _) | (with_reducible refine bset ?_ (by first | omega | (simp <;> omega)) _)))⟩
  case rest =>
    revert hcut; revert wc; intro wz501 hcut
    obtain ⟨rfl, hB501⟩ := hcut
    have cg_0_wz501 : wz501.cell? ⟨g, 0, none⟩ = some (.int .i64 707106) := (hB501.cell (p := ⟨g, 0, none⟩) zg_wz0).trans cg_0_wz0
    have cg_1_wz501 : wz501.cell? ⟨g, 1, none⟩ = some (.int .i64 707107) := (hB501.cell (p := ⟨g, 1, none⟩) zg_wz0).trans cg_1_wz0
    have cg_2_wz501 : wz501.cell? ⟨g, 2, none⟩ = some (.int .i64 707106) := (hB501.cell (p := ⟨g, 2, none⟩) zg_wz0).trans cg_2_wz0
    have cg_3_wz501 : wz501.cell? ⟨g, 3, none⟩ = some (.int .i64 707107) := (hB501.cell (p := ⟨g, 3, none⟩) zg_wz0).trans cg_3_wz0
    have cg_4_wz501 : wz501.cell? ⟨g, 4, none⟩ = some (.int .i64 0) := (hB501.cell (p := ⟨g, 4, none⟩) zg_wz0).trans cg_4_wz0
    have cg_5_wz501 : wz501.cell? ⟨g, 5, none⟩ = some (.int .i64 0) := (hB501.cell (p := ⟨g, 5, none⟩) zg_wz0).trans cg_5_wz0
    have cg_6_wz501 : wz501.cell? ⟨g, 6, none⟩ = some (.int .i64 1000000) := (hB501.cell (p := ⟨g, 6, none⟩) zg_wz0).trans cg_6_wz0
    have cg_7_wz501 : wz501.cell? ⟨g, 7, none⟩ = some (.int .i64 1000000) := (hB501.cell (p := ⟨g, 7, none⟩) zg_wz0).trans cg_7_wz0
    have cg_8_wz501 : wz501.cell? ⟨g, 8, none⟩ = some (.int .i64 0) := (hB501.cell (p := ⟨g, 8, none⟩) zg_wz0).trans cg_8_wz0
    have cg_9_wz501 : wz501.cell? ⟨g, 9, none⟩ = some (.int .i64 0) := (hB501.cell (p := ⟨g, 9, none⟩) zg_wz0).trans cg_9_wz0
    have cg_10_wz501 : wz501.cell? ⟨g, 10, none⟩ = some (.int .i64 0) := (hB501.cell (p := ⟨g, 10, none⟩) zg_wz0).trans cg_10_wz0
    have cg_11_wz501 : wz501.cell? ⟨g, 11, none⟩ = some (.int .i64 0) := (hB501.cell (p := ⟨g, 11, none⟩) zg_wz0).trans cg_11_wz0
    have cg_14_wz501 : wz501.cell? ⟨g, 14, none⟩ = some (.int .i64 (-707107)) := (hB501.cell (p := ⟨g, 14, none⟩) zg_wz0).trans cg_14_wz0
    have cg_15_wz501 : wz501.cell? ⟨g, 15, none⟩ = some (.int .i64 (-707106)) := (hB501.cell (p := ⟨g, 15, none⟩) zg_wz0).trans cg_15_wz0
    have zg_wz501 : g < wz501.heap.size := Nat.lt_of_lt_of_le zg_wz0 hB501.size
    have zg6_wz501 : g6 < wz501.heap.size := Nat.lt_of_lt_of_le zg6_wz0 hB501.size
    clear cg_0_wz0 cg_1_wz0 cg_2_wz0 cg_3_wz0 cg_4_wz0 cg_5_wz0 cg_6_wz0 cg_7_wz0 cg_8_wz0 cg_9_wz0 cg_10_wz0 cg_11_wz0 cg_14_wz0 cg_15_wz0 zg_wz0 zg6_wz0
    have hW501 : Below w.heap.size w wz501 := Below.trans hW500 (hB501.mono hW500.size)
    clear hB501 hW500
    go_upto_region 11 with fail
    go_cut [21] (fun s21 wz502 => s21 = .int .i64 2 ∧ Below wz501.heap.size wz501 wz502)
    case first =>
      as_aux_lemma =>
        have NM90_0 := HNM90_0.out
        have E4 := HE4.out
        go_wp2_with fail
        with_reducible refine (NM90_0 _).mono ?_
        rintro e v50102 ⟨rfl, hb50102⟩
        have zz50102 := hb50102.size
        try simp [ext_size] at zz50102
        have hB50102 : Below wz501.heap.size wz501 v50102 := Below.trans (by (repeat (first | with_reducible exact b0 _ | (with_reducible refine bext ?_ _ _) | (with_reducible refine below_drewN ?_ _) | (with_reducible refine Below.drew ?_) | (with_reducible refine bal ?_ _)))) (hb50102.mono (by first | omega | (simp [ext_size]; try omega)))
        have zw50102 := hB50102.size
        clear hb50102
        go_wp2_with fail
        with_reducible refine (E4 _).mono ?_
        rintro e v50103 ⟨rfl, hb50103⟩
        have zz50103 := hb50103.size
        try simp [ext_size] at zz50103
        have hB50103 : Below wz501.heap.size wz501 v50103 := Below.trans (by (repeat (first | with_reducible exact hB50102 | (with_reducible refine bext ?_ _ _) | (with_reducible refine below_drewN ?_ _) | (with_reducible refine Below.drew ?_) | (with_reducible refine bal ?_ _) | (with_reducible refine bset ?_ (by first | omega | (simp <;> omega)) _)))) (hb50103.mono (by first | omega | (simp [ext_size]; try omega)))
        have zw50103 := hB50103.size
        clear hb50103
        clear zz50102 zw50102 hB50102
        go_wp2_with fail
        go_meet
        exact ⟨rfl, by (repeat (first | with_reducible exact hB50103 | (with_reducible refine bext ?_ _ _) | (with_reducible refine below_drewN ?_ _) | (with_reducible refine Below.drew ?_) | (with_reducible refine bal ?_ _) | (with_reducible refine bset ?_ (by first | omega | (simp <;> omega)) _)))⟩
    case rest =>
      revert hcut; revert wc; intro wz502 hcut
      obtain ⟨rfl, hB502⟩ := hcut
      have cg_0_wz502 : wz502.cell? ⟨g, 0, none⟩ = some (.int .i64 707106) := (hB502.cell (p := ⟨g, 0, none⟩) zg_wz501).trans cg_0_wz501
      have cg_1_wz502 : wz502.cell? ⟨g, 1, none⟩ = some (.int .i64 707107) := (hB502.cell (p := ⟨g, 1, none⟩) zg_wz501).trans cg_1_wz501
      have cg_2_wz502 : wz502.cell? ⟨g, 2, none⟩ = some (.int .i64 707106) := (hB502.cell (p := ⟨g, 2, none⟩) zg_wz501).trans cg_2_wz501
      have cg_3_wz502 : wz502.cell? ⟨g, 3, none⟩ = some (.int .i64 707107) := (hB502.cell (p := ⟨g, 3, none⟩) zg_wz501).trans cg_3_wz501
      have cg_4_wz502 : wz502.cell? ⟨g, 4, none⟩ = some (.int .i64 0) := (hB502.cell (p := ⟨g, 4, none⟩) zg_wz501).trans cg_4_wz501
      have cg_5_wz502 : wz502.cell? ⟨g, 5, none⟩ = some (.int .i64 0) := (hB502.cell (p := ⟨g, 5, none⟩) zg_wz501).trans cg_5_wz501
      have cg_6_wz502 : wz502.cell? ⟨g, 6, none⟩ = some (.int .i64 1000000) := (hB502.cell (p := ⟨g, 6, none⟩) zg_wz501).trans cg_6_wz501
      have cg_7_wz502 : wz502.cell? ⟨g, 7, none⟩ = some (.int .i64 1000000) := (hB502.cell (p := ⟨g, 7, none⟩) zg_wz501).trans cg_7_wz501
      have cg_8_wz502 : wz502.cell? ⟨g, 8, none⟩ = some (.int .i64 0) := (hB502.cell (p := ⟨g, 8, none⟩) zg_wz501).trans cg_8_wz501
      have cg_9_wz502 : wz502.cell? ⟨g, 9, none⟩ = some (.int .i64 0) := (hB502.cell (p := ⟨g, 9, none⟩) zg_wz501).trans cg_9_wz501
      have cg_10_wz502 : wz502.cell? ⟨g, 10, none⟩ = some (.int .i64 0) := (hB502.cell (p := ⟨g, 10, none⟩) zg_wz501).trans cg_10_wz501
      have cg_11_wz502 : wz502.cell? ⟨g, 11, none⟩ = some (.int .i64 0) := (hB502.cell (p := ⟨g, 11, none⟩) zg_wz501).trans cg_11_wz501
      have cg_14_wz502 : wz502.cell? ⟨g, 14, none⟩ = some (.int .i64 (-707107)) := (hB502.cell (p := ⟨g, 14, none⟩) zg_wz501).trans cg_14_wz501
      have cg_15_wz502 : wz502.cell? ⟨g, 15, none⟩ = some (.int .i64 (-707106)) := (hB502.cell (p := ⟨g, 15, none⟩) zg_wz501).trans cg_15_wz501
      have zg_wz502 : g < wz502.heap.size := Nat.lt_of_lt_of_le zg_wz501 hB502.size
      have zg6_wz502 : g6 < wz502.heap.size := Nat.lt_of_lt_of_le zg6_wz501 hB502.size
      clear cg_0_wz501 cg_1_wz501 cg_2_wz501 cg_3_wz501 cg_4_wz501 cg_5_wz501 cg_6_wz501 cg_7_wz501 cg_8_wz501 cg_9_wz501 cg_10_wz501 cg_11_wz501 cg_14_wz501 cg_15_wz501 zg_wz501 zg6_wz501
      have hW502 : Below w.heap.size w wz502 := Below.trans hW501 (hB502.mono hW501.size)
      clear hB502 hW501
      go_upto_region 12 with fail
      go_cut [23] (fun s23 wz503 => s23 = .int .i64 8 ∧ Below wz502.heap.size wz502 wz503)
      case first =>
        as_aux_lemma =>
          have NM720_0 := HNM720_0.out
          have E5 := HE5.out
          go_wp2_with fail
          with_reducible refine (NM720_0 _).mono ?_
          rintro e v50202 ⟨rfl, hb50202⟩
          have zz50202 := hb50202.size
          try simp [ext_size] at zz50202
          have hB50202 : Below wz502.heap.size wz502 v50202 := Below.trans (by (repeat (first | with_reducible exact b0 _ | (with_reducible refine bext ?_ _ _) | (with_reducible refine below_drewN ?_ _) | (with_reducible refine Below.drew ?_) | (with_reducible refine bal ?_ _)))) (hb50202.mono (by first | omega | (simp [ext_size]; try omega)))
          have zw50202 := hB50202.size
          clear hb50202
          go_wp2_with fail
          with_reducible refine (E5 _).mono ?_
          rintro e v50203 ⟨rfl, hb50203⟩
          have zz50203 := hb50203.size
          try simp [ext_size] at zz50203
          have hB50203 : Below wz502.heap.size wz502 v50203 := Below.trans (by (repeat (first | with_reducible exact hB50202 | (with_reducible refine bext ?_ _ _) | (with_reducible refine below_drewN ?_ _) | (with_reducible refine Below.drew ?_) | (with_reducible refine bal ?_ _) | (with_reducible refine bset ?_ (by first | omega | (simp <;> omega)) _)))) (hb50203.mono (by first | omega | (simp [ext_size]; try omega)))
          have zw50203 := hB50203.size
          clear hb50203
          clear zz50202 zw50202 hB50202
          go_wp2_with fail
          go_meet
          exact ⟨rfl, by (repeat (first | with_reducible exact hB50203 | (with_reducible refine bext ?_ _ _) | (with_reducible refine below_drewN ?_ _) | (with_reducible refine Below.drew ?_) | (with_reducible refine bal ?_ _) | (with_reducible refine bset ?_ (by first | omega | (simp <;> omega)) _)))⟩
      case rest =>
        revert hcut; revert wc; intro wz503 hcut
        obtain ⟨rfl, hB503⟩ := hcut
        have cg_0_wz503 : wz503.cell? ⟨g, 0, none⟩ = some (.int .i64 707106) := (hB503.cell (p := ⟨g, 0, none⟩) zg_wz502).trans cg_0_wz502
        have cg_1_wz503 : wz503.cell? ⟨g, 1, none⟩ = some (.int .i64 707107) := (hB503.cell (p := ⟨g, 1, none⟩) zg_wz502).trans cg_1_wz502
        have cg_2_wz503 : wz503.cell? ⟨g, 2, none⟩ = some (.int .i64 707106) := (hB503.cell (p := ⟨g, 2, none⟩) zg_wz502).trans cg_2_wz502
        have cg_3_wz503 : wz503.cell? ⟨g, 3, none⟩ = some (.int .i64 707107) := (hB503.cell (p := ⟨g, 3, none⟩) zg_wz502).trans cg_3_wz502
        have cg_4_wz503 : wz503.cell? ⟨g, 4, none⟩ = some (.int .i64 0) := (hB503.cell (p := ⟨g, 4, none⟩) zg_wz502).trans cg_4_wz502
        have cg_5_wz503 : wz503.cell? ⟨g, 5, none⟩ = some (.int .i64 0) := (hB503.cell (p := ⟨g, 5, none⟩) zg_wz502).trans cg_5_wz502
        have cg_6_wz503 : wz503.cell? ⟨g, 6, none⟩ = some (.int .i64 1000000) := (hB503.cell (p := ⟨g, 6, none⟩) zg_wz502).trans cg_6_wz502
        have cg_7_wz503 : wz503.cell? ⟨g, 7, none⟩ = some (.int .i64 1000000) := (hB503.cell (p := ⟨g, 7, none⟩) zg_wz502).trans cg_7_wz502
        have cg_8_wz503 : wz503.cell? ⟨g, 8, none⟩ = some (.int .i64 0) := (hB503.cell (p := ⟨g, 8, none⟩) zg_wz502).trans cg_8_wz502
        have cg_9_wz503 : wz503.cell? ⟨g, 9, none⟩ = some (.int .i64 0) := (hB503.cell (p := ⟨g, 9, none⟩) zg_wz502).trans cg_9_wz502
        have cg_10_wz503 : wz503.cell? ⟨g, 10, none⟩ = some (.int .i64 0) := (hB503.cell (p := ⟨g, 10, none⟩) zg_wz502).trans cg_10_wz502
        have cg_11_wz503 : wz503.cell? ⟨g, 11, none⟩ = some (.int .i64 0) := (hB503.cell (p := ⟨g, 11, none⟩) zg_wz502).trans cg_11_wz502
        have cg_14_wz503 : wz503.cell? ⟨g, 14, none⟩ = some (.int .i64 (-707107)) := (hB503.cell (p := ⟨g, 14, none⟩) zg_wz502).trans cg_14_wz502
        have cg_15_wz503 : wz503.cell? ⟨g, 15, none⟩ = some (.int .i64 (-707106)) := (hB503.cell (p := ⟨g, 15, none⟩) zg_wz502).trans cg_15_wz502
        have zg_wz503 : g < wz503.heap.size := Nat.lt_of_lt_of_le zg_wz502 hB503.size
        have zg6_wz503 : g6 < wz503.heap.size := Nat.lt_of_lt_of_le zg6_wz502 hB503.size
        clear cg_0_wz502 cg_1_wz502 cg_2_wz502 cg_3_wz502 cg_4_wz502 cg_5_wz502 cg_6_wz502 cg_7_wz502 cg_8_wz502 cg_9_wz502 cg_10_wz502 cg_11_wz502 cg_14_wz502 cg_15_wz502 zg_wz502 zg6_wz502
        have hW503 : Below w.heap.size w wz503 := Below.trans hW502 (hB503.mono hW502.size)
        clear hB503 hW502
        refine (show ∀ (a : Act) (w : World), Code.wp _ _ _ a w → (_ : Act → World → Prop) a w by assumption) _ _ ?_
        exact hn wz503 g g6 _ _ _ _ _ _ _ _ _ _ _ _ _ _ _ _ _ _ _ _ _ _ _ _ _ _ _ _ _ _ _ _ _ _ _ _ _ _ _ _ _ _ _ _ _ _ _ _ _ _ _ _ _ _ _ _ _ _ _ _ _ _ _ _ _ _ _ _ _ _ _ _ _ _ _ _ _ _ _ _ _ _ _ _ _ _ _ _ _ _ _ _ _ _ _ _ _ _ _ _ _ _ _ _ _ _ _ _ _ _ _ _ _ _ _ _ _ _ _ _ _ _ _ _ _ _ _ _ _ _ _ _ _ _ _ _ _ _ _ _ _ _ _ _ _ _ _ _ _ _ _ _ _ _ _ _ _ _ _ _ _ _ _ _ _ _ _ _ _ _ _ _ _ _ _ _ _ _ _ _ _ _ _ _ _ _ _ _ _ _ _ _ _ _ _ _ _ _ _ _ _ _ _ _ _ _ _ _ _ _ _ _ _ _ _ _ _ _ _ _ _ _ _ _ _ _ _ _ _ _ _ _ _ _ _ _ _ _ _ _ _ _ _ _ _ _ _ _ _ _ _ _ _ _ _ _ _ _ _ _ _ _ _ _ _ _ _ _ _ _ _ _ _ _ _ _ _ _ _ _ _ _ _ _ _ _ _ _ _ _ _ _ _ _ _ _ _ _ _ _ _ _ _ _ _ _ _ _ _ _ _ _ _ _ _ _ _ _ _ _ _ _ _ _ _ _ _ _ _ _ _ _ _ _ _ _ _ _ _ cg_0_wz503 cg_1_wz503 cg_2_wz503 cg_3_wz503 cg_4_wz503 cg_5_wz503 cg_6_wz503 cg_7_wz503 cg_8_wz503 cg_9_wz503 cg_10_wz503 cg_11_wz503 cg_14_wz503 cg_15_wz503 zg_wz503 zg6_wz503 hW503
end Go.Proofs.Ytmjbeplcabomdaa
