/-
  TrackNames, part by part: part 3.
-/
import Derived.Test.YtmjbeplcabomdaaPya
namespace Go.Proofs.Ytmjbeplcabomdaa
open Go.RowKit
set_option linter.unusedVariables false
set_option linter.unusedSimpArgs false
set_option maxRecDepth 100000 in
set_option maxHeartbeats 25600000 in
theorem sg3 (w : World) (hn : Sg4 w) : Sg3 w := by
  intro wz0 g g6 u2 u4 u6 u12 u13 u14 u15 u16 u17 u18 u19 u20 u21 u22 u23 u24 u25 u26 u27 u28 u29 u30 u31 u32 u33 u34 u35 u36 u37 u38 u39 u40 u41 u42 u43 u44 u45 u46 u47 u48 u49 u50 u51 u52 u53 u54 u55 u56 u57 u58 u59 u60 u61 u62 u63 u64 u65 u66 u67 u68 u69 u70 u71 u72 u73 u74 u75 u76 u77 u78 u79 u80 u81 u82 u83 u84 u85 u86 u87 u88 u89 u90 u91 u92 u93 u94 u95 u96 u97 u98 u99 u100 u101 u102 u103 u104 u105 u106 u107 u108 u109 u110 u111 u112 u113 u114 u115 u116 u117 u118 u119 u120 u121 u122 u123 u124 u125 u126 u127 u128 u129 u130 u131 u132 u133 u134 u135 u136 u137 u138 u139 u140 u141 u142 u143 u144 u145 u146 u147 u148 u149 u150 u151 u152 u153 u154 u155 u156 u157 u158 u159 u160 u161 u162 u163 u164 u165 u166 u167 u168 u169 u170 u171 u172 u173 u174 u175 u176 u177 u178 u179 u180 u181 u182 u183 u184 u185 u186 u187 u188 u189 u190 u191 u192 u193 u194 u195 u196 u197 u198 u199 u200 u201 u202 u203 u204 u205 u206 u207 u208 u209 u210 u211 u212 u213 u214 u215 u216 u217 u218 u219 u220 u221 u222 u223 u224 u225 u226 u227 u228 u229 u230 u231 u232 u233 u234 u235 u236 u237 u238 u239 u240 u241 u242 u243 u244 u245 u246 u247 u248 u249 u250 u251 u252 u253 u254 u255 u256 u257 u258 u259 u260 u261 u262 u263 u264 u265 u266 u267 u268 u269 u270 u271 u272 u273 u274 u275 u276 u277 u278 u279 u280 u281 u282 u283 u284 u285 u286 u287 u288 u289 u290 u291 u292 u293 u294 u295 u296 u297 u298 u299 u300 u301 u302 u303 u304 u305 u306 u307 u308 u309 u310 u311 u312 u313 u314 u315 u316 u317 u318 u319 u320 u321 u322 u323 u324 u325 u326 u327 u328 u329 u330 u331 u332 u333 u334 u335 u336 u337 u338 u339 u340 u341 u342 u343 u344 u345 u346 u347 u348 u349 u350 u351 u352 u353 cg_0_wz0 cg_1_wz0 cg_2_wz0 cg_3_wz0 cg_4_wz0 cg_5_wz0 cg_6_wz0 cg_7_wz0 cg_8_wz0 cg_9_wz0 cg_10_wz0 cg_11_wz0 cg_14_wz0 cg_15_wz0 zg_wz0 zg6_wz0 hW400
  have NM90_0 := fun w => law6_named 90 0 w
  have E0 := fun w => track_Path_no sN 90 0 0 1 101 (by decide +kernel) w
  rw [show paE sN 90 0 0 1 101 = 4 by decide +kernel] at E0
  have E1 := fun w => track_Path_no sN 90 0 0 0 1 (by decide +kernel) w
  rw [show paE sN 90 0 0 0 1 = 2 by decide +kernel] at E1
  have E2 := fun w => track_Path_no sN 90 0 0 721 1 (by decide +kernel) w
  rw [show paE sN 90 0 0 721 1 = 2 by decide +kernel] at E2
  generalize sN = nm at *
  have HNM90_0 := Lib.hid NM90_0
  have HE0 := Lib.hid E0
  have HE1 := Lib.hid E1
  have HE2 := Lib.hid E2
  clear NM90_0 E0 E1 E2
  have dAl := dAl; have dSt := dSt; have xC := ext_cell; have xF := ext_frozen; have xS := ext_set; have xN := ext_drewN; have xD := ext_drew; have xL := ext_lt; have xE := ext_ne; have xG := ext_nr; have xX := ext_ext; have xL1 := ext_lt1; have xL2 := ext_lt2; have xL3 := ext_lt3; have xM0 := ext_le0; have xM1 := ext_le1; have xM2 := ext_le2
  conv => arg 2; whnf
  go_upto_region 7 with fail
  go_cut [13] (fun s13 wz401 => s13 = .int .i64 4 ∧ Below wz0.heap.size wz0 wz401)
  case first =>
    as_aux_lemma =>
      have NM90_0 := HNM90_0.out
      have E0 := HE0.out
      go_wp2_with fail
      with_reducible refine (NM90_0 _).mono ?_
      rintro e v40002 ⟨rfl, hb40002⟩
      have zz40002 := hb40002.size
      try simp [ext_size] at zz40002
      have hB40002 : Below wz0.heap.size wz0 v40002 := Below.trans (by (repeat (first | with_reducible exact b0 _ | (with_reducible refine bext ?_ _ _) | (with_reducible refine below_drewN ?_ _) | (with_reducible refine Below.drew ?_) | (with_reducible refine bal ?_ _)))) (hb40002.mono (by first | omega | (simp [ext_size]; try omega)))
      have zw40002 := hB40002.size
      clear hb40002
      go_wp2_with fail
      with_reducible refine (E0 _).mono ?_
      rintro e v40003 ⟨rfl, hb40003⟩
      have zz40003 := hb40003.size
      try simp [ext_size] at zz40003
      have hB40003 : Below wz0.heap.size wz0 v40003 := Below.trans (by (repeat (first | with_reducible exact hB40002 | (with_reducible refine bext ?_ _ _) | (with_reducible refine below_drewN ?_ _) | (with_reducible refine Below.drew ?_) | (with_reducible refine bal ?_ _) | (with_reducible refine bset ?_ (by first | omega | (simp <;> omega)) _)))) (hb40003.mono (by first | omega | (simp [ext_size]; try omega)))
      have zw40003 := hB40003.size
      clear hb40003
      clear zz40002 zw40002 hB40002
      go_wp2_with fail
      go_meet
      exact ⟨rfl, by (repeat (first | with_reducible exact hB40003 | (with_reducible refine bext ?_ _ _) | (with_reducible refine below_drewN ?_ _) | (with_reducible refine Below.drew ?_) | (with_reducible refine bal ?_ _) | (with_reducible refine bset ?_ (by first | omega | (simp <;> omega)) _)))⟩
  case rest =>
    revert hcut; revert wc; intro wz401 hcut
    obtain ⟨rfl, hB401⟩ := hcut
    have cg_0_wz401 : wz401.cell? ⟨g, 0, none⟩ = some (.int .i64 707106) := (hB401.cell (p := ⟨g, 0, none⟩) zg_wz0).trans cg_0_wz0
    have cg_1_wz401 : wz401.cell? ⟨g, 1, none⟩ = some (.int .i64 707107) := (hB401.cell (p := ⟨g, 1, none⟩) zg_wz0).trans cg_1_wz0
    have cg_2_wz401 : wz401.cell? ⟨g, 2, none⟩ = some (.int .i64 707106) := (hB401.cell (p := ⟨g, 2, none⟩) zg_wz0).trans cg_2_wz0
    have cg_3_wz401 : wz401.cell? ⟨g, 3, none⟩ = some (.int .i64 707107) := (hB401.cell (p := ⟨g, 3, none⟩) zg_wz0).trans cg_3_wz0
    have cg_4_wz401 : wz401.cell? ⟨g, 4, none⟩ = some (.int .i64 0) := (hB401.cell (p := ⟨g, 4, none⟩) zg_wz0).trans cg_4_wz0
    have cg_5_wz401 : wz401.cell? ⟨g, 5, none⟩ = some (.int .i64 0) := (hB401.cell (p := ⟨g, 5, none⟩) zg_wz0).trans cg_5_wz0
    have cg_6_wz401 : wz401.cell? ⟨g, 6, none⟩ = some (.int .i64 1000000) := (hB401.cell (p := ⟨g, 6, none⟩) zg_wz0).trans cg_6_wz0
    have cg_7_wz401 : wz401.cell? ⟨g, 7, none⟩ = some (.int .i64 1000000) := (hB401.cell (p := ⟨g, 7, none⟩) zg_wz0).trans cg_7_wz0
    have cg_8_wz401 : wz401.cell? ⟨g, 8, none⟩ = some (.int .i64 0) := (hB401.cell (p := ⟨g, 8, none⟩) zg_wz0).trans cg_8_wz0
    have cg_9_wz401 : wz401.cell? ⟨g, 9, none⟩ = some (.int .i64 0) := (hB401.cell (p := ⟨g, 9, none⟩) zg_wz0).trans cg_9_wz0
    have cg_10_wz401 : wz401.cell? ⟨g, 10, none⟩ = some (.int .i64 0) := (hB401.cell (p := ⟨g, 10, none⟩) zg_wz0).trans cg_10_wz0
    have cg_11_wz401 : wz401.cell? ⟨g, 11, none⟩ = some (.int .i64 0) := (hB401.cell (p := ⟨g, 11, none⟩) zg_wz0).trans cg_11_wz0
    have cg_14_wz401 : wz401.cell? ⟨g, 14, none⟩ = some (.int .i64 (-707107)) := (hB401.cell (p := ⟨g, 14, none⟩) zg_wz0).trans cg_14_wz0
    have cg_15_wz401 : wz401.cell? ⟨g, 15, none⟩ = some (.int .i64 (-707106)) := (hB401.cell (p := ⟨g, 15, none⟩) zg_wz0).trans cg_15_wz0
    have zg_wz401 : g < wz401.heap.size := Nat.lt_of_lt_of_le zg_wz0 hB401.size
    have zg6_wz401 : g6 < wz401.heap.size := Nat.lt_of_lt_of_le zg6_wz0 hB401.size
    clear cg_0_wz0 cg_1_wz0 cg_2_wz0 cg_3_wz0 cg_4_wz0 cg_5_wz0 cg_6_wz0 cg_7_wz0 cg_8_wz0 cg_9_wz0 cg_10_wz0 cg_11_wz0 cg_14_wz0 cg_15_wz0 zg_wz0 zg6_wz0
    have hW401 : Below w.heap.size w wz401 := Below.trans hW400 (hB401.mono hW400.size)
    clear hB401 hW400
    go_upto_region 8 with fail
    go_cut [15] (fun s15 wz402 => s15 = .int .i64 2 ∧ Below wz401.heap.size wz401 wz402)
    case first =>
      as_aux_lemma =>
        have NM90_0 := HNM90_0.out
        have E1 := HE1.out
        go_wp2_with fail
        with_reducible refine (NM90_0 _).mono ?_
        rintro e v40102 ⟨rfl, hb40102⟩
        have zz40102 := hb40102.size
        try simp [ext_size] at zz40102
        have hB40102 : Below wz401.heap.size wz401 v40102 := Below.trans (by (repeat (first | with_reducible exact b0 _ | (with_reducible refine bext ?_ _ _) | (with_reducible refine below_drewN ?_ _) | (with_reducible refine Below.drew ?_) | (with_reducible refine bal ?_ _)))) (hb40102.mono (by first | omega | (simp [ext_size]; try omega)))
        have zw40102 := hB40102.size
        clear hb40102
        go_wp2_with fail
        with_reducible refine (E1 _).mono ?_
        rintro e v40103 ⟨rfl, hb40103⟩
        have zz40103 := hb40103.size
        try simp [ext_size] at zz40103
        have hB40103 : Below wz401.heap.size wz401 v40103 := Below.trans (by (repeat (first | with_reducible exact hB40102 | (with_reducible refine bext ?_ _ _) | (with_reducible refine below_drewN ?_ _) | (with_reducible refine Below.drew ?_) | (with_reducible refine bal ?_ _) | (with_reducible refine bset ?_ (by first | omega | (simp <;> omega)) _)))) (hb40103.mono (by first | omega | (simp [ext_size]; try omega)))
        have zw40103 := hB40103.size
        clear hb40103
        clear zz40102 zw40102 hB40102
        go_wp2_with fail
        go_meet
        exact ⟨rfl, by (repeat (first | with_reducible exact hB40103 | (with_reducible refine bext ?_ _ _) | (with_reducible refine below_drewN ?_ _) | (with_reducible refine Below.drew ?_) | (with_reducible refine bal ?_ _) | (with_reducible refine bset ?_ (by first | omega | (simp <;> omega)) _)))⟩
    case rest =>
      revert hcut; revert wc; intro wz402 hcut
      obtain ⟨rfl, hB402⟩ := hcut
      have cg_0_wz402 : wz402.cell? ⟨g, 0, none⟩ = some (.int .i64 707106) := (hB402.cell (p := ⟨g, 0, none⟩) zg_wz401).trans cg_0_wz401
      have cg_1_wz402 : wz402.cell? ⟨g, 1, none⟩ = some (.int .i64 707107) := (hB402.cell (p := ⟨g, 1, none⟩) zg_wz401).trans cg_1_wz401
      have cg_2_wz402 : wz402.cell? ⟨g, 2, none⟩ = some (.int .i64 707106) := (hB402.cell (p := ⟨g, 2, none⟩) zg_wz401).trans cg_2_wz401
      have cg_3_wz402 : wz402.cell? ⟨g, 3, none⟩ = some (.int .i64 707107) := (hB402.cell (p := ⟨g, 3, none⟩) zg_wz401).trans cg_3_wz401
      have cg_4_wz402 : wz402.cell? ⟨g, 4, none⟩ = some (.int .i64 0) := (hB402.cell (p := ⟨g, 4, none⟩) zg_wz401).trans cg_4_wz401
      have cg_5_wz402 : wz402.cell? ⟨g, 5, none⟩ = some (.int .i64 0) := (hB402.cell (p := ⟨g, 5, none⟩) zg_wz401).trans cg_5_wz401
      have cg_6_wz402 : wz402.cell? ⟨g, 6, none⟩ = some (.int .i64 1000000) := (hB402.cell (p := ⟨g, 6, none⟩) zg_wz401).trans cg_6_wz401
      have cg_7_wz402 : wz402.cell? ⟨g, 7, none⟩ = some (.int .i64 1000000) := (hB402.cell (p := ⟨g, 7, none⟩) zg_wz401).trans cg_7_wz401
      have cg_8_wz402 : wz402.cell? ⟨g, 8, none⟩ = some (.int .i64 0) := (hB402.cell (p := ⟨g, 8, none⟩) zg_wz401).trans cg_8_wz401
      have cg_9_wz402 : wz402.cell? ⟨g, 9, none⟩ = some (.int .i64 0) := (hB402.cell (p := ⟨g, 9, none⟩) zg_wz401).trans cg_9_wz401
      have cg_10_wz402 : wz402.cell? ⟨g, 10, none⟩ = some (.int .i64 0) := (hB402.cell (p := ⟨g, 10, none⟩) zg_wz401).trans cg_10_wz401
      have cg_11_wz402 : wz402.cell? ⟨g, 11, none⟩ = some (.int .i64 0) := (hB402.cell (p := ⟨g, 11, none⟩) zg_wz401).trans cg_11_wz401
      have cg_14_wz402 : wz402.cell? ⟨g, 14, none⟩ = some (.int .i64 (-707107)) := (hB402.cell (p := ⟨g, 14, none⟩) zg_wz401).trans cg_14_wz401
      have cg_15_wz402 : wz402.cell? ⟨g, 15, none⟩ = some (.int .i64 (-707106)) := (hB402.cell (p := ⟨g, 15, none⟩) zg_wz401).trans cg_15_wz401
      have zg_wz402 : g < wz402.heap.size := Nat.lt_of_lt_of_le zg_wz401 hB402.size
      have zg6_wz402 : g6 < wz402.heap.size := Nat.lt_of_lt_of_le zg6_wz401 hB402.size
      clear cg_0_wz401 cg_1_wz401 cg_2_wz401 cg_3_wz401 cg_4_wz401 cg_5_wz401 cg_6_wz401 cg_7_wz401 cg_8_wz401 cg_9_wz401 cg_10_wz401 cg_11_wz401 cg_14_wz401 cg_15_wz401 zg_wz401 zg6_wz401
      have hW402 : Below w.heap.size w wz402 := Below.trans hW401 (hB402.mono hW401.size)
      clear hB402 hW401
      go_upto_region 9 with fail
      go_cut [17] (fun s17 wz403 => s17 = .int .i64 2 ∧ Below wz402.heap.size wz402 wz403)
      case first =>
        as_aux_lemma =>
          have NM90_0 := HNM90_0.out
          have E2 := HE2.out
          go_wp2_with fail
          with_reducible refine (NM90_0 _).mono ?_
          rintro e v40202 ⟨rfl, hb40202⟩
          have zz40202 := hb40202.size
          try simp [ext_size] at zz40202
          have hB40202 : Below wz402.heap.size wz402 v40202 := Below.trans (by (repeat (first | with_reducible exact b0 _ | (with_reducible refine bext ?_ _ _) | (with_reducible refine below_drewN ?_ _) | (with_reducible refine Below.drew ?_) | (with_reducible refine bal ?_ _)))) (hb40202.mono (by first | omega | (simp [ext_size]; try omega)))
          have zw40202 := hB40202.size
          clear hb40202
          go_wp2_with fail
          with_reducible refine (E2 _).mono ?_
          rintro e v40203 ⟨rfl, hb40203⟩
          have zz40203 := hb40203.size
          try simp [ext_size] at zz40203
          have hB40203 : Below wz402.heap.size wz402 v40203 := Below.trans (by (repeat (first | with_reducible exact hB40202 | (with_reducible refine bext ?_ _ _) | (with_reducible refine below_drewN ?_ _) | (with_reducible refine Below.drew ?_) | (with_reducible refine bal ?_ _) | (with_reducible refine bset ?_ (by first | omega | (simp <;> omega)) _)))) (hb40203.mono (by first | omega | (simp [ext_size]; try omega)))
          have zw40203 := hB40203.size
          clear hb40203
          clear zz40202 zw40202 hB40202
          go_wp2_with fail
          go_meet
          exact ⟨rfl, by (repeat (first | with_reducible exact hB40203 | (with_reducible refine bext ?_ _ _) | (with_reducible refine below_drewN ?_ _) | (with_reducible refine Below.drew ?_) | (with_reducible refine bal ?_ _) | (with_reducible refine bset ?_ (by first | omega | (simp <;> omega)) _)))⟩
      case rest =>
        revert hcut; revert wc; intro wz403 hcut
        obtain ⟨rfl, hB403⟩ := hcut
        have cg_0_wz403 : wz403.cell? ⟨g, 0, none⟩ = some (.int .i64 707106) := (hB403.cell (p := ⟨g, 0, none⟩) zg_wz402).trans cg_0_wz402
        have cg_1_wz403 : wz403.cell? ⟨g, 1, none⟩ = some (.int .i64 707107) := (hB403.cell (p := ⟨g, 1, none⟩) zg_wz402).trans cg_1_wz402
        have cg_2_wz403 : wz403.cell? ⟨g, 2, none⟩ = some (.int .i64 707106) := (hB403.cell (p := ⟨g, 2, none⟩) zg_wz402).trans cg_2_wz402
        have cg_3_wz403 : wz403.cell? ⟨g, 3, none⟩ = some (.int .i64 707107) := (hB403.cell (p := ⟨g, 3, none⟩) zg_wz402).trans cg_3_wz402
        have cg_4_wz403 : wz403.cell? ⟨g, 4, none⟩ = some (.int .i64 0) := (hB403.cell (p := ⟨g, 4, none⟩) zg_wz402).trans cg_4_wz402
        have cg_5_wz403 : wz403.cell? ⟨g, 5, none⟩ = some (.int .i64 0) := (hB403.cell (p := ⟨g, 5, none⟩) zg_wz402).trans cg_5_wz402
        have cg_6_wz403 : wz403.cell? ⟨g, 6, none⟩ = some (.int .i64 1000000) := (hB403.cell (p := ⟨g, 6, none⟩) zg_wz402).trans cg_6_wz402
        have cg_7_wz403 : wz403.cell? ⟨g, 7, none⟩ = some (.int .i64 1000000) := (hB403.cell (p := ⟨g, 7, none⟩) zg_wz402).trans cg_7_wz402
        have cg_8_wz403 : wz403.cell? ⟨g, 8, none⟩ = some (.int .i64 0) := (hB403.cell (p := ⟨g, 8, none⟩) zg_wz402).trans cg_8_wz402
        have cg_9_wz403 : wz403.cell? ⟨g, 9, none⟩ = some (.int .i64 0) := (hB403.cell (p := ⟨g, 9, none⟩) zg_wz402).trans cg_9_wz402
        have cg_10_wz403 : wz403.cell? ⟨g, 10, none⟩ = some (.int .i64 0) := (hB403.cell (p := ⟨g, 10, none⟩) zg_wz402).trans cg_10_wz402
        have cg_11_wz403 : wz403.cell? ⟨g, 11, none⟩ = some (.int .i64 0) := (hB403.cell (p := ⟨g, 11, none⟩) zg_wz402).trans cg_11_wz402
        have cg_14_wz403 : wz403.cell? ⟨g, 14, none⟩ = some (.int .i64 (-707107)) := (hB403.cell (p := ⟨g, 14, none⟩) zg_wz402).trans cg_14_wz402
        have cg_15_wz403 : wz403.cell? ⟨g, 15, none⟩ = some (.int .i64 (-707106)) := (hB403.cell (p := ⟨g, 15, none⟩) zg_wz402).trans cg_15_wz402
        have zg_wz403 : g < wz403.heap.size := Nat.lt_of_lt_of_le zg_wz402 hB403.size
        have zg6_wz403 : g6 < wz403.heap.size := Nat.lt_of_lt_of_le zg6_wz402 hB403.size
        clear cg_0_wz402 cg_1_wz402 cg_2_wz402 cg_3_wz402 cg_4_wz402 cg_5_wz402 cg_6_wz402 cg_7_wz402 cg_8_wz402 cg_9_wz402 cg_10_wz402 cg_11_wz402 cg_14_wz402 cg_15_wz402 zg_wz402 zg6_wz402
        have hW403 : Below w.heap.size w wz403 := Below.trans hW402 (hB403.mono hW402.size)
        clear hB403 hW402
        refine (show ∀ (a : Act) (w : World), Code.wp _ _ _ a w → (_ : Act → World → Prop) a w by assumption) _ _ ?_
        exact hn wz403 g g6 _ _ _ _ _ _ _ _ _ _ _ _ _ _ _ _ _ _ _ _ _ _ _ _ _ _ _ _ _ _ _ _ _ _ _ _ _ _ _ _ _ _ _ _ _ _ _ _ _ _ _ _ _ _ _ _ _ _ _ _ _ _ _ _ _ _ _ _ _ _ _ _ _ _ _ _ _ _ _ _ _ _ _ _ _ _ _ _ _ _ _ _ _ _ _ _ _ _ _ _ _ _ _ _ _ _ _ _ _ _ _ _ _ _ _ _ _ _ _ _ _ _ _ _ _ _ _ _ _ _ _ _ _ _ _ _ _ _ _ _ _ _ _ _ _ _ _ _ _ _ _ _ _ _ _ _ _ _ _ _ _ _ _ _ _ _ _ _ _ _ _ _ _ _ _ _ _ _ _ _ _ _ _ _ _ _ _ _ _ _ _ _ _ _ _ _ _ _ _ _ _ _ _ _ _ _ _ _ _ _ _ _ _ _ _ _ _ _ _ _ _ _ _ _ _ _ _ _ _ _ _ _ _ _ _ _ _ _ _ _ _ _ _ _ _ _ _ _ _ _ _ _ _ _ _ _ _ _ _ _ _ _ _ _ _ _ _ _ _ _ _ _ _ _ _ _ _ _ _ _ _ _ _ _ _ _ _ _ _ _ _ _ _ _ _ _ _ _ _ _ _ _ _ _ _ _ _ _ _ _ _ _ _ _ _ _ _ _ _ _ _ _ _ _ _ _ _ _ _ _ _ _ _ _ _ _ _ _ _ _ _ _ cg_0_wz403 cg_1_wz403 cg_2_wz403 cg_3_wz403 cg_4_wz403 cg_5_wz403 cg_6_wz403 cg_7_wz403 cg_8_wz403 cg_9_wz403 cg_10_wz403 cg_11_wz403 cg_14_wz403 cg_15_wz403 zg_wz403 zg6_wz403 hW403
end Go.Proofs.Ytmjbeplcabomdaa
