/-
  TrackNames, part by part: part 2.
-/
import Derived.Test.YtmjbeplcabomdaaPya
namespace Go.Proofs.Ytmjbeplcabomdaa
open Go.RowKit
set_option linter.unusedVariables false
set_option linter.unusedSimpArgs false
set_option maxRecDepth 100000 in
set_option maxHeartbeats 25600000 in
theorem sg2 (w : World) (hn : Sg3 w) : Sg2 w := by
  intro wz0 u2 u4 u6 u8 u9 u10 u11 u12 u13 u14 u15 u16 u17 u18 u19 u20 u21 u22 u23 u24 u25 u26 u27 u28 u29 u30 u31 u32 u33 u34 u35 u36 u37 u38 u39 u40 u41 u42 u43 u44 u45 u46 u47 u48 u49 u50 u51 u52 u53 u54 u55 u56 u57 u58 u59 u60 u61 u62 u63 u64 u65 u66 u67 u68 u69 u70 u71 u72 u73 u74 u75 u76 u77 u78 u79 u80 u81 u82 u83 u84 u85 u86 u87 u88 u89 u90 u91 u92 u93 u94 u95 u96 u97 u98 u99 u100 u101 u102 u103 u104 u105 u106 u107 u108 u109 u110 u111 u112 u113 u114 u115 u116 u117 u118 u119 u120 u121 u122 u123 u124 u125 u126 u127 u128 u129 u130 u131 u132 u133 u134 u135 u136 u137 u138 u139 u140 u141 u142 u143 u144 u145 u146 u147 u148 u149 u150 u151 u152 u153 u154 u155 u156 u157 u158 u159 u160 u161 u162 u163 u164 u165 u166 u167 u168 u169 u170 u171 u172 u173 u174 u175 u176 u177 u178 u179 u180 u181 u182 u183 u184 u185 u186 u187 u188 u189 u190 u191 u192 u193 u194 u195 u196 u197 u198 u199 u200 u201 u202 u203 u204 u205 u206 u207 u208 u209 u210 u211 u212 u213 u214 u215 u216 u217 u218 u219 u220 u221 u222 u223 u224 u225 u226 u227 u228 u229 u230 u231 u232 u233 u234 u235 u236 u237 u238 u239 u240 u241 u242 u243 u244 u245 u246 u247 u248 u249 u250 u251 u252 u253 u254 u255 u256 u257 u258 u259 u260 u261 u262 u263 u264 u265 u266 u267 u268 u269 u270 u271 u272 u273 u274 u275 u276 u277 u278 u279 u280 u281 u282 u283 u284 u285 u286 u287 u288 u289 u290 u291 u292 u293 u294 u295 u296 u297 u298 u299 u300 u301 u302 u303 u304 u305 u306 u307 u308 u309 u310 u311 u312 u313 u314 u315 u316 u317 u318 u319 u320 u321 u322 u323 u324 u325 u326 u327 u328 u329 u330 u331 u332 u333 u334 u335 u336 u337 u338 u339 u340 u341 u342 u343 u344 u345 u346 u347 u348 u349 u350 u351 u352 u353 hW300
  have NM90_0 := fun w => law6_named 90 0 w
  have P0 := fun w => track_Path_ok sN 90 0 0 90 3 (by decide +kernel) w
  rw [show ((3 : Nat) : Int) = 3 from rfl] at P0
  have P1 := fun w => track_Path_ok sN 90 0 0 1 0 (by decide +kernel) w
  rw [show ((0 : Nat) : Int) = 0 from rfl] at P1
  have V0 : pth 90 0 0 90 0 = 707106 := by decide +kernel
  have V1 : pth 90 0 0 90 1 = 707107 := by decide +kernel
  have V2 : pth 90 0 0 90 2 = 707106 := by decide +kernel
  have V3 : pth 90 0 0 90 3 = 707107 := by decide +kernel
  have V4 : pth 90 0 0 90 4 = 0 := by decide +kernel
  have V5 : pth 90 0 0 90 5 = 0 := by decide +kernel
  have V6 : pth 90 0 0 90 6 = 1000000 := by decide +kernel
  have V7 : pth 90 0 0 90 7 = 1000000 := by decide +kernel
  have V8 : pth 90 0 0 90 8 = 0 := by decide +kernel
  have V9 : pth 90 0 0 90 9 = 0 := by decide +kernel
  have V10 : pth 90 0 0 90 10 = 0 := by decide +kernel
  have V11 : pth 90 0 0 90 11 = 0 := by decide +kernel
  have V14 : pth 90 0 0 90 14 = (-707107) := by decide +kernel
  have V15 : pth 90 0 0 90 15 = (-707106) := by decide +kernel
  generalize sN = nm at *
  generalize hP : pth 90 0 0 90 = P at *
  have HNM90_0 := Lib.hid NM90_0
  have HP0 := Lib.hid P0
  have HP1 := Lib.hid P1
  have HV0 := Lib.hid V0
  have HV1 := Lib.hid V1
  have HV2 := Lib.hid V2
  have HV3 := Lib.hid V3
  have HV4 := Lib.hid V4
  have HV5 := Lib.hid V5
  have HV6 := Lib.hid V6
  have HV7 := Lib.hid V7
  have HV8 := Lib.hid V8
  have HV9 := Lib.hid V9
  have HV10 := Lib.hid V10
  have HV11 := Lib.hid V11
  have HV14 := Lib.hid V14
  have HV15 := Lib.hid V15
  clear hP NM90_0 P0 P1 V0 V1 V2 V3 V4 V5 V6 V7 V8 V9 V10 V11 V14 V15
  have dAl := dAl; have dSt := dSt; have xC := ext_cell; have xF := ext_frozen; have xS := ext_set; have xN := ext_drewN; have xD := ext_drew; have xL := ext_lt; have xE := ext_ne; have xG := ext_nr; have xX := ext_ext; have xL1 := ext_lt1; have xL2 := ext_lt2; have xL3 := ext_lt3; have xM0 := ext_le0; have xM1 := ext_le1; have xM2 := ext_le2
  conv => arg 2; whnf
  go_upto_region 5 with fail
  go_cut [8, 9] (fun s8 s9 wz301 => ∃ g : Nat, s8 = .slice (some ⟨g, 0, none⟩) 3 3 ∧ s9 = .int .i64 0 ∧ wz301.cell? ⟨g, 0, none⟩ = some (.int .i64 707106) ∧ wz301.cell? ⟨g, 1, none⟩ = some (.int .i64 707107) ∧ wz301.cell? ⟨g, 2, none⟩ = some (.int .i64 707106) ∧ wz301.cell? ⟨g, 3, none⟩ = some (.int .i64 707107) ∧ wz301.cell? ⟨g, 4, none⟩ = some (.int .i64 0) ∧ wz301.cell? ⟨g, 5, none⟩ = some (.int .i64 0) ∧ wz301.cell? ⟨g, 6, none⟩ = some (.int .i64 1000000) ∧ wz301.cell? ⟨g, 7, none⟩ = some (.int .i64 1000000) ∧ wz301.cell? ⟨g, 8, none⟩ = some (.int .i64 0) ∧ wz301.cell? ⟨g, 9, none⟩ = some (.int .i64 0) ∧ wz301.cell? ⟨g, 10, none⟩ = some (.int .i64 0) ∧ wz301.cell? ⟨g, 11, none⟩ = some (.int .i64 0) ∧ wz301.cell? ⟨g, 14, none⟩ = some (.int .i64 (-707107)) ∧ wz301.cell? ⟨g, 15, none⟩ = some (.int .i64 (-707106)) ∧ g < wz301.heap.size ∧ Below wz0.heap.size wz0 wz301)
  case first =>
    as_aux_lemma =>
      have NM90_0 := HNM90_0.out
      have P0 := HP0.out
      go_wp2_with fail
      with_reducible refine (NM90_0 _).mono ?_
      rintro e v30002 ⟨rfl, hb30002⟩
      have zz30002 := hb30002.size
      try simp [ext_size] at zz30002
      have hB30002 : Below wz0.heap.size wz0 v30002 := Below.trans (by (repeat (first | with_reducible exact b0 _ | (with_reducible refine bext ?_ _ _) | (with_reducible refine below_drewN ?_ _) | (with_reducible refine Below.drew ?_) | (with_reducible refine bal ?_ _)))) (hb30002.mono (by first | omega | (simp [ext_size]; try omega)))
      have zw30002 := hB30002.size
      clear hb30002
      go_wp2_with fail
      with_reducible refine (P0 _).mono ?_
      rintro e v500 ⟨⟨g, rfl, zg, cg⟩, hb500⟩
      have hB500 : Below wz0.heap.size wz0 v500 := Below.trans (by (repeat (first | with_reducible exact hB30002 | (with_reducible refine bext ?_ _ _) | (with_reducible refine below_drewN ?_ _) | (with_reducible refine Below.drew ?_) | (with_reducible refine bal ?_ _) | (with_reducible refine bset ?_ (by first | omega | (simp <;> omega)) _)))) (hb500.mono (by first | omega | (simp [ext_size]; try omega)))
      have h0 := cg 0 (by omega)
      rw [HV0.out] at h0
      have h1 := cg 1 (by omega)
      rw [HV1.out] at h1
      have h2 := cg 2 (by omega)
      rw [HV2.out] at h2
      have h3 := cg 3 (by omega)
      rw [HV3.out] at h3
      have h4 := cg 4 (by omega)
      rw [HV4.out] at h4
      have h5 := cg 5 (by omega)
      rw [HV5.out] at h5
      have h6 := cg 6 (by omega)
      rw [HV6.out] at h6
      have h7 := cg 7 (by omega)
      rw [HV7.out] at h7
      have h8 := cg 8 (by omega)
      rw [HV8.out] at h8
      have h9 := cg 9 (by omega)
      rw [HV9.out] at h9
      have h10 := cg 10 (by omega)
      rw [HV10.out] at h10
      have h11 := cg 11 (by omega)
      rw [HV11.out] at h11
      have h14 := cg 14 (by omega)
      rw [HV14.out] at h14
      have h15 := cg 15 (by omega)
      rw [HV15.out] at h15
      clear cg
      go_wp2_with fail
      go_meet
      exact ⟨g, rfl, rfl, h0, h1, h2, h3, h4, h5, h6, h7, h8, h9, h10, h11, h14, h15, zg, by (repeat (first | with_reducible exact hB500 | (with_reducible refine bext ?_ _ _) | (with_reducible refine below_drewN ?_ _) | (with_reducible refine Below.drew ?_) | (with_reducible refine bal ?_ _) | (with_reducible refine bset ?_ (by first | omega | (simp <;> omega)) _)))⟩
  case rest =>
    revert hcut; revert wc; intro wz301 hcut
    obtain ⟨g, rfl, rfl, cg_0_wz301, cg_1_wz301, cg_2_wz301, cg_3_wz301, cg_4_wz301, cg_5_wz301, cg_6_wz301, cg_7_wz301, cg_8_wz301, cg_9_wz301, cg_10_wz301, cg_11_wz301, cg_14_wz301, cg_15_wz301, zg_wz301, hB301⟩ := hcut
    have hW301 : Below w.heap.size w wz301 := Below.trans hW300 (hB301.mono hW300.size)
    clear hB301 hW300
    go_upto_region 6 with fail
    go_cut [10, 11] (fun s10 s11 wz302 => ∃ g6 : Nat, s10 = .slice (some ⟨g6, 0, none⟩) 0 0 ∧ s11 = .int .i64 0 ∧ g6 < wz302.heap.size ∧ Below wz301.heap.size wz301 wz302)
    case first =>
      as_aux_lemma =>
        have NM90_0 := HNM90_0.out
        have P1 := HP1.out
        go_wp2_with fail
        with_reducible refine (NM90_0 _).mono ?_
        rintro e v30102 ⟨rfl, hb30102⟩
        have zz30102 := hb30102.size
        try simp [ext_size] at zz30102
        have hB30102 : Below wz301.heap.size wz301 v30102 := Below.trans (by (repeat (first | with_reducible exact b0 _ | (with_reducible refine bext ?_ _ _) | (with_reducible refine below_drewN ?_ _) | (with_reducible refine Below.drew ?_) | (with_reducible refine bal ?_ _)))) (hb30102.mono (by first | omega | (simp [ext_size]; try omega)))
        have zw30102 := hB30102.size
        clear hb30102
        go_wp2_with fail
        with_reducible refine (P1 _).mono ?_
        rintro e v600 ⟨⟨g6, rfl, zg6, cg6⟩, hb600⟩
        have hB600 : Below wz301.heap.size wz301 v600 := Below.trans (by (repeat (first | with_reducible exact hB30102 | (with_reducible refine bext ?_ _ _) | (with_reducible refine below_drewN ?_ _) | (with_reducible refine Below.drew ?_) | (with_reducible refine bal ?_ _) | (with_reducible refine bset ?_ (by first | omega | (simp <;> omega)) _)))) (hb600.mono (by first | omega | (simp [ext_size]; try omega)))
        go_wp2_with fail
        go_meet
        exact ⟨g6, rfl, rfl, zg6, by (repeat (first | with_reducible exact hB600 | (with_reducible refine bext ?_ _ _) | (with_reducible refine below_drewN ?_ _) | (with_reducible refine Below.drew ?_) | (with_reducible refine bal ?_ _) | (with_reducible refine bset ?_ (by first | omega | (simp <;> omega)) _)))⟩
    case rest =>
      revert hcut; revert wc; intro wz302 hcut
      obtain ⟨g6, rfl, rfl, zg6_wz302, hB302⟩ := hcut
      have cg_0_wz302 : wz302.cell? ⟨g, 0, none⟩ = some (.int .i64 707106) := (hB302.cell (p := ⟨g, 0, none⟩) zg_wz301).trans cg_0_wz301
      have cg_1_wz302 : wz302.cell? ⟨g, 1, none⟩ = some (.int .i64 707107) := (hB302.cell (p := ⟨g, 1, none⟩) zg_wz301).trans cg_1_wz301
      have cg_2_wz302 : wz302.cell? ⟨g, 2, none⟩ = some (.int .i64 707106) := (hB302.cell (p := ⟨g, 2, none⟩) zg_wz301).trans cg_2_wz301
      have cg_3_wz302 : wz302.cell? ⟨g, 3, none⟩ = some (.int .i64 707107) := (hB302.cell (p := ⟨g, 3, none⟩) zg_wz301).trans cg_3_wz301
      have cg_4_wz302 : wz302.cell? ⟨g, 4, none⟩ = some (.int .i64 0) := (hB302.cell (p := ⟨g, 4, none⟩) zg_wz301).trans cg_4_wz301
      have cg_5_wz302 : wz302.cell? ⟨g, 5, none⟩ = some (.int .i64 0) := (hB302.cell (p := ⟨g, 5, none⟩) zg_wz301).trans cg_5_wz301
      have cg_6_wz302 : wz302.cell? ⟨g, 6, none⟩ = some (.int .i64 1000000) := (hB302.cell (p := ⟨g, 6, none⟩) zg_wz301).trans cg_6_wz301
      have cg_7_wz302 : wz302.cell? ⟨g, 7, none⟩ = some (.int .i64 1000000) := (hB302.cell (p := ⟨g, 7, none⟩) zg_wz301).trans cg_7_wz301
      have cg_8_wz302 : wz302.cell? ⟨g, 8, none⟩ = some (.int .i64 0) := (hB302.cell (p := ⟨g, 8, none⟩) zg_wz301).trans cg_8_wz301
      have cg_9_wz302 : wz302.cell? ⟨g, 9, none⟩ = some (.int .i64 0) := (hB302.cell (p := ⟨g, 9, none⟩) zg_wz301).trans cg_9_wz301
      have cg_10_wz302 : wz302.cell? ⟨g, 10, none⟩ = some (.int .i64 0) := (hB302.cell (p := ⟨g, 10, none⟩) zg_wz301).trans cg_10_wz301
      have cg_11_wz302 : wz302.cell? ⟨g, 11, none⟩ = some (.int .i64 0) := (hB302.cell (p := ⟨g, 11, none⟩) zg_wz301).trans cg_11_wz301
      have cg_14_wz302 : wz302.cell? ⟨g, 14, none⟩ = some (.int .i64 (-707107)) := (hB302.cell (p := ⟨g, 14, none⟩) zg_wz301).trans cg_14_wz301
      have cg_15_wz302 : wz302.cell? ⟨g, 15, none⟩ = some (.int .i64 (-707106)) := (hB302.cell (p := ⟨g, 15, none⟩) zg_wz301).trans cg_15_wz301
      have zg_wz302 : g < wz302.heap.size := Nat.lt_of_lt_of_le zg_wz301 hB302.size
      clear cg_0_wz301 cg_1_wz301 cg_2_wz301 cg_3_wz301 cg_4_wz301 cg_5_wz301 cg_6_wz301 cg_7_wz301 cg_8_wz301 cg_9_wz301 cg_10_wz301 cg_11_wz301 cg_14_wz301 cg_15_wz301 zg_wz301
      have hW302 : Below w.heap.size w wz302 := Below.trans hW301 (hB302.mono hW301.size)
      clear hB302 hW301
      refine (show ∀ (a : Act) (w : World), Code.wp _ _ _ a w → (_ : Act → World → Prop) a w by assumption) _ _ ?_
      exact hn wz302 g g6 _ _ _ _ _ _ _ _ _ _ _ _ _ _ _ _ _ _ _ _ _ _ _ _ _ _ _ _ _ _ _ _ _ _ _ _ _ _ _ _ _ _ _ _ _ _ _ _ _ _ _ _ _ _ _ _ _ _ _ _ _ _ _ _ _ _ _ _ _ _ _ _ _ _ _ _ _ _ _ _ _ _ _ _ _ _ _ _ _ _ _ _ _ _ _ _ _ _ _ _ _ _ _ _ _ _ _ _ _ _ _ _ _ _ _ _ _ _ _ _ _ _ _ _ _ _ _ _ _ _ _ _ _ _ _ _ _ _ _ _ _ _ _ _ _ _ _ _ _ _ _ _ _ _ _ _ _ _ _ _ _ _ _ _ _ _ _ _ _ _ _ _ _ _ _ _ _ _ _ _ _ _ _ _ _ _ _ _ _ _ _ _ _ _ _ _ _ _ _ _ _ _ _ _ _ _ _ _ _ _ _ _ _ _ _ _ _ _ _ _ _ _ _ _ _ _ _ _ _ _ _ _ _ _ _ _ _ _ _ _ _ _ _ _ _ _ _ _ _ _ _ _ _ _ _ _ _ _ _ _ _ _ _ _ _ _ _ _ _ _ _ _ _ _ _ _ _ _ _ _ _ _ _ _ _ _ _ _ _ _ _ _ _ _ _ _ _ _ _ _ _ _ _ _ _ _ _ _ _ _ _ _ _ _ _ _ _ _ _ _ _ _ _ _ _ _ _ _ _ _ _ _ _ _ _ _ _ _ _ _ _ _ _ _ _ cg_0_wz302 cg_1_wz302 cg_2_wz302 cg_3_wz302 cg_4_wz302 cg_5_wz302 cg_6_wz302 cg_7_wz302 cg_8_wz302 cg_9_wz302 cg_10_wz302 cg_11_wz302 cg_14_wz302 cg_15_wz302 zg_wz302 zg6_wz302 hW302
end Go.Proofs.Ytmjbeplcabomdaa
