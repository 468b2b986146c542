/-
  TrackNames, part by part: part 1.
-/
import Derived.Test.YtmjbeplcabomdaaPya
namespace Go.Proofs.Ytmjbeplcabomdaa
open Go.RowKit
set_option linter.unusedVariables false
set_option linter.unusedSimpArgs false
set_option maxRecDepth 100000 in
set_option maxHeartbeats 25600000 in
theorem sg1 (w : World) (hn : Sg2 w) : Sg1 w := by
  intro wz0 u2 u3 u4 u5 u6 u7 u8 u9 u10 u11 u12 u13 u14 u15 u16 u17 u18 u19 u20 u21 u22 u23 u24 u25 u26 u27 u28 u29 u30 u31 u32 u33 u34 u35 u36 u37 u38 u39 u40 u41 u42 u43 u44 u45 u46 u47 u48 u49 u50 u51 u52 u53 u54 u55 u56 u57 u58 u59 u60 u61 u62 u63 u64 u65 u66 u67 u68 u69 u70 u71 u72 u73 u74 u75 u76 u77 u78 u79 u80 u81 u82 u83 u84 u85 u86 u87 u88 u89 u90 u91 u92 u93 u94 u95 u96 u97 u98 u99 u100 u101 u102 u103 u104 u105 u106 u107 u108 u109 u110 u111 u112 u113 u114 u115 u116 u117 u118 u119 u120 u121 u122 u123 u124 u125 u126 u127 u128 u129 u130 u131 u132 u133 u134 u135 u136 u137 u138 u139 u140 u141 u142 u143 u144 u145 u146 u147 u148 u149 u150 u151 u152 u153 u154 u155 u156 u157 u158 u159 u160 u161 u162 u163 u164 u165 u166 u167 u168 u169 u170 u171 u172 u173 u174 u175 u176 u177 u178 u179 u180 u181 u182 u183 u184 u185 u186 u187 u188 u189 u190 u191 u192 u193 u194 u195 u196 u197 u198 u199 u200 u201 u202 u203 u204 u205 u206 u207 u208 u209 u210 u211 u212 u213 u214 u215 u216 u217 u218 u219 u220 u221 u222 u223 u224 u225 u226 u227 u228 u229 u230 u231 u232 u233 u234 u235 u236 u237 u238 u239 u240 u241 u242 u243 u244 u245 u246 u247 u248 u249 u250 u251 u252 u253 u254 u255 u256 u257 u258 u259 u260 u261 u262 u263 u264 u265 u266 u267 u268 u269 u270 u271 u272 u273 u274 u275 u276 u277 u278 u279 u280 u281 u282 u283 u284 u285 u286 u287 u288 u289 u290 u291 u292 u293 u294 u295 u296 u297 u298 u299 u300 u301 u302 u303 u304 u305 u306 u307 u308 u309 u310 u311 u312 u313 u314 u315 u316 u317 u318 u319 u320 u321 u322 u323 u324 u325 u326 u327 u328 u329 u330 u331 u332 u333 u334 u335 u336 u337 u338 u339 u340 u341 u342 u343 u344 u345 u346 u347 u348 u349 u350 u351 u352 u353 hW200
  have NM0_0 := fun w => law6_named 0 0 w
  have T0 := fun w => track_At_arg sN 0 0 1000001 (by decide +kernel) (by decide +kernel) w
  have T1 := fun w => track_At_arg sN 0 0 (-1000001) (by decide +kernel) (by decide +kernel) w
  have T2 := fun w => track_At_ok sN 0 0 1000000 (by decide +kernel) (by decide +kernel) w
  generalize sN = nm at *
  have HNM0_0 := Lib.hid NM0_0
  have HT0 := Lib.hid T0
  have HT1 := Lib.hid T1
  have HT2 := Lib.hid T2
  clear NM0_0 T0 T1 T2
  have dAl := dAl; have dSt := dSt; have xC := ext_cell; have xF := ext_frozen; have xS := ext_set; have xN := ext_drewN; have xD := ext_drew; have xL := ext_lt; have xE := ext_ne; have xG := ext_nr; have xX := ext_ext; have xL1 := ext_lt1; have xL2 := ext_lt2; have xL3 := ext_lt3; have xM0 := ext_le0; have xM1 := ext_le1; have xM2 := ext_le2
  conv => arg 2; whnf
  go_upto_region 2 with fail
  go_cut [3] (fun s3 wz201 => s3 = .int .i64 2 ∧ Below wz0.heap.size wz0 wz201)
  case first =>
    as_aux_lemma =>
      have NM0_0 := HNM0_0.out
      have T0 := HT0.out
      go_wp2_with fail
      with_reducible refine (NM0_0 _).mono ?_
      rintro e v20002 ⟨rfl, hb20002⟩
      have zz20002 := hb20002.size
      try simp [ext_size] at zz20002
      have hB20002 : Below wz0.heap.size wz0 v20002 := Below.trans (by (repeat (first | with_reducible exact b0 _ | (with_reducible refine bext ?_ _ _) | (with_reducible refine below_drewN ?_ _) | (with_reducible refine Below.drew ?_) | (with_reducible refine bal ?_ _)))) (hb20002.mono (by first | omega | (simp [ext_size]; try omega)))
      have zw20002 := hB20002.size
      clear hb20002
      go_wp2_with fail
      with_reducible refine (T0 _).mono ?_
      rintro e v20003 ⟨rfl, hb20003⟩
      have zz20003 := hb20003.size
      try simp [ext_size] at zz20003
      have hB20003 : Below wz0.heap.size wz0 v20003 := Below.trans (by (repeat (first | with_reducible exact hB20002 | (with_reducible refine bext ?_ _ _) | (with_reducible refine below_drewN ?_ _) | (with_reducible refine Below.drew ?_) | (with_reducible refine bal ?_ _) | (with_reducible refine bset ?_ (by first | omega | (simp <;> omega)) _)))) (hb20003.mono (by first | omega | (simp [ext_size]; try omega)))
      have zw20003 := hB20003.size
      clear hb20003
      clear zz20002 zw20002 hB20002
      go_wp2_with fail
      go_meet
      exact ⟨rfl, by (repeat (first | with_reducible exact hB20003 | (with_reducible refine bext ?_ _ _) | (with_reducible refine below_drewN ?_ _) | (with_reducible refine Below.drew ?_) | (with_reducible refine bal ?_ _) | (with_reducible refine bset ?_ (by first | omega | (simp <;> omega)) _)))⟩
  case rest =>
    revert hcut; revert wc; intro wz201 hcut
    obtain ⟨rfl, hB201⟩ := hcut
    have hW201 : Below w.heap.size w wz201 := Below.trans hW200 (hB201.mono hW200.size)
    clear hB201 hW200
    go_upto_region 3 with fail
    go_cut [5] (fun s5 wz202 => s5 = .int .i64 2 ∧ Below wz201.heap.size wz201 wz202)
    case first =>
      as_aux_lemma =>
        have NM0_0 := HNM0_0.out
        have T1 := HT1.out
        go_wp2_with fail
        with_reducible refine (NM0_0 _).mono ?_
        rintro e v20102 ⟨rfl, hb20102⟩
        have zz20102 := hb20102.size
        try simp [ext_size] at zz20102
        have hB20102 : Below wz201.heap.size wz201 v20102 := Below.trans (by (repeat (first | with_reducible exact b0 _ | (with_reducible refine bext ?_ _ _) | (with_reducible refine below_drewN ?_ _) | (with_reducible refine Below.drew ?_) | (with_reducible refine bal ?_ _)))) (hb20102.mono (by first | omega | (simp [ext_size]; try omega)))
        have zw20102 := hB20102.size
        clear hb20102
        go_wp2_with fail
        with_reducible refine (T1 _).mono ?_
        rintro e v20103 ⟨rfl, hb20103⟩
        have zz20103 := hb20103.size
        try simp [ext_size] at zz20103
        have hB20103 : Below wz201.heap.size wz201 v20103 := Below.trans (by (repeat (first | with_reducible exact hB20102 | (with_reducible refine bext ?_ _ _) | (with_reducible refine below_drewN ?_ _) | (with_reducible refine Below.drew ?_) | (with_reducible refine bal ?_ _) | (with_reducible refine bset ?_ (by first | omega | (simp <;> omega)) _)))) (hb20103.mono (by first | omega | (simp [ext_size]; try omega)))
        have zw20103 := hB20103.size
        clear hb20103
        clear zz20102 zw20102 hB20102
        go_wp2_with fail
        go_meet
        exact ⟨rfl, by (repeat (first | with_reducible exact hB20103 | (with_reducible refine bext ?_ _ _) | (with_reducible refine below_drewN ?_ _) | (with_reducible refine Below.drew ?_) | (with_reducible refine bal ?_ _) | (with_reducible refine bset ?_ (by first | omega | (simp <;> omega)) _)))⟩
    case rest =>
      revert hcut; revert wc; intro wz202 hcut
      obtain ⟨rfl, hB202⟩ := hcut
      have hW202 : Below w.heap.size w wz202 := Below.trans hW201 (hB202.mono hW201.size)
      clear hB202 hW201
      go_upto_region 4 with fail
      go_cut [7] (fun s7 wz203 => s7 = .int .i64 0 ∧ Below wz202.heap.size wz202 wz203)
      case first =>
        as_aux_lemma =>
          have NM0_0 := HNM0_0.out
          have T2 := HT2.out
          go_wp2_with fail
          with_reducible refine (NM0_0 _).mono ?_
          rintro e v20202 ⟨rfl, hb20202⟩
          have zz20202 := hb20202.size
          try simp [ext_size] at zz20202
          have hB20202 : Below wz202.heap.size wz202 v20202 := Below.trans (by (repeat (first | with_reducible exact b0 _ | (with_reducible refine bext ?_ _ _) | (with_reducible refine below_drewN ?_ _) | (with_reducible refine Below.drew ?_) | (with_reducible refine bal ?_ _)))) (hb20202.mono (by first | omega | (simp [ext_size]; try omega)))
          have zw20202 := hB20202.size
          clear hb20202
          go_wp2_with fail
          with_reducible refine (T2 _).mono ?_
          rintro e v20203 ⟨rfl, hb20203⟩
          have zz20203 := hb20203.size
          try simp [ext_size] at zz20203
          have hB20203 : Below wz202.heap.size wz202 v20203 := Below.trans (by (repeat (first | with_reducible exact hB20202 | (with_reducible refine bext ?_ _ _) | (with_reducible refine below_drewN ?_ _) | (with_reducible refine Below.drew ?_) | (with_reducible refine bal ?_ _) | (with_reducible refine bset ?_ (by first | omega | (simp <;> omega)) _)))) (hb20203.mono (by first | omega | (simp [ext_size]; try omega)))
          have zw20203 := hB20203.size
          clear hb20203
          clear zz20202 zw20202 hB20202
          go_wp2_with fail
          go_meet
          exact ⟨rfl, by (repeat (first | with_reducible exact hB20203 | (with_reducible refine bext ?_ _ _) | (with_reducible refine below_drewN ?_ _) | (with_reducible refine Below.drew ?_) | (with_reducible refine bal ?_ _) | (with_reducible refine bset ?_ (by first | omega | (simp <;> omega)) _)))⟩
      case rest =>
        revert hcut; revert wc; intro wz203 hcut
        obtain ⟨rfl, hB203⟩ := hcut
        have hW203 : Below w.heap.size w wz203 := Below.trans hW202 (hB203.mono hW202.size)
        clear hB203 hW202
        refine (show ∀ (a : Act) (w : World), Code.wp _ _ _ a w → (_ : Act → World → Prop) a w by assumption) _ _ ?_
        exact hn wz203 _ _ _ _ _ _ _ _ _ _ _ _ _ _ _ _ _ _ _ _ _ _ _ _ _ _ _ _ _ _ _ _ _ _ _ _ _ _ _ _ _ _ _ _ _ _ _ _ _ _ _ _ _ _ _ _ _ _ _ _ _ _ _ _ _ _ _ _ _ _ _ _ _ _ _ _ _ _ _ _ _ _ _ _ _ _ _ _ _ _ _ _ _ _ _ _ _ _ _ _ _ _ _ _ _ _ _ _ _ _ _ _ _ _ _ _ _ _ _ _ _ _ _ _ _ _ _ _ _ _ _ _ _ _ _ _ _ _ _ _ _ _ _ _ _ _ _ _ _ _ _ _ _ _ _ _ _ _ _ _ _ _ _ _ _ _ _ _ _ _ _ _ _ _ _ _ _ _ _ _ _ _ _ _ _ _ _ _ _ _ _ _ _ _ _ _ _ _ _ _ _ _ _ _ _ _ _ _ _ _ _ _ _ _ _ _ _ _ _ _ _ _ _ _ _ _ _ _ _ _ _ _ _ _ _ _ _ _ _ _ _ _ _ _ _ _ _ _ _ _ _ _ _ _ _ _ _ _ _ _ _ _ _ _ _ _ _ _ _ _ _ _ _ _ _ _ _ _ _ _ _ _ _ _ _ _ _ _ _ _ _ _ _ _ _ _ _ _ _ _ _ _ _ _ _ _ _ _ _ _ _ _ _ _ _ _ _ _ _ _ _ _ _ _ _ _ _ _ _ _ _ _ _ _ _ _ _ _ _ _ _ _ _ _ _ _ _ _ _ hW203
end Go.Proofs.Ytmjbeplcabomdaa
