/-
  TrackNames, part by part: part 0.
-/
import Derived.Test.YtmjbeplcabomdaaPya
namespace Go.Proofs.Ytmjbeplcabomdaa
open Go.RowKit
set_option linter.unusedVariables false
set_option linter.unusedSimpArgs false
set_option maxRecDepth 100000 in
set_option maxHeartbeats 25600000 in
theorem sg0 (w : World) (hn : Sg1 w) : Sg0 w := by
  intro wz0 u0 u1 u2 u3 u4 u5 u6 u7 u8 u9 u10 u11 u12 u13 u14 u15 u16 u17 u18 u19 u20 u21 u22 u23 u24 u25 u26 u27 u28 u29 u30 u31 u32 u33 u34 u35 u36 u37 u38 u39 u40 u41 u42 u43 u44 u45 u46 u47 u48 u49 u50 u51 u52 u53 u54 u55 u56 u57 u58 u59 u60 u61 u62 u63 u64 u65 u66 u67 u68 u69 u70 u71 u72 u73 u74 u75 u76 u77 u78 u79 u80 u81 u82 u83 u84 u85 u86 u87 u88 u89 u90 u91 u92 u93 u94 u95 u96 u97 u98 u99 u100 u101 u102 u103 u104 u105 u106 u107 u108 u109 u110 u111 u112 u113 u114 u115 u116 u117 u118 u119 u120 u121 u122 u123 u124 u125 u126 u127 u128 u129 u130 u131 u132 u133 u134 u135 u136 u137 u138 u139 u140 u141 u142 u143 u144 u145 u146 u147 u148 u149 u150 u151 u152 u153 u154 u155 u156 u157 u158 u159 u160 u161 u162 u163 u164 u165 u166 u167 u168 u169 u170 u171 u172 u173 u174 u175 u176 u177 u178 u179 u180 u181 u182 u183 u184 u185 u186 u187 u188 u189 u190 u191 u192 u193 u194 u195 u196 u197 u198 u199 u200 u201 u202 u203 u204 u205 u206 u207 u208 u209 u210 u211 u212 u213 u214 u215 u216 u217 u218 u219 u220 u221 u222 u223 u224 u225 u226 u227 u228 u229 u230 u231 u232 u233 u234 u235 u236 u237 u238 u239 u240 u241 u242 u243 u244 u245 u246 u247 u248 u249 u250 u251 u252 u253 u254 u255 u256 u257 u258 u259 u260 u261 u262 u263 u264 u265 u266 u267 u268 u269 u270 u271 u272 u273 u274 u275 u276 u277 u278 u279 u280 u281 u282 u283 u284 u285 u286 u287 u288 u289 u290 u291 u292 u293 u294 u295 u296 u297 u298 u299 u300 u301 u302 u303 u304 u305 u306 u307 u308 u309 u310 u311 u312 u313 u314 u315 u316 u317 u318 u319 u320 u321 u322 u323 u324 u325 u326 u327 u328 u329 u330 u331 u332 u333 u334 u335 u336 u337 u338 u339 u340 u341 u342 u343 u344 u345 u346 u347 u348 u349 u350 u351 u352 u353 hW100
  have NMm1_0 := fun w => law6_named (-1) 0 w
  have NM720_0 := fun w => law6_named 720 0 w
  have NM719_181 := fun w => law6_named 719 181 w
  have NM0_m181 := fun w => law6_named 0 (-181) w
  have NM719_m180 := fun w => law6_named 719 (-180) w
  have NM0_m9223372036854775808 := fun w => law6_named 0 (-9223372036854775808) w
  have K0 := fun w => track_Check { data := #[] } 0 0 w
  rw [show srE { data := #[] } 0 0 = 8 by decide +kernel] at K0
  have K1 := fun w => track_Check sN (-1) 0 w
  rw [show srE sN (-1) 0 = 8 by decide +kernel] at K1
  have K2 := fun w => track_Check sN 720 0 w
  rw [show srE sN 720 0 = 8 by decide +kernel] at K2
  have K3 := fun w => track_Check sN 719 181 w
  rw [show srE sN 719 181 = 8 by decide +kernel] at K3
  have K4 := fun w => track_Check sN 0 (-181) w
  rw [show srE sN 0 (-181) = 8 by decide +kernel] at K4
  have K5 := fun w => track_Check sN 719 (-180) w
  rw [show srE sN 719 (-180) = 0 by decide +kernel] at K5
  have K6 := fun w => track_Check { data := #[83] } 0 0 w
  rw [show srE { data := #[83] } 0 0 = 8 by decide +kernel] at K6
  have K7 := fun w => track_Check sN 0 (-9223372036854775808) w
  rw [show srE sN 0 (-9223372036854775808) = 8 by decide +kernel] at K7
  generalize sN = nm at *
  have HNMm1_0 := Lib.hid NMm1_0
  have HNM720_0 := Lib.hid NM720_0
  have HNM719_181 := Lib.hid NM719_181
  have HNM0_m181 := Lib.hid NM0_m181
  have HNM719_m180 := Lib.hid NM719_m180
  have HNM0_m9223372036854775808 := Lib.hid NM0_m9223372036854775808
  have HK0 := Lib.hid K0
  have HK1 := Lib.hid K1
  have HK2 := Lib.hid K2
  have HK3 := Lib.hid K3
  have HK4 := Lib.hid K4
  have HK5 := Lib.hid K5
  have HK6 := Lib.hid K6
  have HK7 := Lib.hid K7
  clear NMm1_0 NM720_0 NM719_181 NM0_m181 NM719_m180 NM0_m9223372036854775808 K0 K1 K2 K3 K4 K5 K6 K7
  have dAl := dAl; have dSt := dSt; have xC := ext_cell; have xF := ext_frozen; have xS := ext_set; have xN := ext_drewN; have xD := ext_drew; have xL := ext_lt; have xE := ext_ne; have xG := ext_nr; have xX := ext_ext; have xL1 := ext_lt1; have xL2 := ext_lt2; have xL3 := ext_lt3; have xM0 := ext_le0; have xM1 := ext_le1; have xM2 := ext_le2
  conv => arg 2; whnf
  go_upto_region 1 with fail
  go_cut [1] (fun s1 wz101 => s1 = .bool true ∧ Below wz0.heap.size wz0 wz101)
  case first =>
    as_aux_lemma =>
      have NMm1_0 := HNMm1_0.out
      have NM720_0 := HNM720_0.out
      have NM719_181 := HNM719_181.out
      have NM0_m181 := HNM0_m181.out
      have NM719_m180 := HNM719_m180.out
      have NM0_m9223372036854775808 := HNM0_m9223372036854775808.out
      have K0 := HK0.out
      have K1 := HK1.out
      have K2 := HK2.out
      have K3 := HK3.out
      have K4 := HK4.out
      have K5 := HK5.out
      have K6 := HK6.out
      have K7 := HK7.out
      go_wp2_with fail
      with_reducible refine (K0 _).mono ?_
      rintro e v10002 ⟨rfl, hb10002⟩
      have zz10002 := hb10002.size
      try simp [ext_size] at zz10002
      have hB10002 : Below wz0.heap.size wz0 v10002 := Below.trans (by (repeat (first | with_reducible exact b0 _ | (with_reducible refine bext ?_ _ _) | (with_reducible refine below_drewN ?_ _) | (with_reducible refine Below.drew ?_) | (with_reducible refine bal ?_ _)))) (hb10002.mono (by first | omega | (simp [ext_size]; try omega)))
      have zw10002 := hB10002.size
      clear hb10002
      go_wp2_with fail
      with_reducible refine (NMm1_0 _).mono ?_
      rintro e v10003 ⟨rfl, hb10003⟩
      have zz10003 := hb10003.size
      try simp [ext_size] at zz10003
      have hB10003 : Below wz0.heap.size wz0 v10003 := Below.trans (by (repeat (first | with_reducible exact hB10002 | (with_reducible refine bext ?_ _ _) | (with_reducible refine below_drewN ?_ _) | (with_reducible refine Below.drew ?_) | (with_reducible refine bal ?_ _) | (with_reducible refine bset ?_ (by first | omega | (simp <;> omega)) _)))) (hb10003.mono (by first | omega | (simp [ext_size]; try omega)))
      have zw10003 := hB10003.size
      clear hb10003
      clear zz10002 zw10002 hB10002
      go_wp2_with fail
      with_reducible refine (K1 _).mono ?_
      rintro e v10004 ⟨rfl, hb10004⟩
      have zz10004 := hb10004.size
      try simp [ext_size] at zz10004
      have hB10004 : Below wz0.heap.size wz0 v10004 := Below.trans (by (repeat (first | with_reducible exact hB10003 | (with_reducible refine bext ?_ _ _) | (with_reducible refine below_drewN ?_ _) | (with_reducible refine Below.drew ?_) | (with_reducible refine bal ?_ _) | (with_reducible refine bset ?_ (by first | omega | (simp <;> omega)) _)))) (hb10004.mono (by first | omega | (simp [ext_size]; try omega)))
      have zw10004 := hB10004.size
      clear hb10004
      clear zz10003 zw10003 hB10003
      go_wp2_with fail
      with_reducible refine (NM720_0 _).mono ?_
      rintro e v10005 ⟨rfl, hb10005⟩
      have zz10005 := hb10005.size
      try simp [ext_size] at zz10005
      have hB10005 : Below wz0.heap.size wz0 v10005 := Below.trans (by (repeat (first | with_reducible exact hB10004 | (with_reducible refine bext ?_ _ _) | (with_reducible refine below_drewN ?_ _) | (with_reducible refine Below.drew ?_) | (with_reducible refine bal ?_ _) | (with_reducible refine bset ?_ (by first | omega | (simp <;> omega)) _)))) (hb10005.mono (by first | omega | (simp [ext_size]; try omega)))
      have zw10005 := hB10005.size
      clear hb10005
      clear zz10004 zw10004 hB10004
      go_wp2_with fail
      with_reducible refine (K2 _).mono ?_
      rintro e v10006 ⟨rfl, hb10006⟩
      have zz10006 := hb10006.size
      try simp [ext_size] at zz10006
      have hB10006 : Below wz0.heap.size wz0 v10006 := Below.trans (by (repeat (first | with_reducible exact hB10005 | (with_reducible refine bext ?_ _ _) | (with_reducible refine below_drewN ?_ _) | (with_reducible refine Below.drew ?_) | (with_reducible refine bal ?_ _) | (with_reducible refine bset ?_ (by first | omega | (simp <;> omega)) _)))) (hb10006.mono (by first | omega | (simp [ext_size]; try omega)))
      have zw10006 := hB10006.size
      clear hb10006
      clear zz10005 zw10005 hB10005
      go_wp2_with fail
      with_reducible refine (NM719_181 _).mono ?_
      rintro e v10007 ⟨rfl, hb10007⟩
      have zz10007 := hb10007.size
      try simp [ext_size] at zz10007
      have hB10007 : Below wz0.heap.size wz0 v10007 := Below.trans (by (repeat (first | with_reducible exact hB10006 | (with_reducible refine bext ?_ _ _) | (with_reducible refine below_drewN ?_ _) | (with_reducible refine Below.drew ?_) | (with_reducible refine bal ?_ _) | (with_reducible refine bset ?_ (by first | omega | (simp <;> omega)) _)))) (hb10007.mono (by first | omega | (simp [ext_size]; try omega)))
      have zw10007 := hB10007.size
      clear hb10007
      clear zz10006 zw10006 hB10006
      go_wp2_with fail
      with_reducible refine (K3 _).mono ?_
      rintro e v10008 ⟨rfl, hb10008⟩
      have zz10008 := hb10008.size
      try simp [ext_size] at zz10008
      have hB10008 : Below wz0.heap.size wz0 v10008 := Below.trans (by (repeat (first | with_reducible exact hB10007 | (with_reducible refine bext ?_ _ _) | (with_reducible refine below_drewN ?_ _) | (with_reducible refine Below.drew ?_) | (with_reducible refine bal ?_ _) | (with_reducible refine bset ?_ (by first | omega | (simp <;> omega)) _)))) (hb10008.mono (by first | omega | (simp [ext_size]; try omega)))
      have zw10008 := hB10008.size
      clear hb10008
      clear zz10007 zw10007 hB10007
      go_wp2_with fail
      with_reducible refine (NM0_m181 _).mono ?_
      rintro e v10009 ⟨rfl, hb10009⟩
      have zz10009 := hb10009.size
      try simp [ext_size] at zz10009
      have hB10009 : Below wz0.heap.size wz0 v10009 := Below.trans (by (repeat (first | with_reducible exact hB10008 | (with_reducible refine bext ?_ _ _) | (with_reducible refine below_drewN ?_ _) | (with_reducible refine Below.drew ?_) | (with_reducible refine bal ?_ _) | (with_reducible refine bset ?_ (by first | omega | (simp <;> omega)) _)))) (hb10009.mono (by first | omega | (simp [ext_size]; try omega)))
      have zw10009 := hB10009.size
      clear hb10009
      clear zz10008 zw10008 hB10008
      go_wp2_with fail
      with_reducible refine (K4 _).mono ?_
      rintro e v10010 ⟨rfl, hb10010⟩
      have zz10010 := hb10010.size
      try simp [ext_size] at zz10010
      have hB10010 : Below wz0.heap.size wz0 v10010 := Below.trans (by (repeat (first | with_reducible exact hB10009 | (with_reducible refine bext ?_ _ _) | (with_reducible refine below_drewN ?_ _) | (with_reducible refine Below.drew ?_) | (with_reducible refine bal ?_ _) | (with_reducible refine bset ?_ (by first | omega | (simp <;> omega)) _)))) (hb10010.mono (by first | omega | (simp [ext_size]; try omega)))
      have zw10010 := hB10010.size
      clear hb10010
      clear zz10009 zw10009 hB10009
      go_wp2_with fail
      with_reducible refine (NM719_m180 _).mono ?_
      rintro e v10011 ⟨rfl, hb10011⟩
      have zz10011 := hb10011.size
      try simp [ext_size] at zz10011
      have hB10011 : Below wz0.heap.size wz0 v10011 := Below.trans (by (repeat (first | with_reducible exact hB10010 | (with_reducible refine bext ?_ _ _) | (with_reducible refine below_drewN ?_ _) | (with_reducible refine Below.drew ?_) | (with_reducible refine bal ?_ _) | (with_reducible refine bset ?_ (by first | omega | (simp <;> omega)) _)))) (hb10011.mono (by first | omega | (simp [ext_size]; try omega)))
      have zw10011 := hB10011.size
      clear hb10011
      clear zz10010 zw10010 hB10010
      go_wp2_with fail
      with_reducible refine (K5 _).mono ?_
      rintro e v10012 ⟨rfl, hb10012⟩
      have zz10012 := hb10012.size
      try simp [ext_size] at zz10012
      have hB10012 : Below wz0.heap.size wz0 v10012 := Below.trans (by (repeat (first | with_reducible exact hB10011 | (with_reducible refine bext ?_ _ _) | (with_reducible refine below_drewN ?_ _) | (with_reducible refine Below.drew ?_) | (with_reducible refine bal ?_ _) | (with_reducible refine bset ?_ (by first | omega | (simp <;> omega)) _)))) (hb10012.mono (by first | omega | (simp [ext_size]; try omega)))
      have zw10012 := hB10012.size
      clear hb10012
      clear zz10011 zw10011 hB10011
      go_wp2_with fail
      with_reducible refine (K6 _).mono ?_
      rintro e v10013 ⟨rfl, hb10013⟩
      have zz10013 := hb10013.size
      try simp [ext_size] at zz10013
      have hB10013 : Below wz0.heap.size wz0 v10013 := Below.trans (by (repeat (first | with_reducible exact hB10012 | (with_reducible refine bext ?_ _ _) | (with_reducible refine below_drewN ?_ _) | (with_reducible refine Below.drew ?_) | (with_reducible refine bal ?_ _) | (with_reducible refine bset ?_ (by first | omega | (simp <;> omega)) _)))) (hb10013.mono (by first | omega | (simp [ext_size]; try omega)))
      have zw10013 := hB10013.size
      clear hb10013
      clear zz10012 zw10012 hB10012
      go_wp2_with fail
      with_reducible refine (NM0_m9223372036854775808 _).mono ?_
      rintro e v10014 ⟨rfl, hb10014⟩
      have zz10014 := hb10014.size
      try simp [ext_size] at zz10014
      have hB10014 : Below wz0.heap.size wz0 v10014 := Below.trans (by (repeat (first | with_reducible exact hB10013 | (with_reducible refine bext ?_ _ _) | (with_reducible refine below_drewN ?_ _) | (with_reducible refine Below.drew ?_) | (with_reducible refine bal ?_ _) | (with_reducible refine bset ?_ (by first | omega | (simp <;> omega)) _)))) (hb10014.mono (by first | omega | (simp [ext_size]; try omega)))
      have zw10014 := hB10014.size
      clear hb10014
      clear zz10013 zw10013 hB10013
      go_wp2_with fail
      with_reducible refine (K7 _).mono ?_
      rintro e v10015 ⟨rfl, hb10015⟩
      have zz10015 := hb10015.size
      try simp [ext_size] at zz10015
      have hB10015 : Below wz0.heap.size wz0 v10015 := Below.trans (by (repeat (first | with_reducible exact hB10014 | (with_reducible refine bext ?_ _ _) | (with_reducible refine below_drewN ?_ _) | (with_reducible refine Below.drew ?_) | (with_reducible refine bal ?_ _) | (with_reducible refine bset ?_ (by first | omega | (simp <;> omega)) _)))) (hb10015.mono (by first | omega | (simp [ext_size]; try omega)))
      have zw10015 := hB10015.size
      clear hb10015
      clear zz10014 zw10014 hB10014
      go_wp2_with fail
      go_meet
      exact ⟨rfl, by (repeat (first | with_reducible exact hB10015 | (with_reducible refine bext ?_ _ _) | (with_reducible refine below_drewN ?_ _) | (with_reducible refine Below.drew ?_) | (with_reducible refine bal ?_ _) | (with_reducible refine bset ?_ (by first | omega | (simp <;> omega)) _)))⟩
  case rest =>
    revert hcut; revert wc; intro wz101 hcut
    obtain ⟨rfl, hB101⟩ := hcut
    have hW101 : Below w.heap.size w wz101 := Below.trans hW100 (hB101.mono hW100.size)
    clear hB101 hW100
    refine (show ∀ (a : Act) (w : World), Code.wp _ _ _ a w → (_ : Act → World → Prop) a w by assumption) _ _ ?_
    exact hn wz101 _ _ _ _ _ _ _ _ _ _ _ _ _ _ _ _ _ _ _ _ _ _ _ _ _ _ _ _ _ _ _ _ _ _ _ _ _ _ _ _ _ _ _ _ _ _ _ _ _ _ _ _ _ _ _ _ _ _ _ _ _ _ _ _ _ _ _ _ _ _ _ _ _ _ _ _ _ _ _ _ _ _ _ _ _ _ _ _ _ _ _ _ _ _ _ _ _ _ _ _ _ _ _ _ _ _ _ _ _ _ _ _ _ _ _ _ _ _ _ _ _ _ _ _ _ _ _ _ _ _ _ _ _ _ _ _ _ _ _ _ _ _ _ _ _ _ _ _ _ _ _ _ _ _ _ _ _ _ _ _ _ _ _ _ _ _ _ _ _ _ _ _ _ _ _ _ _ _ _ _ _ _ _ _ _ _ _ _ _ _ _ _ _ _ _ _ _ _ _ _ _ _ _ _ _ _ _ _ _ _ _ _ _ _ _ _ _ _ _ _ _ _ _ _ _ _ _ _ _ _ _ _ _ _ _ _ _ _ _ _ _ _ _ _ _ _ _ _ _ _ _ _ _ _ _ _ _ _ _ _ _ _ _ _ _ _ _ _ _ _ _ _ _ _ _ _ _ _ _ _ _ _ _ _ _ _ _ _ _ _ _ _ _ _ _ _ _ _ _ _ _ _ _ _ _ _ _ _ _ _ _ _ _ _ _ _ _ _ _ _ _ _ _ _ _ _ _ _ _ _ _ _ _ _ _ _ _ _ _ _ _ _ _ _ _ _ _ _ _ _ _ _ hW101
end Go.Proofs.Ytmjbeplcabomdaa
