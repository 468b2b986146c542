/-
  TrackNames, part by part: part 7.
-/
import Derived.Test.YtmjbeplcabomdaaPya
namespace Go.Proofs.Ytmjbeplcabomdaa
open Go.RowKit
set_option linter.unusedVariables false
set_option linter.unusedSimpArgs false
set_option maxRecDepth 100000 in
set_option maxHeartbeats 25600000 in
theorem sg7 (w : World) (hn : Sg8 w) : Sg7 w := by
  intro wz0 g g6 hf xv m u2 u4 u6 u12 u14 u16 u18 u20 u22 u29 u30 u31 u32 u33 u34 u35 u36 u37 u38 u39 u40 u41 u42 u43 u44 u45 u46 u47 u48 u49 u50 u51 u52 u53 u54 u55 u56 u57 u58 u59 u60 u61 u62 u63 u64 u65 u66 u67 u68 u69 u70 u71 u72 u73 u74 u75 u76 u77 u78 u79 u80 u81 u82 u83 u84 u85 u86 u87 u88 u89 u90 u91 u92 u93 u94 u95 u96 u97 u98 u99 u100 u101 u102 u103 u104 u105 u106 u107 u108 u109 u110 u111 u112 u113 u114 u115 u116 u117 u118 u119 u120 u121 u122 u123 u124 u125 u126 u127 u128 u129 u130 u131 u132 u133 u134 u135 u136 u137 u138 u139 u140 u141 u142 u143 u144 u145 u146 u147 u148 u149 u150 u151 u152 u153 u154 u155 u156 u157 u158 u159 u160 u161 u162 u163 u164 u165 u166 u167 u168 u169 u170 u171 u172 u173 u174 u175 u176 u177 u178 u179 u180 u181 u182 u183 u184 u185 u186 u187 u188 u189 u190 u191 u192 u193 u194 u195 u196 u197 u198 u199 u200 u201 u202 u203 u204 u205 u206 u207 u208 u209 u210 u211 u212 u213 u214 u215 u216 u217 u218 u219 u220 u221 u222 u223 u224 u225 u226 u227 u228 u229 u230 u231 u232 u233 u234 u235 u236 u237 u238 u239 u240 u241 u242 u243 u244 u245 u246 u247 u248 u249 u250 u251 u252 u253 u254 u255 u256 u257 u258 u259 u260 u261 u262 u263 u264 u265 u266 u267 u268 u269 u270 u271 u272 u273 u274 u275 u276 u277 u278 u279 u280 u281 u282 u283 u284 u285 u286 u287 u288 u289 u290 u291 u292 u293 u294 u295 u296 u297 u298 u299 u300 u301 u302 u303 u304 u305 u306 u307 u308 u309 u310 u311 u312 u313 u314 u315 u316 u317 u318 u319 u320 u321 u322 u323 u324 u325 u326 u327 u328 u329 u330 u331 u332 u333 u334 u335 u336 u337 u338 u339 u340 u341 u342 u343 u344 u345 u346 u347 u348 u349 u350 u351 u352 u353 cg_0_wz0 cg_1_wz0 cg_2_wz0 cg_3_wz0 cg_4_wz0 cg_5_wz0 cg_6_wz0 cg_7_wz0 cg_8_wz0 cg_9_wz0 cg_10_wz0 cg_11_wz0 cg_14_wz0 cg_15_wz0 zg_wz0 zg6_wz0 chf_0_wz0 chf_1_wz0 zhf_wz0 cxv_0_wz0 cxv_1_wz0 cxv_2_wz0 cxv_3_wz0 cxv_4_wz0 cxv_5_wz0 zxv_wz0 cm_0_wz0 cm_1_wz0 zm_wz0 hW800
  have M1 := fun w => track_Along_0 1000000 1000000 0 0 0 0 2 1 1 2 (-3) 1 2000000 2000000 500000 500000 (-3000000) (-3000000) 0 2000000 2000000 0 (by decide +kernel) (fun w => by have h := vec_Check 2 1 1 2 (-3) 1 (by unfold okC; omega) (by unfold okC; omega) (by unfold okC; omega) w; rw [show chV 2 1 1 2 (-3) 1 = 0 by decide +kernel] at h; exact h) (fun w => by have h := track_enclose 2 1 1 2 (-3) 1 (by omega) (by omega) (by omega) (by omega) (by omega) (by omega) (by omega) (by omega) (by omega) (by omega) (by omega) (by omega) w; rw [show er3 (ovE 2 1) (ovE 1 2) (ovE (-3) 1) = 0 by decide +kernel] at h; simp only [pz0] at h; rw [show ovL 2 1 = 2000000 by decide +kernel, show ovH 2 1 = 2000000 by decide +kernel, show ovL 1 2 = 500000 by decide +kernel, show ovH 1 2 = 500000 by decide +kernel, show ovL (-3) 1 = (-3000000) by decide +kernel, show ovH (-3) 1 = (-3000000) by decide +kernel] at h; exact h) (by decide +kernel) w
  have M2 := fun w => track_Along_2 1000000 1000000 0 0 0 0 0 0 0 0 0 0 0 0 0 0 0 0 0 0 0 0 (by decide +kernel) (fun w => by have h := vec_Check 0 0 0 0 0 0 (by unfold okC; omega) (by unfold okC; omega) (by unfold okC; omega) w; rw [show chV 0 0 0 0 0 0 = 8 by decide +kernel] at h; exact h) w
  have M3 := fun w => track_Along_1 1 0 0 0 0 0 2 1 1 2 (-3) 1 0 0 0 0 0 0 0 0 0 0 (by decide +kernel) w
  have HM1 := Lib.hid M1
  have HM2 := Lib.hid M2
  have HM3 := Lib.hid M3
  clear M1 M2 M3
  have dAl := dAl; have dSt := dSt; have xC := ext_cell; have xF := ext_frozen; have xS := ext_set; have xN := ext_drewN; have xD := ext_drew; have xL := ext_lt; have xE := ext_ne; have xG := ext_nr; have xX := ext_ext; have xL1 := ext_lt1; have xL2 := ext_lt2; have xL3 := ext_lt3; have xM0 := ext_le0; have xM1 := ext_le1; have xM2 := ext_le2
  conv => arg 2; whnf
  go_upto_region 19 with fail
  go_cut [29, 30] (fun s29 s30 wz801 => ∃ o : Nat, s29 = .pointer (some ⟨o, 0, none⟩) ∧ s30 = .int .i64 0 ∧ wz801.cell? ⟨o, 0, none⟩ = some (.int .i64 2000000) ∧ wz801.cell? ⟨o, 1, none⟩ = some (.int .i64 2000000) ∧ o < wz801.heap.size ∧ Below wz0.heap.size wz0 wz801)
  case first =>
    as_aux_lemma =>
      have M1 := HM1.out
      have xC := ext_cell; have xF := ext_frozen; have xL := ext_lt; have xE := ext_ne; have xG := ext_nr
      refine wp_region_held_drew (S := (fun w' => Below wz0.heap.size wz0 w')) (by kernel_rfl) ?_ (fun hHeld => ?_)
      · exact Below.drew (Below.refl _ _)
      refine wpAnyH_take (i := 0) (oi := { dst := some 232, op := Op.move (Operand.tmp 8), type := 33, pos := "law.go:83", after := #[], guard := none }) (v := ?_) rfl (by kernel_rfl) (by kernel_rfl) (by kernel_rfl) (fun _ _ _ h => h) (Or.inl ⟨by rfl, ?_⟩) (by assumption) ?_
      rotate_left
      · (intro wq hSw; (try dsimp only at hSw); go_simp; have qg_0 := (Below.cell hSw (p := ⟨g, 0, none⟩) zg_wz0).trans cg_0_wz0; have qg_1 := (Below.cell hSw (p := ⟨g, 1, none⟩) zg_wz0).trans cg_1_wz0; have qg_2 := (Below.cell hSw (p := ⟨g, 2, none⟩) zg_wz0).trans cg_2_wz0; have qg_3 := (Below.cell hSw (p := ⟨g, 3, none⟩) zg_wz0).trans cg_3_wz0; have qg_4 := (Below.cell hSw (p := ⟨g, 4, none⟩) zg_wz0).trans cg_4_wz0; have qg_5 := (Below.cell hSw (p := ⟨g, 5, none⟩) zg_wz0).trans cg_5_wz0; have qg_6 := (Below.cell hSw (p := ⟨g, 6, none⟩) zg_wz0).trans cg_6_wz0; have qg_7 := (Below.cell hSw (p := ⟨g, 7, none⟩) zg_wz0).trans cg_7_wz0; have qg_8 := (Below.cell hSw (p := ⟨g, 8, none⟩) zg_wz0).trans cg_8_wz0; have qg_9 := (Below.cell hSw (p := ⟨g, 9, none⟩) zg_wz0).trans cg_9_wz0; have qg_10 := (Below.cell hSw (p := ⟨g, 10, none⟩) zg_wz0).trans cg_10_wz0; have qg_11 := (Below.cell hSw (p := ⟨g, 11, none⟩) zg_wz0).trans cg_11_wz0; have qg_14 := (Below.cell hSw (p := ⟨g, 14, none⟩) zg_wz0).trans cg_14_wz0; have qg_15 := (Below.cell hSw (p := ⟨g, 15, none⟩) zg_wz0).trans cg_15_wz0; have qxv_0 := (Below.cell hSw (p := ⟨xv, 0, none⟩) zxv_wz0).trans cxv_0_wz0; have qxv_1 := (Below.cell hSw (p := ⟨xv, 1, none⟩) zxv_wz0).trans cxv_1_wz0; have qxv_2 := (Below.cell hSw (p := ⟨xv, 2, none⟩) zxv_wz0).trans cxv_2_wz0; have qxv_3 := (Below.cell hSw (p := ⟨xv, 3, none⟩) zxv_wz0).trans cxv_3_wz0; have qxv_4 := (Below.cell hSw (p := ⟨xv, 4, none⟩) zxv_wz0).trans cxv_4_wz0; have qxv_5 := (Below.cell hSw (p := ⟨xv, 5, none⟩) zxv_wz0).trans cxv_5_wz0; (try simp [*]); (try with_reducible rfl))
      try simp only [Act.put, List.setIfInBounds_toArray, List.set_cons_zero, List.set_cons_succ]
      refine wpAnyH_take (i := 1) (oi := { dst := some 233, op := Op.indexAddr 33 (Operand.tmp 232) (Operand.const (Value.int IntKind.i64 1)), type := 0, pos := "law.go:83", after := #[{ on := 0, ground := Ground.data }], guard := none }) (v := ?_) rfl (by kernel_rfl) (by kernel_rfl) (by kernel_rfl) (fun _ _ _ h => h) (Or.inl ⟨by rfl, ?_⟩) (by assumption) ?_
      rotate_left
      · (intro wq hSw; (try dsimp only at hSw); go_simp; have qg_0 := (Below.cell hSw (p := ⟨g, 0, none⟩) zg_wz0).trans cg_0_wz0; have qg_1 := (Below.cell hSw (p := ⟨g, 1, none⟩) zg_wz0).trans cg_1_wz0; have qg_2 := (Below.cell hSw (p := ⟨g, 2, none⟩) zg_wz0).trans cg_2_wz0; have qg_3 := (Below.cell hSw (p := ⟨g, 3, none⟩) zg_wz0).trans cg_3_wz0; have qg_4 := (Below.cell hSw (p := ⟨g, 4, none⟩) zg_wz0).trans cg_4_wz0; have qg_5 := (Below.cell hSw (p := ⟨g, 5, none⟩) zg_wz0).trans cg_5_wz0; have qg_6 := (Below.cell hSw (p := ⟨g, 6, none⟩) zg_wz0).trans cg_6_wz0; have qg_7 := (Below.cell hSw (p := ⟨g, 7, none⟩) zg_wz0).trans cg_7_wz0; have qg_8 := (Below.cell hSw (p := ⟨g, 8, none⟩) zg_wz0).trans cg_8_wz0; have qg_9 := (Below.cell hSw (p := ⟨g, 9, none⟩) zg_wz0).trans cg_9_wz0; have qg_10 := (Below.cell hSw (p := ⟨g, 10, none⟩) zg_wz0).trans cg_10_wz0; have qg_11 := (Below.cell hSw (p := ⟨g, 11, none⟩) zg_wz0).trans cg_11_wz0; have qg_14 := (Below.cell hSw (p := ⟨g, 14, none⟩) zg_wz0).trans cg_14_wz0; have qg_15 := (Below.cell hSw (p := ⟨g, 15, none⟩) zg_wz0).trans cg_15_wz0; have qxv_0 := (Below.cell hSw (p := ⟨xv, 0, none⟩) zxv_wz0).trans cxv_0_wz0; have qxv_1 := (Below.cell hSw (p := ⟨xv, 1, none⟩) zxv_wz0).trans cxv_1_wz0; have qxv_2 := (Below.cell hSw (p := ⟨xv, 2, none⟩) zxv_wz0).trans cxv_2_wz0; have qxv_3 := (Below.cell hSw (p := ⟨xv, 3, none⟩) zxv_wz0).trans cxv_3_wz0; have qxv_4 := (Below.cell hSw (p := ⟨xv, 4, none⟩) zxv_wz0).trans cxv_4_wz0; have qxv_5 := (Below.cell hSw (p := ⟨xv, 5, none⟩) zxv_wz0).trans cxv_5_wz0; (try simp [*]); (try with_reducible rfl))
      try simp only [Act.put, List.setIfInBounds_toArray, List.set_cons_zero, List.set_cons_succ]
      refine wpAnyH_take (i := 2) (oi := { dst := some 234, op := Op.load 30 (Operand.tmp 233), type := 30, pos := "law.go:83", after := #[{ on := 1, ground := Ground.data }], guard := none }) (v := ?_) rfl (by kernel_rfl) (by kernel_rfl) (by kernel_rfl) (fun _ _ _ h => h) (Or.inl ⟨by rfl, ?_⟩) (by assumption) ?_
      rotate_left
      · (intro wq hSw; (try dsimp only at hSw); go_simp; have qg_0 := (Below.cell hSw (p := ⟨g, 0, none⟩) zg_wz0).trans cg_0_wz0; have qg_1 := (Below.cell hSw (p := ⟨g, 1, none⟩) zg_wz0).trans cg_1_wz0; have qg_2 := (Below.cell hSw (p := ⟨g, 2, none⟩) zg_wz0).trans cg_2_wz0; have qg_3 := (Below.cell hSw (p := ⟨g, 3, none⟩) zg_wz0).trans cg_3_wz0; have qg_4 := (Below.cell hSw (p := ⟨g, 4, none⟩) zg_wz0).trans cg_4_wz0; have qg_5 := (Below.cell hSw (p := ⟨g, 5, none⟩) zg_wz0).trans cg_5_wz0; have qg_6 := (Below.cell hSw (p := ⟨g, 6, none⟩) zg_wz0).trans cg_6_wz0; have qg_7 := (Below.cell hSw (p := ⟨g, 7, none⟩) zg_wz0).trans cg_7_wz0; have qg_8 := (Below.cell hSw (p := ⟨g, 8, none⟩) zg_wz0).trans cg_8_wz0; have qg_9 := (Below.cell hSw (p := ⟨g, 9, none⟩) zg_wz0).trans cg_9_wz0; have qg_10 := (Below.cell hSw (p := ⟨g, 10, none⟩) zg_wz0).trans cg_10_wz0; have qg_11 := (Below.cell hSw (p := ⟨g, 11, none⟩) zg_wz0).trans cg_11_wz0; have qg_14 := (Below.cell hSw (p := ⟨g, 14, none⟩) zg_wz0).trans cg_14_wz0; have qg_15 := (Below.cell hSw (p := ⟨g, 15, none⟩) zg_wz0).trans cg_15_wz0; have qxv_0 := (Below.cell hSw (p := ⟨xv, 0, none⟩) zxv_wz0).trans cxv_0_wz0; have qxv_1 := (Below.cell hSw (p := ⟨xv, 1, none⟩) zxv_wz0).trans cxv_1_wz0; have qxv_2 := (Below.cell hSw (p := ⟨xv, 2, none⟩) zxv_wz0).trans cxv_2_wz0; have qxv_3 := (Below.cell hSw (p := ⟨xv, 3, none⟩) zxv_wz0).trans cxv_3_wz0; have qxv_4 := (Below.cell hSw (p := ⟨xv, 4, none⟩) zxv_wz0).trans cxv_4_wz0; have qxv_5 := (Below.cell hSw (p := ⟨xv, 5, none⟩) zxv_wz0).trans cxv_5_wz0; (try simp [*]); (try with_reducible rfl))
      try simp only [Act.put, List.setIfInBounds_toArray, List.set_cons_zero, List.set_cons_succ]
      refine wpAnyH_take (i := 3) (oi := { dst := some 235, op := Op.load 40 (Operand.tmp 26), type := 40, pos := "law.go:83", after := #[], guard := none }) (v := ?_) rfl (by kernel_rfl) (by kernel_rfl) (by kernel_rfl) (fun _ _ _ h => h) (Or.inl ⟨by rfl, ?_⟩) (by assumption) ?_
      rotate_left
      · (intro wq hSw; (try dsimp only at hSw); go_simp; have qg_0 := (Below.cell hSw (p := ⟨g, 0, none⟩) zg_wz0).trans cg_0_wz0; have qg_1 := (Below.cell hSw (p := ⟨g, 1, none⟩) zg_wz0).trans cg_1_wz0; have qg_2 := (Below.cell hSw (p := ⟨g, 2, none⟩) zg_wz0).trans cg_2_wz0; have qg_3 := (Below.cell hSw (p := ⟨g, 3, none⟩) zg_wz0).trans cg_3_wz0; have qg_4 := (Below.cell hSw (p := ⟨g, 4, none⟩) zg_wz0).trans cg_4_wz0; have qg_5 := (Below.cell hSw (p := ⟨g, 5, none⟩) zg_wz0).trans cg_5_wz0; have qg_6 := (Below.cell hSw (p := ⟨g, 6, none⟩) zg_wz0).trans cg_6_wz0; have qg_7 := (Below.cell hSw (p := ⟨g, 7, none⟩) zg_wz0).trans cg_7_wz0; have qg_8 := (Below.cell hSw (p := ⟨g, 8, none⟩) zg_wz0).trans cg_8_wz0; have qg_9 := (Below.cell hSw (p := ⟨g, 9, none⟩) zg_wz0).trans cg_9_wz0; have qg_10 := (Below.cell hSw (p := ⟨g, 10, none⟩) zg_wz0).trans cg_10_wz0; have qg_11 := (Below.cell hSw (p := ⟨g, 11, none⟩) zg_wz0).trans cg_11_wz0; have qg_14 := (Below.cell hSw (p := ⟨g, 14, none⟩) zg_wz0).trans cg_14_wz0; have qg_15 := (Below.cell hSw (p := ⟨g, 15, none⟩) zg_wz0).trans cg_15_wz0; have qxv_0 := (Below.cell hSw (p := ⟨xv, 0, none⟩) zxv_wz0).trans cxv_0_wz0; have qxv_1 := (Below.cell hSw (p := ⟨xv, 1, none⟩) zxv_wz0).trans cxv_1_wz0; have qxv_2 := (Below.cell hSw (p := ⟨xv, 2, none⟩) zxv_wz0).trans cxv_2_wz0; have qxv_3 := (Below.cell hSw (p := ⟨xv, 3, none⟩) zxv_wz0).trans cxv_3_wz0; have qxv_4 := (Below.cell hSw (p := ⟨xv, 4, none⟩) zxv_wz0).trans cxv_4_wz0; have qxv_5 := (Below.cell hSw (p := ⟨xv, 5, none⟩) zxv_wz0).trans cxv_5_wz0; (try simp [*]); (try with_reducible rfl))
      try simp only [Act.put, List.setIfInBounds_toArray, List.set_cons_zero, List.set_cons_succ]
      refine wpAnyH_ready (rs := [4, 8]) (by kernel_rfl) (by simp) ?_
      refine AllReadyH.cons (o := { dst := some 236, op := Op.call { callee := Callee.value (Operand.func 13), args := #[Operand.tmp 234, Operand.tmp 235], argTypes := #[30, 40] }, type := 41, pos := "law.go:83", after := #[{ on := 2, ground := Ground.data }, { on := 3, ground := Ground.data }], guard := none }) rfl (fun K hK => ?_) ?_
      · go_simp
        with_reducible refine (M1 _).mono ?_
        rintro e w9 ⟨rfl, hb9⟩
        obtain ⟨l9, d9, rfl⟩ := toExt hb9
        clear hb9
        (try go_wp2_with fail)
        refine hK.out _ _ ?_ (fun hHeld2 => ?_)
        · (repeat (first | with_reducible exact hHeld | with_reducible exact Below.refl _ _ | with_reducible refine bextm ?_ (by first | omega | (simp [ext_size, World.setCell] <;> omega)) _ _ | with_reducible refine below_drewN ?_ _ | with_reducible refine Below.drew ?_ | with_reducible refine Below.alloc ?_ (by first | omega | (simp [ext_size, World.setCell] <;> omega)) _ | with_reducible refine Below.setCell ?_ (by first | omega | (simp [ext_size, World.setCell] <;> omega)) _))
        clear hK K hHeld
        have hHeld := hHeld2
        clear hHeld2
        try simp only [Act.put, List.setIfInBounds_toArray, List.set_cons_zero, List.set_cons_succ]
        refine wpAnyH_take (i := 5) (oi := { dst := some 231, op := Op.move (Operand.tmp 236), type := 41, pos := "law.go:83", after := #[{ on := 4, ground := Ground.data }], guard := none }) (v := ?_) rfl (by kernel_rfl) (by kernel_rfl) (by kernel_rfl) (fun _ _ _ h => h) (Or.inl ⟨by rfl, ?_⟩) (by assumption) ?_
        rotate_left
        · (intro wq hSw; (try dsimp only at hSw); go_simp; have qg_0 := (Below.cell hSw (p := ⟨g, 0, none⟩) zg_wz0).trans cg_0_wz0; have qg_1 := (Below.cell hSw (p := ⟨g, 1, none⟩) zg_wz0).trans cg_1_wz0; have qg_2 := (Below.cell hSw (p := ⟨g, 2, none⟩) zg_wz0).trans cg_2_wz0; have qg_3 := (Below.cell hSw (p := ⟨g, 3, none⟩) zg_wz0).trans cg_3_wz0; have qg_4 := (Below.cell hSw (p := ⟨g, 4, none⟩) zg_wz0).trans cg_4_wz0; have qg_5 := (Below.cell hSw (p := ⟨g, 5, none⟩) zg_wz0).trans cg_5_wz0; have qg_6 := (Below.cell hSw (p := ⟨g, 6, none⟩) zg_wz0).trans cg_6_wz0; have qg_7 := (Below.cell hSw (p := ⟨g, 7, none⟩) zg_wz0).trans cg_7_wz0; have qg_8 := (Below.cell hSw (p := ⟨g, 8, none⟩) zg_wz0).trans cg_8_wz0; have qg_9 := (Below.cell hSw (p := ⟨g, 9, none⟩) zg_wz0).trans cg_9_wz0; have qg_10 := (Below.cell hSw (p := ⟨g, 10, none⟩) zg_wz0).trans cg_10_wz0; have qg_11 := (Below.cell hSw (p := ⟨g, 11, none⟩) zg_wz0).trans cg_11_wz0; have qg_14 := (Below.cell hSw (p := ⟨g, 14, none⟩) zg_wz0).trans cg_14_wz0; have qg_15 := (Below.cell hSw (p := ⟨g, 15, none⟩) zg_wz0).trans cg_15_wz0; have qxv_0 := (Below.cell hSw (p := ⟨xv, 0, none⟩) zxv_wz0).trans cxv_0_wz0; have qxv_1 := (Below.cell hSw (p := ⟨xv, 1, none⟩) zxv_wz0).trans cxv_1_wz0; have qxv_2 := (Below.cell hSw (p := ⟨xv, 2, none⟩) zxv_wz0).trans cxv_2_wz0; have qxv_3 := (Below.cell hSw (p := ⟨xv, 3, none⟩) zxv_wz0).trans cxv_3_wz0; have qxv_4 := (Below.cell hSw (p := ⟨xv, 4, none⟩) zxv_wz0).trans cxv_4_wz0; have qxv_5 := (Below.cell hSw (p := ⟨xv, 5, none⟩) zxv_wz0).trans cxv_5_wz0; (try simp [*]); (try with_reducible rfl))
        try simp only [Act.put, List.setIfInBounds_toArray, List.set_cons_zero, List.set_cons_succ]
        refine wpAnyH_take (i := 6) (oi := { dst := some 237, op := Op.extract (Operand.tmp 231) 0, type := 28, pos := "law.go:83", after := #[{ on := 5, ground := Ground.data }], guard := none }) (v := ?_) rfl (by kernel_rfl) (by kernel_rfl) (by kernel_rfl) (fun _ _ _ h => h) (Or.inl ⟨by rfl, ?_⟩) (by assumption) ?_
        rotate_left
        · (intro wq hSw; (try dsimp only at hSw); go_simp; have qg_0 := (Below.cell hSw (p := ⟨g, 0, none⟩) zg_wz0).trans cg_0_wz0; have qg_1 := (Below.cell hSw (p := ⟨g, 1, none⟩) zg_wz0).trans cg_1_wz0; have qg_2 := (Below.cell hSw (p := ⟨g, 2, none⟩) zg_wz0).trans cg_2_wz0; have qg_3 := (Below.cell hSw (p := ⟨g, 3, none⟩) zg_wz0).trans cg_3_wz0; have qg_4 := (Below.cell hSw (p := ⟨g, 4, none⟩) zg_wz0).trans cg_4_wz0; have qg_5 := (Below.cell hSw (p := ⟨g, 5, none⟩) zg_wz0).trans cg_5_wz0; have qg_6 := (Below.cell hSw (p := ⟨g, 6, none⟩) zg_wz0).trans cg_6_wz0; have qg_7 := (Below.cell hSw (p := ⟨g, 7, none⟩) zg_wz0).trans cg_7_wz0; have qg_8 := (Below.cell hSw (p := ⟨g, 8, none⟩) zg_wz0).trans cg_8_wz0; have qg_9 := (Below.cell hSw (p := ⟨g, 9, none⟩) zg_wz0).trans cg_9_wz0; have qg_10 := (Below.cell hSw (p := ⟨g, 10, none⟩) zg_wz0).trans cg_10_wz0; have qg_11 := (Below.cell hSw (p := ⟨g, 11, none⟩) zg_wz0).trans cg_11_wz0; have qg_14 := (Below.cell hSw (p := ⟨g, 14, none⟩) zg_wz0).trans cg_14_wz0; have qg_15 := (Below.cell hSw (p := ⟨g, 15, none⟩) zg_wz0).trans cg_15_wz0; have qxv_0 := (Below.cell hSw (p := ⟨xv, 0, none⟩) zxv_wz0).trans cxv_0_wz0; have qxv_1 := (Below.cell hSw (p := ⟨xv, 1, none⟩) zxv_wz0).trans cxv_1_wz0; have qxv_2 := (Below.cell hSw (p := ⟨xv, 2, none⟩) zxv_wz0).trans cxv_2_wz0; have qxv_3 := (Below.cell hSw (p := ⟨xv, 3, none⟩) zxv_wz0).trans cxv_3_wz0; have qxv_4 := (Below.cell hSw (p := ⟨xv, 4, none⟩) zxv_wz0).trans cxv_4_wz0; have qxv_5 := (Below.cell hSw (p := ⟨xv, 5, none⟩) zxv_wz0).trans cxv_5_wz0; (try simp [*]); (try with_reducible rfl))
        try simp only [Act.put, List.setIfInBounds_toArray, List.set_cons_zero, List.set_cons_succ]
        refine wpAnyH_take (i := 7) (oi := { dst := some 238, op := Op.extract (Operand.tmp 231) 1, type := 22, pos := "law.go:83", after := #[{ on := 5, ground := Ground.data }, { on := 9, ground := Ground.gcOnly Departure.lateStores }], guard := none }) (v := ?_) rfl (by kernel_rfl) (by kernel_rfl) (by kernel_rfl) (fun _ _ _ h => h) (Or.inl ⟨by rfl, ?_⟩) (by assumption) ?_
        rotate_left
        · (intro wq hSw; (try dsimp only at hSw); go_simp; have qg_0 := (Below.cell hSw (p := ⟨g, 0, none⟩) zg_wz0).trans cg_0_wz0; have qg_1 := (Below.cell hSw (p := ⟨g, 1, none⟩) zg_wz0).trans cg_1_wz0; have qg_2 := (Below.cell hSw (p := ⟨g, 2, none⟩) zg_wz0).trans cg_2_wz0; have qg_3 := (Below.cell hSw (p := ⟨g, 3, none⟩) zg_wz0).trans cg_3_wz0; have qg_4 := (Below.cell hSw (p := ⟨g, 4, none⟩) zg_wz0).trans cg_4_wz0; have qg_5 := (Below.cell hSw (p := ⟨g, 5, none⟩) zg_wz0).trans cg_5_wz0; have qg_6 := (Below.cell hSw (p := ⟨g, 6, none⟩) zg_wz0).trans cg_6_wz0; have qg_7 := (Below.cell hSw (p := ⟨g, 7, none⟩) zg_wz0).trans cg_7_wz0; have qg_8 := (Below.cell hSw (p := ⟨g, 8, none⟩) zg_wz0).trans cg_8_wz0; have qg_9 := (Below.cell hSw (p := ⟨g, 9, none⟩) zg_wz0).trans cg_9_wz0; have qg_10 := (Below.cell hSw (p := ⟨g, 10, none⟩) zg_wz0).trans cg_10_wz0; have qg_11 := (Below.cell hSw (p := ⟨g, 11, none⟩) zg_wz0).trans cg_11_wz0; have qg_14 := (Below.cell hSw (p := ⟨g, 14, none⟩) zg_wz0).trans cg_14_wz0; have qg_15 := (Below.cell hSw (p := ⟨g, 15, none⟩) zg_wz0).trans cg_15_wz0; have qxv_0 := (Below.cell hSw (p := ⟨xv, 0, none⟩) zxv_wz0).trans cxv_0_wz0; have qxv_1 := (Below.cell hSw (p := ⟨xv, 1, none⟩) zxv_wz0).trans cxv_1_wz0; have qxv_2 := (Below.cell hSw (p := ⟨xv, 2, none⟩) zxv_wz0).trans cxv_2_wz0; have qxv_3 := (Below.cell hSw (p := ⟨xv, 3, none⟩) zxv_wz0).trans cxv_3_wz0; have qxv_4 := (Below.cell hSw (p := ⟨xv, 4, none⟩) zxv_wz0).trans cxv_4_wz0; have qxv_5 := (Below.cell hSw (p := ⟨xv, 5, none⟩) zxv_wz0).trans cxv_5_wz0; (try simp [*]); (try with_reducible rfl))
        try simp only [Act.put, List.setIfInBounds_toArray, List.set_cons_zero, List.set_cons_succ]
        refine wpAnyH_ready (rs := [8]) (by kernel_rfl) (by simp) ?_
        refine AllReadyH.cons (o := { dst := some 29, op := Op.alloc 28, type := 0, pos := "law.go:83", after := #[], guard := none }) rfl (fun K hK => ?_) ?_
        · go_simp
          refine hK.out _ _ ?_ (fun hHeld2 => ?_)
          · (repeat (first | with_reducible exact hHeld | with_reducible exact Below.refl _ _ | with_reducible refine bextm ?_ (by first | omega | (simp [ext_size, World.setCell] <;> omega)) _ _ | with_reducible refine below_drewN ?_ _ | with_reducible refine Below.drew ?_ | with_reducible refine Below.alloc ?_ (by first | omega | (simp [ext_size, World.setCell] <;> omega)) _ | with_reducible refine Below.setCell ?_ (by first | omega | (simp [ext_size, World.setCell] <;> omega)) _))
          clear hK K hHeld
          have hHeld := hHeld2
          clear hHeld2
          try simp only [Act.put, List.setIfInBounds_toArray, List.set_cons_zero, List.set_cons_succ]
          refine wpAnyH_ready (rs := [9]) (by kernel_rfl) (by simp) ?_
          refine AllReadyH.cons (o := { dst := none, op := Op.store 28 (Operand.tmp 29) (Operand.tmp 237), type := 0, pos := "law.go:83", after := #[{ on := 8, ground := Ground.data }, { on := 6, ground := Ground.data }, { on := 4, ground := Ground.chain }, { on := 0, ground := Ground.phase }, { on := 1, ground := Ground.phase }, { on := 2, ground := Ground.phase }, { on := 3, ground := Ground.phase }, { on := 4, ground := Ground.phase }, { on := 5, ground := Ground.phase }, { on := 6, ground := Ground.phase }, { on := 7, ground := Ground.textOnly Departure.lateStores }, { on := 8, ground := Ground.phase }], guard := none }) rfl (fun K hK => ?_) ?_
          · go_simp
            refine hK.out _ _ ?_ (fun hHeld2 => ?_)
            · (repeat (first | with_reducible exact hHeld | with_reducible exact Below.refl _ _ | with_reducible refine bextm ?_ (by first | omega | (simp [ext_size, World.setCell] <;> omega)) _ _ | with_reducible refine below_drewN ?_ _ | with_reducible refine Below.drew ?_ | with_reducible refine Below.alloc ?_ (by first | omega | (simp [ext_size, World.setCell] <;> omega)) _ | with_reducible refine Below.setCell ?_ (by first | omega | (simp [ext_size, World.setCell] <;> omega)) _))
            clear hK K hHeld
            have hHeld := hHeld2
            clear hHeld2
            try simp only [Act.put, List.setIfInBounds_toArray, List.set_cons_zero, List.set_cons_succ]
            refine wpAnyH_take (i := 10) (oi := { dst := some 30, op := Op.assign (Operand.tmp 238), type := 22, pos := "law.go:83", after := #[{ on := 7, ground := Ground.data }, { on := 9, ground := Ground.chain }, { on := 0, ground := Ground.phase }, { on := 1, ground := Ground.phase }, { on := 2, ground := Ground.phase }, { on := 3, ground := Ground.phase }, { on := 4, ground := Ground.phase }, { on := 5, ground := Ground.phase }, { on := 6, ground := Ground.phase }, { on := 7, ground := Ground.phase }, { on := 8, ground := Ground.phase }, { on := 9, ground := Ground.phase }], guard := none }) (v := ?_) rfl (by kernel_rfl) (by kernel_rfl) (by kernel_rfl) (fun _ _ _ h => h) (Or.inl ⟨by rfl, ?_⟩) (by assumption) ?_
            rotate_left
            · (intro wq hSw; (try dsimp only at hSw); go_simp; have qg_0 := (Below.cell hSw (p := ⟨g, 0, none⟩) zg_wz0).trans cg_0_wz0; have qg_1 := (Below.cell hSw (p := ⟨g, 1, none⟩) zg_wz0).trans cg_1_wz0; have qg_2 := (Below.cell hSw (p := ⟨g, 2, none⟩) zg_wz0).trans cg_2_wz0; have qg_3 := (Below.cell hSw (p := ⟨g, 3, none⟩) zg_wz0).trans cg_3_wz0; have qg_4 := (Below.cell hSw (p := ⟨g, 4, none⟩) zg_wz0).trans cg_4_wz0; have qg_5 := (Below.cell hSw (p := ⟨g, 5, none⟩) zg_wz0).trans cg_5_wz0; have qg_6 := (Below.cell hSw (p := ⟨g, 6, none⟩) zg_wz0).trans cg_6_wz0; have qg_7 := (Below.cell hSw (p := ⟨g, 7, none⟩) zg_wz0).trans cg_7_wz0; have qg_8 := (Below.cell hSw (p := ⟨g, 8, none⟩) zg_wz0).trans cg_8_wz0; have qg_9 := (Below.cell hSw (p := ⟨g, 9, none⟩) zg_wz0).trans cg_9_wz0; have qg_10 := (Below.cell hSw (p := ⟨g, 10, none⟩) zg_wz0).trans cg_10_wz0; have qg_11 := (Below.cell hSw (p := ⟨g, 11, none⟩) zg_wz0).trans cg_11_wz0; have qg_14 := (Below.cell hSw (p := ⟨g, 14, none⟩) zg_wz0).trans cg_14_wz0; have qg_15 := (Below.cell hSw (p := ⟨g, 15, none⟩) zg_wz0).trans cg_15_wz0; have qxv_0 := (Below.cell hSw (p := ⟨xv, 0, none⟩) zxv_wz0).trans cxv_0_wz0; have qxv_1 := (Below.cell hSw (p := ⟨xv, 1, none⟩) zxv_wz0).trans cxv_1_wz0; have qxv_2 := (Below.cell hSw (p := ⟨xv, 2, none⟩) zxv_wz0).trans cxv_2_wz0; have qxv_3 := (Below.cell hSw (p := ⟨xv, 3, none⟩) zxv_wz0).trans cxv_3_wz0; have qxv_4 := (Below.cell hSw (p := ⟨xv, 4, none⟩) zxv_wz0).trans cxv_4_wz0; have qxv_5 := (Below.cell hSw (p := ⟨xv, 5, none⟩) zxv_wz0).trans cxv_5_wz0; (try simp [*]); (try with_reducible rfl))
            try simp only [Act.put, List.setIfInBounds_toArray, List.set_cons_zero, List.set_cons_succ]
            refine wpAnyH_done (by kernel_rfl) ?_ _
            go_wp2_with fail
            go_meet
            exact ⟨_, rfl, rfl, by (simp (maxDischargeDepth := 8) [go_sem, World.cell?_alloc_past, ltk2, ltk3, ltk4, ltk5, ltk6, ltk7, ltk8, ltk9, *]), by (simp (maxDischargeDepth := 8) [go_sem, World.cell?_alloc_past, ltk2, ltk3, ltk4, ltk5, ltk6, ltk7, ltk8, ltk9, *]), by first | (simp; done) | (simp [ext_size]; done) | (simp [ext_size] <;> omega), hHeld⟩
          exact AllReadyH.nil
        exact AllReadyH.nil
      refine AllReadyH.cons (o := { dst := some 29, op := Op.alloc 28, type := 0, pos := "law.go:83", after := #[], guard := none }) rfl (fun K hK => ?_) ?_
      · go_simp
        refine hK.out _ _ ?_ (fun hHeld2 => ?_)
        · (repeat (first | with_reducible exact hHeld | with_reducible exact Below.refl _ _ | with_reducible refine bextm ?_ (by first | omega | (simp [ext_size, World.setCell] <;> omega)) _ _ | with_reducible refine below_drewN ?_ _ | with_reducible refine Below.drew ?_ | with_reducible refine Below.alloc ?_ (by first | omega | (simp [ext_size, World.setCell] <;> omega)) _ | with_reducible refine Below.setCell ?_ (by first | omega | (simp [ext_size, World.setCell] <;> omega)) _))
        clear hK K hHeld
        have hHeld := hHeld2
        clear hHeld2
        try simp only [Act.put, List.setIfInBounds_toArray, List.set_cons_zero, List.set_cons_succ]
        refine wpAnyH_ready (rs := [4]) (by kernel_rfl) (by simp) ?_
        refine AllReadyH.cons (o := { dst := some 236, op := Op.call { callee := Callee.value (Operand.func 13), args := #[Operand.tmp 234, Operand.tmp 235], argTypes := #[30, 40] }, type := 41, pos := "law.go:83", after := #[{ on := 2, ground := Ground.data }, { on := 3, ground := Ground.data }], guard := none }) rfl (fun K hK => ?_) ?_
        · go_simp
          with_reducible refine (M1 _).mono ?_
          rintro e w9 ⟨rfl, hb9⟩
          obtain ⟨l9, d9, rfl⟩ := toExt hb9
          clear hb9
          (try go_wp2_with fail)
          refine hK.out _ _ ?_ (fun hHeld2 => ?_)
          · (repeat (first | with_reducible exact hHeld | with_reducible exact Below.refl _ _ | with_reducible refine bextm ?_ (by first | omega | (simp [ext_size, World.setCell] <;> omega)) _ _ | with_reducible refine below_drewN ?_ _ | with_reducible refine Below.drew ?_ | with_reducible refine Below.alloc ?_ (by first | omega | (simp [ext_size, World.setCell] <;> omega)) _ | with_reducible refine Below.setCell ?_ (by first | omega | (simp [ext_size, World.setCell] <;> omega)) _))
          clear hK K hHeld
          have hHeld := hHeld2
          clear hHeld2
          try simp only [Act.put, List.setIfInBounds_toArray, List.set_cons_zero, List.set_cons_succ]
          refine wpAnyH_take (i := 5) (oi := { dst := some 231, op := Op.move (Operand.tmp 236), type := 41, pos := "law.go:83", after := #[{ on := 4, ground := Ground.data }], guard := none }) (v := ?_) rfl (by kernel_rfl) (by kernel_rfl) (by kernel_rfl) (fun _ _ _ h => h) (Or.inl ⟨by rfl, ?_⟩) (by assumption) ?_
          rotate_left
          · (intro wq hSw; (try dsimp only at hSw); go_simp; have qg_0 := (Below.cell hSw (p := ⟨g, 0, none⟩) zg_wz0).trans cg_0_wz0; have qg_1 := (Below.cell hSw (p := ⟨g, 1, none⟩) zg_wz0).trans cg_1_wz0; have qg_2 := (Below.cell hSw (p := ⟨g, 2, none⟩) zg_wz0).trans cg_2_wz0; have qg_3 := (Below.cell hSw (p := ⟨g, 3, none⟩) zg_wz0).trans cg_3_wz0; have qg_4 := (Below.cell hSw (p := ⟨g, 4, none⟩) zg_wz0).trans cg_4_wz0; have qg_5 := (Below.cell hSw (p := ⟨g, 5, none⟩) zg_wz0).trans cg_5_wz0; have qg_6 := (Below.cell hSw (p := ⟨g, 6, none⟩) zg_wz0).trans cg_6_wz0; have qg_7 := (Below.cell hSw (p := ⟨g, 7, none⟩) zg_wz0).trans cg_7_wz0; have qg_8 := (Below.cell hSw (p := ⟨g, 8, none⟩) zg_wz0).trans cg_8_wz0; have qg_9 := (Below.cell hSw (p := ⟨g, 9, none⟩) zg_wz0).trans cg_9_wz0; have qg_10 := (Below.cell hSw (p := ⟨g, 10, none⟩) zg_wz0).trans cg_10_wz0; have qg_11 := (Below.cell hSw (p := ⟨g, 11, none⟩) zg_wz0).trans cg_11_wz0; have qg_14 := (Below.cell hSw (p := ⟨g, 14, none⟩) zg_wz0).trans cg_14_wz0; have qg_15 := (Below.cell hSw (p := ⟨g, 15, none⟩) zg_wz0).trans cg_15_wz0; have qxv_0 := (Below.cell hSw (p := ⟨xv, 0, none⟩) zxv_wz0).trans cxv_0_wz0; have qxv_1 := (Below.cell hSw (p := ⟨xv, 1, none⟩) zxv_wz0).trans cxv_1_wz0; have qxv_2 := (Below.cell hSw (p := ⟨xv, 2, none⟩) zxv_wz0).trans cxv_2_wz0; have qxv_3 := (Below.cell hSw (p := ⟨xv, 3, none⟩) zxv_wz0).trans cxv_3_wz0; have qxv_4 := (Below.cell hSw (p := ⟨xv, 4, none⟩) zxv_wz0).trans cxv_4_wz0; have qxv_5 := (Below.cell hSw (p := ⟨xv, 5, none⟩) zxv_wz0).trans cxv_5_wz0; (try simp [*]); (try with_reducible rfl))
          try simp only [Act.put, List.setIfInBounds_toArray, List.set_cons_zero, List.set_cons_succ]
          refine wpAnyH_take (i := 6) (oi := { dst := some 237, op := Op.extract (Operand.tmp 231) 0, type := 28, pos := "law.go:83", after := #[{ on := 5, ground := Ground.data }], guard := none }) (v := ?_) rfl (by kernel_rfl) (by kernel_rfl) (by kernel_rfl) (fun _ _ _ h => h) (Or.inl ⟨by rfl, ?_⟩) (by assumption) ?_
          rotate_left
          · (intro wq hSw; (try dsimp only at hSw); go_simp; have qg_0 := (Below.cell hSw (p := ⟨g, 0, none⟩) zg_wz0).trans cg_0_wz0; have qg_1 := (Below.cell hSw (p := ⟨g, 1, none⟩) zg_wz0).trans cg_1_wz0; have qg_2 := (Below.cell hSw (p := ⟨g, 2, none⟩) zg_wz0).trans cg_2_wz0; have qg_3 := (Below.cell hSw (p := ⟨g, 3, none⟩) zg_wz0).trans cg_3_wz0; have qg_4 := (Below.cell hSw (p := ⟨g, 4, none⟩) zg_wz0).trans cg_4_wz0; have qg_5 := (Below.cell hSw (p := ⟨g, 5, none⟩) zg_wz0).trans cg_5_wz0; have qg_6 := (Below.cell hSw (p := ⟨g, 6, none⟩) zg_wz0).trans cg_6_wz0; have qg_7 := (Below.cell hSw (p := ⟨g, 7, none⟩) zg_wz0).trans cg_7_wz0; have qg_8 := (Below.cell hSw (p := ⟨g, 8, none⟩) zg_wz0).trans cg_8_wz0; have qg_9 := (Below.cell hSw (p := ⟨g, 9, none⟩) zg_wz0).trans cg_9_wz0; have qg_10 := (Below.cell hSw (p := ⟨g, 10, none⟩) zg_wz0).trans cg_10_wz0; have qg_11 := (Below.cell hSw (p := ⟨g, 11, none⟩) zg_wz0).trans cg_11_wz0; have qg_14 := (Below.cell hSw (p := ⟨g, 14, none⟩) zg_wz0).trans cg_14_wz0; have qg_15 := (Below.cell hSw (p := ⟨g, 15, none⟩) zg_wz0).trans cg_15_wz0; have qxv_0 := (Below.cell hSw (p := ⟨xv, 0, none⟩) zxv_wz0).trans cxv_0_wz0; have qxv_1 := (Below.cell hSw (p := ⟨xv, 1, none⟩) zxv_wz0).trans cxv_1_wz0; have qxv_2 := (Below.cell hSw (p := ⟨xv, 2, none⟩) zxv_wz0).trans cxv_2_wz0; have qxv_3 := (Below.cell hSw (p := ⟨xv, 3, none⟩) zxv_wz0).trans cxv_3_wz0; have qxv_4 := (Below.cell hSw (p := ⟨xv, 4, none⟩) zxv_wz0).trans cxv_4_wz0; have qxv_5 := (Below.cell hSw (p := ⟨xv, 5, none⟩) zxv_wz0).trans cxv_5_wz0; (try simp [*]); (try with_reducible rfl))
          try simp only [Act.put, List.setIfInBounds_toArray, List.set_cons_zero, List.set_cons_succ]
          refine wpAnyH_take (i := 7) (oi := { dst := some 238, op := Op.extract (Operand.tmp 231) 1, type := 22, pos := "law.go:83", after := #[{ on := 5, ground := Ground.data }, { on := 9, ground := Ground.gcOnly Departure.lateStores }], guard := none }) (v := ?_) rfl (by kernel_rfl) (by kernel_rfl) (by kernel_rfl) (fun _ _ _ h => h) (Or.inl ⟨by rfl, ?_⟩) (by assumption) ?_
          rotate_left
          · (intro wq hSw; (try dsimp only at hSw); go_simp; have qg_0 := (Below.cell hSw (p := ⟨g, 0, none⟩) zg_wz0).trans cg_0_wz0; have qg_1 := (Below.cell hSw (p := ⟨g, 1, none⟩) zg_wz0).trans cg_1_wz0; have qg_2 := (Below.cell hSw (p := ⟨g, 2, none⟩) zg_wz0).trans cg_2_wz0; have qg_3 := (Below.cell hSw (p := ⟨g, 3, none⟩) zg_wz0).trans cg_3_wz0; have qg_4 := (Below.cell hSw (p := ⟨g, 4, none⟩) zg_wz0).trans cg_4_wz0; have qg_5 := (Below.cell hSw (p := ⟨g, 5, none⟩) zg_wz0).trans cg_5_wz0; have qg_6 := (Below.cell hSw (p := ⟨g, 6, none⟩) zg_wz0).trans cg_6_wz0; have qg_7 := (Below.cell hSw (p := ⟨g, 7, none⟩) zg_wz0).trans cg_7_wz0; have qg_8 := (Below.cell hSw (p := ⟨g, 8, none⟩) zg_wz0).trans cg_8_wz0; have qg_9 := (Below.cell hSw (p := ⟨g, 9, none⟩) zg_wz0).trans cg_9_wz0; have qg_10 := (Below.cell hSw (p := ⟨g, 10, none⟩) zg_wz0).trans cg_10_wz0; have qg_11 := (Below.cell hSw (p := ⟨g, 11, none⟩) zg_wz0).trans cg_11_wz0; have qg_14 := (Below.cell hSw (p := ⟨g, 14, none⟩) zg_wz0).trans cg_14_wz0; have qg_15 := (Below.cell hSw (p := ⟨g, 15, none⟩) zg_wz0).trans cg_15_wz0; have qxv_0 := (Below.cell hSw (p := ⟨xv, 0, none⟩) zxv_wz0).trans cxv_0_wz0; have qxv_1 := (Below.cell hSw (p := ⟨xv, 1, none⟩) zxv_wz0).trans cxv_1_wz0; have qxv_2 := (Below.cell hSw (p := ⟨xv, 2, none⟩) zxv_wz0).trans cxv_2_wz0; have qxv_3 := (Below.cell hSw (p := ⟨xv, 3, none⟩) zxv_wz0).trans cxv_3_wz0; have qxv_4 := (Below.cell hSw (p := ⟨xv, 4, none⟩) zxv_wz0).trans cxv_4_wz0; have qxv_5 := (Below.cell hSw (p := ⟨xv, 5, none⟩) zxv_wz0).trans cxv_5_wz0; (try simp [*]); (try with_reducible rfl))
          try simp only [Act.put, List.setIfInBounds_toArray, List.set_cons_zero, List.set_cons_succ]
          refine wpAnyH_ready (rs := [9]) (by kernel_rfl) (by simp) ?_
          refine AllReadyH.cons (o := { dst := none, op := Op.store 28 (Operand.tmp 29) (Operand.tmp 237), type := 0, pos := "law.go:83", after := #[{ on := 8, ground := Ground.data }, { on := 6, ground := Ground.data }, { on := 4, ground := Ground.chain }, { on := 0, ground := Ground.phase }, { on := 1, ground := Ground.phase }, { on := 2, ground := Ground.phase }, { on := 3, ground := Ground.phase }, { on := 4, ground := Ground.phase }, { on := 5, ground := Ground.phase }, { on := 6, ground := Ground.phase }, { on := 7, ground := Ground.textOnly Departure.lateStores }, { on := 8, ground := Ground.phase }], guard := none }) rfl (fun K hK => ?_) ?_
          · go_simp
            refine hK.out _ _ ?_ (fun hHeld2 => ?_)
            · (repeat (first | with_reducible exact hHeld | with_reducible exact Below.refl _ _ | with_reducible refine bextm ?_ (by first | omega | (simp [ext_size, World.setCell] <;> omega)) _ _ | with_reducible refine below_drewN ?_ _ | with_reducible refine Below.drew ?_ | with_reducible refine Below.alloc ?_ (by first | omega | (simp [ext_size, World.setCell] <;> omega)) _ | with_reducible refine Below.setCell ?_ (by first | omega | (simp [ext_size, World.setCell] <;> omega)) _))
            clear hK K hHeld
            have hHeld := hHeld2
            clear hHeld2
            try simp only [Act.put, List.setIfInBounds_toArray, List.set_cons_zero, List.set_cons_succ]
            refine wpAnyH_take (i := 10) (oi := { dst := some 30, op := Op.assign (Operand.tmp 238), type := 22, pos := "law.go:83", after := #[{ on := 7, ground := Ground.data }, { on := 9, ground := Ground.chain }, { on := 0, ground := Ground.phase }, { on := 1, ground := Ground.phase }, { on := 2, ground := Ground.phase }, { on := 3, ground := Ground.phase }, { on := 4, ground := Ground.phase }, { on := 5, ground := Ground.phase }, { on := 6, ground := Ground.phase }, { on := 7, ground := Ground.phase }, { on := 8, ground := Ground.phase }, { on := 9, ground := Ground.phase }], guard := none }) (v := ?_) rfl (by kernel_rfl) (by kernel_rfl) (by kernel_rfl) (fun _ _ _ h => h) (Or.inl ⟨by rfl, ?_⟩) (by assumption) ?_
            rotate_left
            · (intro wq hSw; (try dsimp only at hSw); go_simp; have qg_0 := (Below.cell hSw (p := ⟨g, 0, none⟩) zg_wz0).trans cg_0_wz0; have qg_1 := (Below.cell hSw (p := ⟨g, 1, none⟩) zg_wz0).trans cg_1_wz0; have qg_2 := (Below.cell hSw (p := ⟨g, 2, none⟩) zg_wz0).trans cg_2_wz0; have qg_3 := (Below.cell hSw (p := ⟨g, 3, none⟩) zg_wz0).trans cg_3_wz0; have qg_4 := (Below.cell hSw (p := ⟨g, 4, none⟩) zg_wz0).trans cg_4_wz0; have qg_5 := (Below.cell hSw (p := ⟨g, 5, none⟩) zg_wz0).trans cg_5_wz0; have qg_6 := (Below.cell hSw (p := ⟨g, 6, none⟩) zg_wz0).trans cg_6_wz0; have qg_7 := (Below.cell hSw (p := ⟨g, 7, none⟩) zg_wz0).trans cg_7_wz0; have qg_8 := (Below.cell hSw (p := ⟨g, 8, none⟩) zg_wz0).trans cg_8_wz0; have qg_9 := (Below.cell hSw (p := ⟨g, 9, none⟩) zg_wz0).trans cg_9_wz0; have qg_10 := (Below.cell hSw (p := ⟨g, 10, none⟩) zg_wz0).trans cg_10_wz0; have qg_11 := (Below.cell hSw (p := ⟨g, 11, none⟩) zg_wz0).trans cg_11_wz0; have qg_14 := (Below.cell hSw (p := ⟨g, 14, none⟩) zg_wz0).trans cg_14_wz0; have qg_15 := (Below.cell hSw (p := ⟨g, 15, none⟩) zg_wz0).trans cg_15_wz0; have qxv_0 := (Below.cell hSw (p := ⟨xv, 0, none⟩) zxv_wz0).trans cxv_0_wz0; have qxv_1 := (Below.cell hSw (p := ⟨xv, 1, none⟩) zxv_wz0).trans cxv_1_wz0; have qxv_2 := (Below.cell hSw (p := ⟨xv, 2, none⟩) zxv_wz0).trans cxv_2_wz0; have qxv_3 := (Below.cell hSw (p := ⟨xv, 3, none⟩) zxv_wz0).trans cxv_3_wz0; have qxv_4 := (Below.cell hSw (p := ⟨xv, 4, none⟩) zxv_wz0).trans cxv_4_wz0; have qxv_5 := (Below.cell hSw (p := ⟨xv, 5, none⟩) zxv_wz0).trans cxv_5_wz0; (try simp [*]); (try with_reducible rfl))
            try simp only [Act.put, List.setIfInBounds_toArray, List.set_cons_zero, List.set_cons_succ]
            refine wpAnyH_done (by kernel_rfl) ?_ _
            go_wp2_with fail
            go_meet
            exact ⟨_, rfl, rfl, by (simp (maxDischargeDepth := 8) [go_sem, World.cell?_alloc_past, ltk2, ltk3, ltk4, ltk5, ltk6, ltk7, ltk8, ltk9, *]), by (simp (maxDischargeDepth := 8) [go_sem, World.cell?_alloc_past, ltk2, ltk3, ltk4, ltk5, ltk6, ltk7, ltk8, ltk9, *]), by first | (simp; done) | (simp [ext_size]; done) | (simp [ext_size] <;> omega), hHeld⟩
          exact AllReadyH.nil
        exact AllReadyH.nil
      exact AllReadyH.nil
  case rest =>
    revert hcut; revert wc; intro wz801 hcut
    obtain ⟨o, rfl, rfl, co_0_wz801, co_1_wz801, zo_wz801, hB801⟩ := hcut
    have cg_0_wz801 : wz801.cell? ⟨g, 0, none⟩ = some (.int .i64 707106) := (hB801.cell (p := ⟨g, 0, none⟩) zg_wz0).trans cg_0_wz0
    have cg_1_wz801 : wz801.cell? ⟨g, 1, none⟩ = some (.int .i64 707107) := (hB801.cell (p := ⟨g, 1, none⟩) zg_wz0).trans cg_1_wz0
    have cg_2_wz801 : wz801.cell? ⟨g, 2, none⟩ = some (.int .i64 707106) := (hB801.cell (p := ⟨g, 2, none⟩) zg_wz0).trans cg_2_wz0
    have cg_3_wz801 : wz801.cell? ⟨g, 3, none⟩ = some (.int .i64 707107) := (hB801.cell (p := ⟨g, 3, none⟩) zg_wz0).trans cg_3_wz0
    have cg_4_wz801 : wz801.cell? ⟨g, 4, none⟩ = some (.int .i64 0) := (hB801.cell (p := ⟨g, 4, none⟩) zg_wz0).trans cg_4_wz0
    have cg_5_wz801 : wz801.cell? ⟨g, 5, none⟩ = some (.int .i64 0) := (hB801.cell (p := ⟨g, 5, none⟩) zg_wz0).trans cg_5_wz0
    have cg_6_wz801 : wz801.cell? ⟨g, 6, none⟩ = some (.int .i64 1000000) := (hB801.cell (p := ⟨g, 6, none⟩) zg_wz0).trans cg_6_wz0
    have cg_7_wz801 : wz801.cell? ⟨g, 7, none⟩ = some (.int .i64 1000000) := (hB801.cell (p := ⟨g, 7, none⟩) zg_wz0).trans cg_7_wz0
    have cg_8_wz801 : wz801.cell? ⟨g, 8, none⟩ = some (.int .i64 0) := (hB801.cell (p := ⟨g, 8, none⟩) zg_wz0).trans cg_8_wz0
    have cg_9_wz801 : wz801.cell? ⟨g, 9, none⟩ = some (.int .i64 0) := (hB801.cell (p := ⟨g, 9, none⟩) zg_wz0).trans cg_9_wz0
    have cg_10_wz801 : wz801.cell? ⟨g, 10, none⟩ = some (.int .i64 0) := (hB801.cell (p := ⟨g, 10, none⟩) zg_wz0).trans cg_10_wz0
    have cg_11_wz801 : wz801.cell? ⟨g, 11, none⟩ = some (.int .i64 0) := (hB801.cell (p := ⟨g, 11, none⟩) zg_wz0).trans cg_11_wz0
    have cg_14_wz801 : wz801.cell? ⟨g, 14, none⟩ = some (.int .i64 (-707107)) := (hB801.cell (p := ⟨g, 14, none⟩) zg_wz0).trans cg_14_wz0
    have cg_15_wz801 : wz801.cell? ⟨g, 15, none⟩ = some (.int .i64 (-707106)) := (hB801.cell (p := ⟨g, 15, none⟩) zg_wz0).trans cg_15_wz0
    have zg_wz801 : g < wz801.heap.size := Nat.lt_of_lt_of_le zg_wz0 hB801.size
    have zg6_wz801 : g6 < wz801.heap.size := Nat.lt_of_lt_of_le zg6_wz0 hB801.size
    have chf_0_wz801 : wz801.cell? ⟨hf, 0, none⟩ = some (.int .i64 707106) := (hB801.cell (p := ⟨hf, 0, none⟩) zhf_wz0).trans chf_0_wz0
    have chf_1_wz801 : wz801.cell? ⟨hf, 1, none⟩ = some (.int .i64 707107) := (hB801.cell (p := ⟨hf, 1, none⟩) zhf_wz0).trans chf_1_wz0
    have zhf_wz801 : hf < wz801.heap.size := Nat.lt_of_lt_of_le zhf_wz0 hB801.size
    have cxv_0_wz801 : wz801.cell? ⟨xv, 0, none⟩ = some (.int .i64 2) := (hB801.cell (p := ⟨xv, 0, none⟩) zxv_wz0).trans cxv_0_wz0
    have cxv_1_wz801 : wz801.cell? ⟨xv, 1, none⟩ = some (.int .i64 1) := (hB801.cell (p := ⟨xv, 1, none⟩) zxv_wz0).trans cxv_1_wz0
    have cxv_2_wz801 : wz801.cell? ⟨xv, 2, none⟩ = some (.int .i64 1) := (hB801.cell (p := ⟨xv, 2, none⟩) zxv_wz0).trans cxv_2_wz0
    have cxv_3_wz801 : wz801.cell? ⟨xv, 3, none⟩ = some (.int .i64 2) := (hB801.cell (p := ⟨xv, 3, none⟩) zxv_wz0).trans cxv_3_wz0
    have cxv_4_wz801 : wz801.cell? ⟨xv, 4, none⟩ = some (.int .i64 (-3)) := (hB801.cell (p := ⟨xv, 4, none⟩) zxv_wz0).trans cxv_4_wz0
    have cxv_5_wz801 : wz801.cell? ⟨xv, 5, none⟩ = some (.int .i64 1) := (hB801.cell (p := ⟨xv, 5, none⟩) zxv_wz0).trans cxv_5_wz0
    have zxv_wz801 : xv < wz801.heap.size := Nat.lt_of_lt_of_le zxv_wz0 hB801.size
    have cm_0_wz801 : wz801.cell? ⟨m, 0, none⟩ = some (.int .i64 1767765) := (hB801.cell (p := ⟨m, 0, none⟩) zm_wz0).trans cm_0_wz0
    have cm_1_wz801 : wz801.cell? ⟨m, 1, none⟩ = some (.int .i64 1767768) := (hB801.cell (p := ⟨m, 1, none⟩) zm_wz0).trans cm_1_wz0
    have zm_wz801 : m < wz801.heap.size := Nat.lt_of_lt_of_le zm_wz0 hB801.size
    clear cg_0_wz0 cg_1_wz0 cg_2_wz0 cg_3_wz0 cg_4_wz0 cg_5_wz0 cg_6_wz0 cg_7_wz0 cg_8_wz0 cg_9_wz0 cg_10_wz0 cg_11_wz0 cg_14_wz0 cg_15_wz0 chf_0_wz0 chf_1_wz0 cxv_0_wz0 cxv_1_wz0 cxv_2_wz0 cxv_3_wz0 cxv_4_wz0 cxv_5_wz0 cm_0_wz0 cm_1_wz0 zg_wz0 zg6_wz0 zhf_wz0 zxv_wz0 zm_wz0
    have hW801 : Below w.heap.size w wz801 := Below.trans hW800 (hB801.mono hW800.size)
    clear hB801 hW800
    go_upto_region 20 with fail
    go_cut [32] (fun s32 wz802 => s32 = .int .i64 8 ∧ Below wz801.heap.size wz801 wz802)
    case first =>
      as_aux_lemma =>
        have M2 := HM2.out
        go_wp2_with fail
        with_reducible refine (M2 _).mono ?_
        rintro e v80102 ⟨rfl, hb80102⟩
        have zz80102 := hb80102.size
        try simp [ext_size] at zz80102
        have hB80102 : Below wz801.heap.size wz801 v80102 := Below.trans (by (repeat (first | with_reducible exact b0 _ | (with_reducible refine bext ?_ _ _) | (with_reducible refine below_drewN ?_ _) | (with_reducible refine Below.drew ?_) | (with_reducible refine bal ?_ _)))) (hb80102.mono (by first | omega | (simp [ext_size]; try omega)))
        have zw80102 := hB80102.size
        clear hb80102
        go_wp2_with fail
        go_meet
        exact ⟨rfl, by (repeat (first | with_reducible exact hB80102 | (with_reducible refine bext ?_ _ _) | (with_reducible refine below_drewN ?_ _) | (with_reducible refine Below.drew ?_) | (with_reducible refine bal ?_ _) | (with_reducible refine bset ?_ (by first | omega | (simp <;> omega)) _)))⟩
    case rest =>
      revert hcut; revert wc; intro wz802 hcut
      obtain ⟨rfl, hB802⟩ := hcut
      have cg_0_wz802 : wz802.cell? ⟨g, 0, none⟩ = some (.int .i64 707106) := (hB802.cell (p := ⟨g, 0, none⟩) zg_wz801).trans cg_0_wz801
      have cg_1_wz802 : wz802.cell? ⟨g, 1, none⟩ = some (.int .i64 707107) := (hB802.cell (p := ⟨g, 1, none⟩) zg_wz801).trans cg_1_wz801
      have cg_2_wz802 : wz802.cell? ⟨g, 2, none⟩ = some (.int .i64 707106) := (hB802.cell (p := ⟨g, 2, none⟩) zg_wz801).trans cg_2_wz801
      have cg_3_wz802 : wz802.cell? ⟨g, 3, none⟩ = some (.int .i64 707107) := (hB802.cell (p := ⟨g, 3, none⟩) zg_wz801).trans cg_3_wz801
      have cg_4_wz802 : wz802.cell? ⟨g, 4, none⟩ = some (.int .i64 0) := (hB802.cell (p := ⟨g, 4, none⟩) zg_wz801).trans cg_4_wz801
      have cg_5_wz802 : wz802.cell? ⟨g, 5, none⟩ = some (.int .i64 0) := (hB802.cell (p := ⟨g, 5, none⟩) zg_wz801).trans cg_5_wz801
      have cg_6_wz802 : wz802.cell? ⟨g, 6, none⟩ = some (.int .i64 1000000) := (hB802.cell (p := ⟨g, 6, none⟩) zg_wz801).trans cg_6_wz801
      have cg_7_wz802 : wz802.cell? ⟨g, 7, none⟩ = some (.int .i64 1000000) := (hB802.cell (p := ⟨g, 7, none⟩) zg_wz801).trans cg_7_wz801
      have cg_8_wz802 : wz802.cell? ⟨g, 8, none⟩ = some (.int .i64 0) := (hB802.cell (p := ⟨g, 8, none⟩) zg_wz801).trans cg_8_wz801
      have cg_9_wz802 : wz802.cell? ⟨g, 9, none⟩ = some (.int .i64 0) := (hB802.cell (p := ⟨g, 9, none⟩) zg_wz801).trans cg_9_wz801
      have cg_10_wz802 : wz802.cell? ⟨g, 10, none⟩ = some (.int .i64 0) := (hB802.cell (p := ⟨g, 10, none⟩) zg_wz801).trans cg_10_wz801
      have cg_11_wz802 : wz802.cell? ⟨g, 11, none⟩ = some (.int .i64 0) := (hB802.cell (p := ⟨g, 11, none⟩) zg_wz801).trans cg_11_wz801
      have cg_14_wz802 : wz802.cell? ⟨g, 14, none⟩ = some (.int .i64 (-707107)) := (hB802.cell (p := ⟨g, 14, none⟩) zg_wz801).trans cg_14_wz801
      have cg_15_wz802 : wz802.cell? ⟨g, 15, none⟩ = some (.int .i64 (-707106)) := (hB802.cell (p := ⟨g, 15, none⟩) zg_wz801).trans cg_15_wz801
      have zg_wz802 : g < wz802.heap.size := Nat.lt_of_lt_of_le zg_wz801 hB802.size
      have zg6_wz802 : g6 < wz802.heap.size := Nat.lt_of_lt_of_le zg6_wz801 hB802.size
      have chf_0_wz802 : wz802.cell? ⟨hf, 0, none⟩ = some (.int .i64 707106) := (hB802.cell (p := ⟨hf, 0, none⟩) zhf_wz801).trans chf_0_wz801
      have chf_1_wz802 : wz802.cell? ⟨hf, 1, none⟩ = some (.int .i64 707107) := (hB802.cell (p := ⟨hf, 1, none⟩) zhf_wz801).trans chf_1_wz801
      have zhf_wz802 : hf < wz802.heap.size := Nat.lt_of_lt_of_le zhf_wz801 hB802.size
      have cxv_0_wz802 : wz802.cell? ⟨xv, 0, none⟩ = some (.int .i64 2) := (hB802.cell (p := ⟨xv, 0, none⟩) zxv_wz801).trans cxv_0_wz801
      have cxv_1_wz802 : wz802.cell? ⟨xv, 1, none⟩ = some (.int .i64 1) := (hB802.cell (p := ⟨xv, 1, none⟩) zxv_wz801).trans cxv_1_wz801
      have cxv_2_wz802 : wz802.cell? ⟨xv, 2, none⟩ = some (.int .i64 1) := (hB802.cell (p := ⟨xv, 2, none⟩) zxv_wz801).trans cxv_2_wz801
      have cxv_3_wz802 : wz802.cell? ⟨xv, 3, none⟩ = some (.int .i64 2) := (hB802.cell (p := ⟨xv, 3, none⟩) zxv_wz801).trans cxv_3_wz801
      have cxv_4_wz802 : wz802.cell? ⟨xv, 4, none⟩ = some (.int .i64 (-3)) := (hB802.cell (p := ⟨xv, 4, none⟩) zxv_wz801).trans cxv_4_wz801
      have cxv_5_wz802 : wz802.cell? ⟨xv, 5, none⟩ = some (.int .i64 1) := (hB802.cell (p := ⟨xv, 5, none⟩) zxv_wz801).trans cxv_5_wz801
      have zxv_wz802 : xv < wz802.heap.size := Nat.lt_of_lt_of_le zxv_wz801 hB802.size
      have cm_0_wz802 : wz802.cell? ⟨m, 0, none⟩ = some (.int .i64 1767765) := (hB802.cell (p := ⟨m, 0, none⟩) zm_wz801).trans cm_0_wz801
      have cm_1_wz802 : wz802.cell? ⟨m, 1, none⟩ = some (.int .i64 1767768) := (hB802.cell (p := ⟨m, 1, none⟩) zm_wz801).trans cm_1_wz801
      have zm_wz802 : m < wz802.heap.size := Nat.lt_of_lt_of_le zm_wz801 hB802.size
      have co_0_wz802 : wz802.cell? ⟨o, 0, none⟩ = some (.int .i64 2000000) := (hB802.cell (p := ⟨o, 0, none⟩) zo_wz801).trans co_0_wz801
      have co_1_wz802 : wz802.cell? ⟨o, 1, none⟩ = some (.int .i64 2000000) := (hB802.cell (p := ⟨o, 1, none⟩) zo_wz801).trans co_1_wz801
      have zo_wz802 : o < wz802.heap.size := Nat.lt_of_lt_of_le zo_wz801 hB802.size
      clear cg_0_wz801 cg_1_wz801 cg_2_wz801 cg_3_wz801 cg_4_wz801 cg_5_wz801 cg_6_wz801 cg_7_wz801 cg_8_wz801 cg_9_wz801 cg_10_wz801 cg_11_wz801 cg_14_wz801 cg_15_wz801 chf_0_wz801 chf_1_wz801 cxv_0_wz801 cxv_1_wz801 cxv_2_wz801 cxv_3_wz801 cxv_4_wz801 cxv_5_wz801 cm_0_wz801 cm_1_wz801 co_0_wz801 co_1_wz801 zg_wz801 zg6_wz801 zhf_wz801 zxv_wz801 zm_wz801 zo_wz801
      have hW802 : Below w.heap.size w wz802 := Below.trans hW801 (hB802.mono hW801.size)
      clear hB802 hW801
      go_upto_region 21 with fail
      go_cut [34] (fun s34 wz803 => s34 = .int .i64 8 ∧ Below wz802.heap.size wz802 wz803)
      case first =>
        as_aux_lemma =>
          have M3 := HM3.out
          go_wp2_with fail
          with_reducible refine (M3 _).mono ?_
          rintro e v80202 ⟨rfl, hb80202⟩
          have zz80202 := hb80202.size
          try simp [ext_size] at zz80202
          have hB80202 : Below wz802.heap.size wz802 v80202 := Below.trans (by (repeat (first | with_reducible exact b0 _ | (with_reducible refine bext ?_ _ _) | (with_reducible refine below_drewN ?_ _) | (with_reducible refine Below.drew ?_) | (with_reducible refine bal ?_ _)))) (hb80202.mono (by first | omega | (simp [ext_size]; try omega)))
          have zw80202 := hB80202.size
          clear hb80202
          go_wp2_with fail
          go_meet
          exact ⟨rfl, by (repeat (first | with_reducible exact hB80202 | (with_reducible refine bext ?_ _ _) | (with_reducible refine below_drewN ?_ _) | (with_reducible refine Below.drew ?_) | (with_reducible refine bal ?_ _) | (with_reducible refine bset ?_ (by first | omega | (simp <;> omega)) _)))⟩
      case rest =>
        revert hcut; revert wc; intro wz803 hcut
        obtain ⟨rfl, hB803⟩ := hcut
        have cg_0_wz803 : wz803.cell? ⟨g, 0, none⟩ = some (.int .i64 707106) := (hB803.cell (p := ⟨g, 0, none⟩) zg_wz802).trans cg_0_wz802
        have cg_1_wz803 : wz803.cell? ⟨g, 1, none⟩ = some (.int .i64 707107) := (hB803.cell (p := ⟨g, 1, none⟩) zg_wz802).trans cg_1_wz802
        have cg_2_wz803 : wz803.cell? ⟨g, 2, none⟩ = some (.int .i64 707106) := (hB803.cell (p := ⟨g, 2, none⟩) zg_wz802).trans cg_2_wz802
        have cg_3_wz803 : wz803.cell? ⟨g, 3, none⟩ = some (.int .i64 707107) := (hB803.cell (p := ⟨g, 3, none⟩) zg_wz802).trans cg_3_wz802
        have cg_4_wz803 : wz803.cell? ⟨g, 4, none⟩ = some (.int .i64 0) := (hB803.cell (p := ⟨g, 4, none⟩) zg_wz802).trans cg_4_wz802
        have cg_5_wz803 : wz803.cell? ⟨g, 5, none⟩ = some (.int .i64 0) := (hB803.cell (p := ⟨g, 5, none⟩) zg_wz802).trans cg_5_wz802
        have cg_6_wz803 : wz803.cell? ⟨g, 6, none⟩ = some (.int .i64 1000000) := (hB803.cell (p := ⟨g, 6, none⟩) zg_wz802).trans cg_6_wz802
        have cg_7_wz803 : wz803.cell? ⟨g, 7, none⟩ = some (.int .i64 1000000) := (hB803.cell (p := ⟨g, 7, none⟩) zg_wz802).trans cg_7_wz802
        have cg_8_wz803 : wz803.cell? ⟨g, 8, none⟩ = some (.int .i64 0) := (hB803.cell (p := ⟨g, 8, none⟩) zg_wz802).trans cg_8_wz802
        have cg_9_wz803 : wz803.cell? ⟨g, 9, none⟩ = some (.int .i64 0) := (hB803.cell (p := ⟨g, 9, none⟩) zg_wz802).trans cg_9_wz802
        have cg_10_wz803 : wz803.cell? ⟨g, 10, none⟩ = some (.int .i64 0) := (hB803.cell (p := ⟨g, 10, none⟩) zg_wz802).trans cg_10_wz802
        have cg_11_wz803 : wz803.cell? ⟨g, 11, none⟩ = some (.int .i64 0) := (hB803.cell (p := ⟨g, 11, none⟩) zg_wz802).trans cg_11_wz802
        have cg_14_wz803 : wz803.cell? ⟨g, 14, none⟩ = some (.int .i64 (-707107)) := (hB803.cell (p := ⟨g, 14, none⟩) zg_wz802).trans cg_14_wz802
        have cg_15_wz803 : wz803.cell? ⟨g, 15, none⟩ = some (.int .i64 (-707106)) := (hB803.cell (p := ⟨g, 15, none⟩) zg_wz802).trans cg_15_wz802
        have zg_wz803 : g < wz803.heap.size := Nat.lt_of_lt_of_le zg_wz802 hB803.size
        have zg6_wz803 : g6 < wz803.heap.size := Nat.lt_of_lt_of_le zg6_wz802 hB803.size
        have chf_0_wz803 : wz803.cell? ⟨hf, 0, none⟩ = some (.int .i64 707106) := (hB803.cell (p := ⟨hf, 0, none⟩) zhf_wz802).trans chf_0_wz802
        have chf_1_wz803 : wz803.cell? ⟨hf, 1, none⟩ = some (.int .i64 707107) := (hB803.cell (p := ⟨hf, 1, none⟩) zhf_wz802).trans chf_1_wz802
        have zhf_wz803 : hf < wz803.heap.size := Nat.lt_of_lt_of_le zhf_wz802 hB803.size
        have cxv_0_wz803 : wz803.cell? ⟨xv, 0, none⟩ = some (.int .i64 2) := (hB803.cell (p := ⟨xv, 0, none⟩) zxv_wz802).trans cxv_0_wz802
        have cxv_1_wz803 : wz803.cell? ⟨xv, 1, none⟩ = some (.int .i64 1) := (hB803.cell (p := ⟨xv, 1, none⟩) zxv_wz802).trans cxv_1_wz802
        have cxv_2_wz803 : wz803.cell? ⟨xv, 2, none⟩ = some (.int .i64 1) := (hB803.cell (p := ⟨xv, 2, none⟩) zxv_wz802).trans cxv_2_wz802
        have cxv_3_wz803 : wz803.cell? ⟨xv, 3, none⟩ = some (.int .i64 2) := (hB803.cell (p := ⟨xv, 3, none⟩) zxv_wz802).trans cxv_3_wz802
        have cxv_4_wz803 : wz803.cell? ⟨xv, 4, none⟩ = some (.int .i64 (-3)) := (hB803.cell (p := ⟨xv, 4, none⟩) zxv_wz802).trans cxv_4_wz802
        have cxv_5_wz803 : wz803.cell? ⟨xv, 5, none⟩ = some (.int .i64 1) := (hB803.cell (p := ⟨xv, 5, none⟩) zxv_wz802).trans cxv_5_wz802
        have zxv_wz803 : xv < wz803.heap.size := Nat.lt_of_lt_of_le zxv_wz802 hB803.size
        have cm_0_wz803 : wz803.cell? ⟨m, 0, none⟩ = some (.int .i64 1767765) := (hB803.cell (p := ⟨m, 0, none⟩) zm_wz802).trans cm_0_wz802
        have cm_1_wz803 : wz803.cell? ⟨m, 1, none⟩ = some (.int .i64 1767768) := (hB803.cell (p := ⟨m, 1, none⟩) zm_wz802).trans cm_1_wz802
        have zm_wz803 : m < wz803.heap.size := Nat.lt_of_lt_of_le zm_wz802 hB803.size
        have co_0_wz803 : wz803.cell? ⟨o, 0, none⟩ = some (.int .i64 2000000) := (hB803.cell (p := ⟨o, 0, none⟩) zo_wz802).trans co_0_wz802
        have co_1_wz803 : wz803.cell? ⟨o, 1, none⟩ = some (.int .i64 2000000) := (hB803.cell (p := ⟨o, 1, none⟩) zo_wz802).trans co_1_wz802
        have zo_wz803 : o < wz803.heap.size := Nat.lt_of_lt_of_le zo_wz802 hB803.size
        clear cg_0_wz802 cg_1_wz802 cg_2_wz802 cg_3_wz802 cg_4_wz802 cg_5_wz802 cg_6_wz802 cg_7_wz802 cg_8_wz802 cg_9_wz802 cg_10_wz802 cg_11_wz802 cg_14_wz802 cg_15_wz802 chf_0_wz802 chf_1_wz802 cxv_0_wz802 cxv_1_wz802 cxv_2_wz802 cxv_3_wz802 cxv_4_wz802 cxv_5_wz802 cm_0_wz802 cm_1_wz802 co_0_wz802 co_1_wz802 zg_wz802 zg6_wz802 zhf_wz802 zxv_wz802 zm_wz802 zo_wz802
        have hW803 : Below w.heap.size w wz803 := Below.trans hW802 (hB803.mono hW802.size)
        clear hB803 hW802
        refine (show ∀ (a : Act) (w : World), Code.wp _ _ _ a w → (_ : Act → World → Prop) a w by assumption) _ _ ?_
        exact hn wz803 g g6 hf xv m o _ _ _ _ _ _ _ _ _ _ _ _ _ _ _ _ _ _ _ _ _ _ _ _ _ _ _ _ _ _ _ _ _ _ _ _ _ _ _ _ _ _ _ _ _ _ _ _ _ _ _ _ _ _ _ _ _ _ _ _ _ _ _ _ _ _ _ _ _ _ _ _ _ _ _ _ _ _ _ _ _ _ _ _ _ _ _ _ _ _ _ _ _ _ _ _ _ _ _ _ _ _ _ _ _ _ _ _ _ _ _ _ _ _ _ _ _ _ _ _ _ _ _ _ _ _ _ _ _ _ _ _ _ _ _ _ _ _ _ _ _ _ _ _ _ _ _ _ _ _ _ _ _ _ _ _ _ _ _ _ _ _ _ _ _ _ _ _ _ _ _ _ _ _ _ _ _ _ _ _ _ _ _ _ _ _ _ _ _ _ _ _ _ _ _ _ _ _ _ _ _ _ _ _ _ _ _ _ _ _ _ _ _ _ _ _ _ _ _ _ _ _ _ _ _ _ _ _ _ _ _ _ _ _ _ _ _ _ _ _ _ _ _ _ _ _ _ _ _ _ _ _ _ _ _ _ _ _ _ _ _ _ _ _ _ _ _ _ _ _ _ _ _ _ _ _ _ _ _ _ _ _ _ _ _ _ _ _ _ _ _ _ _ _ _ _ _ _ _ _ _ _ _ _ _ _ _ _ _ _ _ _ _ _ _ _ _ _ _ _ _ _ _ _ _ _ _ _ _ _ cg_0_wz803 cg_1_wz803 cg_2_wz803 cg_3_wz803 cg_4_wz803 cg_5_wz803 cg_6_wz803 cg_7_wz803 cg_8_wz803 cg_9_wz803 cg_10_wz803 cg_11_wz803 cg_14_wz803 cg_15_wz803 zg_wz803 zg6_wz803 chf_0_wz803 chf_1_wz803 zhf_wz803 cxv_0_wz803 cxv_1_wz803 cxv_2_wz803 cxv_3_wz803 cxv_4_wz803 cxv_5_wz803 zxv_wz803 cm_0_wz803 cm_1_wz803 zm_wz803 co_0_wz803 co_1_wz803 zo_wz803 hW803
end Go.Proofs.Ytmjbeplcabomdaa
