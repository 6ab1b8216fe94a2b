/- The walk of helmref's sense. -/
import Derived.Test.YtdjaiolfdbamcaaGreatDoorZWSenV
import Derived.Test.YtdjaiolfdbamcaaGreatDoorZWSenM
import Derived.Test.YtdjaiolfdbamcaaGreatDoorZWSenW
namespace Go.Proofs.YtdjaiolfdbamcaaGreatDoor
open Go.RowKit
set_option maxRecDepth 20000 in
set_option maxHeartbeats 8000000 in
theorem sense_any (w : World) (base bx : Nat) (gt capt : Nat) (ts : List Hx.Tok) (F : Nat → Prop) (h : TabB w base bx (.slice (some ⟨gt, 0, none⟩) ts.length capt) gt ts Hx.St.zero F) (hm : TokMem w gt ts) (hl : ts.length ≤ 3001) (hok : ∀ t ∈ ts, Hx.TokOk t)
    (hgt : gt < w.heap.size) (hgF : ¬ F gt) (hcap : ts.length ≤ capt) (n : Nat) (S : Hx.St) (hg : Hx.senF n ts (-1) 0 false Hx.St.zero = some S) :
    Calls Tryz.prog 93 #[.pointer (some ⟨bx, 0, none⟩)] w fun e w' => e = .returned (.tuple #[]) ∧ TabR w base bx (.slice (some ⟨gt, 0, none⟩) ts.length capt) gt ts F w' S := by
  have H0 : Hid (SRel ts w base bx (.slice (some ⟨gt, 0, none⟩) ts.length capt) gt F S n (.int .i64 0) (.int .i64 (-1)) (.int .i64 0) (.bool false) w) :=
    ⟨0, -1, 0, false, Hx.St.zero, rfl, rfl, rfl, rfl, ⟨by omega, by omega, by omega, hg, by simp [Hx.St.zero], by simp [Hx.St.zero], by simp [Hx.St.zero], by simp [Hx.St.zero], by simp [Hx.St.zero], h.mono (fun _ h => .inl h), Kp.refl _ _, hm⟩⟩
  have HOK := hide hok
  have HGF := hide hgF
  have b0 : w.cell? ⟨bx, 0, none⟩ = some (.slice (some ⟨gt, 0, none⟩) ts.length capt) := by obtain ⟨g, h, _⟩ := h; exact h.cellAt.1
  clear h hm hok hgF hg
  go_enter Tryz.func93, Tryz.ntmps93
  go_wp2
  clear b0
  go_loopg [3, 4, 5, 6] n (SRel ts w base bx (.slice (some ⟨gt, 0, none⟩) ts.length capt) gt F S)
  case atStart => exact H0.out
  case round =>
    rename_i J K hJ hK
    have hJ2 : SJ bx gt ts.length capt (SRel ts w base bx (.slice (some ⟨gt, 0, none⟩) ts.length capt) gt F S) J := by
      intro k u3 u4 u5 u6 u7 u8 u9 u10 u15 u16 u17 u18 u19 u20 u21 u22 u23 u24 u25 u26 u27 u28 u29 u30 u31 u32 u33 u34 u35 u36 u37 u38 u39 u40 u41 u42 u43 u44 u45 u46 u47 u48 u49 u50 u51 u52 u53 u54 u55 u56 u57 u58 u59 u60 u61 u62 u63 u64 u65 u66 u67 u68 u69 u70 u71 u72 u73 u74 u75 u76 u77 u78 u79 u80 u81 u82 u83 u84 u85 u86 u87 u88 u89 u90 u91 u92 u93 u94 u95 u96 u97 u98 u99 u100 u101 u102 u103 u104 u105 u106 u107 u108 u109 u110 u111 u112 u113 u114 u115 u116 u117 u118 u119 u120 u121 u122 u123 u124 u125 u126 u127 u128 u129 u130 u131 u132 u133 u134 u135 u136 u137 u138 u139 u140 u141 u142 u143 u144 u145 u146 u147 u148 u149 u150 u151 u152 u153 u154 u155 u156 u157 u158 u159 u160 u161 u162 u163 u164 u165 u166 u167 u168 u169 u170 u171 u172 u173 u174 u175 u176 u177 u178 u179 u180 u181 u182 u183 u184 u185 u186 u187 u188 u189 u190 u191 u192 u193 u194 u195 u196 u197 u198 u199 u200 u201 u202 u203 u204 u205 u206 u207 u208 u209 u210 u211 u212 u213 u214 u215 u216 u217 u218 u219 u220 u221 u222 u223 u224 u225 u226 u227 u228 u229 u230 u231 u232 u233 u234 u235 u236 u237 u238 u239 u240 u241 u242 u243 u244 u245 u246 u247 u248 u249 w' h
      apply hJ
      (repeat apply Exists.intro)
      exact ⟨h, rfl⟩
    clear hJ H0
    obtain ⟨i, inn, deep, dear, s, rfl, rfl, rfl, rfl, hI⟩ := hrel
    obtain ⟨f, rfl⟩ : ∃ f, gk = f + 1 := by
      cases gk with
      | zero => have := hI.run; simp [Hx.senF] at this
      | succ k => exact ⟨k, rfl⟩
    have hlt : i < ts.length := by
      by_cases h : i < ts.length
      · exact h
      · have := hI.run
        rw [List.drop_of_length_le (by omega)] at this
        simp [Hx.senF] at this
    by_cases k1 : ts[i].k = 101
    · obtain ⟨il, d1, d2, hrun, nv, nm, na, nr, nx, hT, hk, hm⟩ := hI
      have hdrop : ts.drop i = ts[i] :: ts.drop (i + 1) := List.drop_eq_getElem_cons hlt
      rw [hdrop] at hrun
      obtain ⟨c0, c1, c2, c3⟩ := hm i hlt
      generalize ts[i] = t at *
      have a1 : ((t.k : Int) != 101) = false := by simp; omega
      have HE := hide (Hx.sen_end hrun k1)
      have HT := hide hT
      have HK := hide hk
      clear k1 hrun hT hk hm nx hdrop hJ2
      go_wp2
      go_end0
      exact ⟨rfl, by rw [← HE.out]; exact HT.out, HK.out⟩
    · cases e1 : (ts[i].s.toList == Hx.yvar) with
      | true => exact sense_var w base bx gt capt ts F hl HOK.out hgt HGF.out S f i inn deep dear s wr hI hlt k1 e1 u7 u8 u9 u10 u15 u16 u17 u18 u19 u20 u21 u22 u23 u24 u25 u26 u27 u28 u29 u30 u31 u32 u33 u34 u35 u36 u37 u38 u39 u40 u41 u42 u43 u44 u45 u46 u47 u48 u49 u50 u51 u52 u53 u54 u55 u56 u57 u58 u59 u60 u61 u62 u63 u64 u65 u66 u67 u68 u69 u70 u71 u72 u73 u74 u75 u76 u77 u78 u79 u80 u81 u82 u83 u84 u85 u86 u87 u88 u89 u90 u91 u92 u93 u94 u95 u96 u97 u98 u99 u100 u101 u102 u103 u104 u105 u106 u107 u108 u109 u110 u111 u112 u113 u114 u115 u116 u117 u118 u119 u120 u121 u122 u123 u124 u125 u126 u127 u128 u129 u130 u131 u132 u133 u134 u135 u136 u137 u138 u139 u140 u141 u142 u143 u144 u145 u146 u147 u148 u149 u150 u151 u152 u153 u154 u155 u156 u157 u158 u159 u160 u161 u162 u163 u164 u165 u166 u167 u168 u169 u170 u171 u172 u173 u174 u175 u176 u177 u178 u179 u180 u181 u182 u183 u184 u185 u186 u187 u188 u189 u190 u191 u192 u193 u194 u195 u196 u197 u198 u199 u200 u201 u202 u203 u204 u205 u206 u207 u208 u209 u210 u211 u212 u213 u214 u215 u216 u217 u218 u219 u220 u221 u222 u223 u224 u225 u226 u227 u228 u229 u230 u231 u232 u233 u234 u235 u236 u237 u238 u239 u240 u241 u242 u243 u244 u245 u246 u247 u248 u249 _ J K hJ2 hK
      | false =>
        cases e2 : (ts[i].s.toList == Hx.ydefault) with
        | true => exact sense_default w base bx gt capt ts F hl HOK.out hgt HGF.out S f i inn deep dear s wr hI hlt k1 e1 e2 u7 u8 u9 u10 u15 u16 u17 u18 u19 u20 u21 u22 u23 u24 u25 u26 u27 u28 u29 u30 u31 u32 u33 u34 u35 u36 u37 u38 u39 u40 u41 u42 u43 u44 u45 u46 u47 u48 u49 u50 u51 u52 u53 u54 u55 u56 u57 u58 u59 u60 u61 u62 u63 u64 u65 u66 u67 u68 u69 u70 u71 u72 u73 u74 u75 u76 u77 u78 u79 u80 u81 u82 u83 u84 u85 u86 u87 u88 u89 u90 u91 u92 u93 u94 u95 u96 u97 u98 u99 u100 u101 u102 u103 u104 u105 u106 u107 u108 u109 u110 u111 u112 u113 u114 u115 u116 u117 u118 u119 u120 u121 u122 u123 u124 u125 u126 u127 u128 u129 u130 u131 u132 u133 u134 u135 u136 u137 u138 u139 u140 u141 u142 u143 u144 u145 u146 u147 u148 u149 u150 u151 u152 u153 u154 u155 u156 u157 u158 u159 u160 u161 u162 u163 u164 u165 u166 u167 u168 u169 u170 u171 u172 u173 u174 u175 u176 u177 u178 u179 u180 u181 u182 u183 u184 u185 u186 u187 u188 u189 u190 u191 u192 u193 u194 u195 u196 u197 u198 u199 u200 u201 u202 u203 u204 u205 u206 u207 u208 u209 u210 u211 u212 u213 u214 u215 u216 u217 u218 u219 u220 u221 u222 u223 u224 u225 u226 u227 u228 u229 u230 u231 u232 u233 u234 u235 u236 u237 u238 u239 u240 u241 u242 u243 u244 u245 u246 u247 u248 u249 _ J K hJ2 hK
        | false =>
          cases e3 : (ts[i].s.toList == Hx.ymode) with
          | true => exact sense_mode w base bx gt capt ts F hl HOK.out hgt HGF.out S f i inn deep dear s wr hI hlt k1 e1 e2 e3 u7 u8 u9 u10 u15 u16 u17 u18 u19 u20 u21 u22 u23 u24 u25 u26 u27 u28 u29 u30 u31 u32 u33 u34 u35 u36 u37 u38 u39 u40 u41 u42 u43 u44 u45 u46 u47 u48 u49 u50 u51 u52 u53 u54 u55 u56 u57 u58 u59 u60 u61 u62 u63 u64 u65 u66 u67 u68 u69 u70 u71 u72 u73 u74 u75 u76 u77 u78 u79 u80 u81 u82 u83 u84 u85 u86 u87 u88 u89 u90 u91 u92 u93 u94 u95 u96 u97 u98 u99 u100 u101 u102 u103 u104 u105 u106 u107 u108 u109 u110 u111 u112 u113 u114 u115 u116 u117 u118 u119 u120 u121 u122 u123 u124 u125 u126 u127 u128 u129 u130 u131 u132 u133 u134 u135 u136 u137 u138 u139 u140 u141 u142 u143 u144 u145 u146 u147 u148 u149 u150 u151 u152 u153 u154 u155 u156 u157 u158 u159 u160 u161 u162 u163 u164 u165 u166 u167 u168 u169 u170 u171 u172 u173 u174 u175 u176 u177 u178 u179 u180 u181 u182 u183 u184 u185 u186 u187 u188 u189 u190 u191 u192 u193 u194 u195 u196 u197 u198 u199 u200 u201 u202 u203 u204 u205 u206 u207 u208 u209 u210 u211 u212 u213 u214 u215 u216 u217 u218 u219 u220 u221 u222 u223 u224 u225 u226 u227 u228 u229 u230 u231 u232 u233 u234 u235 u236 u237 u238 u239 u240 u241 u242 u243 u244 u245 u246 u247 u248 u249 _ J K hJ2 hK
          | false =>
            cases e4 : (ts[i].s.toList == Hx.ywhen) with
            | true => exact sense_when w base bx gt capt ts F hl HOK.out hgt HGF.out hcap S f i inn deep dear s wr hI hlt k1 e1 e2 e3 e4 u7 u8 u9 u10 u15 u16 u17 u18 u19 u20 u21 u22 u23 u24 u25 u26 u27 u28 u29 u30 u31 u32 u33 u34 u35 u36 u37 u38 u39 u40 u41 u42 u43 u44 u45 u46 u47 u48 u49 u50 u51 u52 u53 u54 u55 u56 u57 u58 u59 u60 u61 u62 u63 u64 u65 u66 u67 u68 u69 u70 u71 u72 u73 u74 u75 u76 u77 u78 u79 u80 u81 u82 u83 u84 u85 u86 u87 u88 u89 u90 u91 u92 u93 u94 u95 u96 u97 u98 u99 u100 u101 u102 u103 u104 u105 u106 u107 u108 u109 u110 u111 u112 u113 u114 u115 u116 u117 u118 u119 u120 u121 u122 u123 u124 u125 u126 u127 u128 u129 u130 u131 u132 u133 u134 u135 u136 u137 u138 u139 u140 u141 u142 u143 u144 u145 u146 u147 u148 u149 u150 u151 u152 u153 u154 u155 u156 u157 u158 u159 u160 u161 u162 u163 u164 u165 u166 u167 u168 u169 u170 u171 u172 u173 u174 u175 u176 u177 u178 u179 u180 u181 u182 u183 u184 u185 u186 u187 u188 u189 u190 u191 u192 u193 u194 u195 u196 u197 u198 u199 u200 u201 u202 u203 u204 u205 u206 u207 u208 u209 u210 u211 u212 u213 u214 u215 u216 u217 u218 u219 u220 u221 u222 u223 u224 u225 u226 u227 u228 u229 u230 u231 u232 u233 u234 u235 u236 u237 u238 u239 u240 u241 u242 u243 u244 u245 u246 u247 u248 u249 _ J K hJ2 hK
            | false => exact sense_shut w base bx gt capt ts F hl HOK.out hgt HGF.out S f i inn deep dear s wr hI hlt k1 e1 e2 e3 e4 u7 u8 u9 u10 u15 u16 u17 u18 u19 u20 u21 u22 u23 u24 u25 u26 u27 u28 u29 u30 u31 u32 u33 u34 u35 u36 u37 u38 u39 u40 u41 u42 u43 u44 u45 u46 u47 u48 u49 u50 u51 u52 u53 u54 u55 u56 u57 u58 u59 u60 u61 u62 u63 u64 u65 u66 u67 u68 u69 u70 u71 u72 u73 u74 u75 u76 u77 u78 u79 u80 u81 u82 u83 u84 u85 u86 u87 u88 u89 u90 u91 u92 u93 u94 u95 u96 u97 u98 u99 u100 u101 u102 u103 u104 u105 u106 u107 u108 u109 u110 u111 u112 u113 u114 u115 u116 u117 u118 u119 u120 u121 u122 u123 u124 u125 u126 u127 u128 u129 u130 u131 u132 u133 u134 u135 u136 u137 u138 u139 u140 u141 u142 u143 u144 u145 u146 u147 u148 u149 u150 u151 u152 u153 u154 u155 u156 u157 u158 u159 u160 u161 u162 u163 u164 u165 u166 u167 u168 u169 u170 u171 u172 u173 u174 u175 u176 u177 u178 u179 u180 u181 u182 u183 u184 u185 u186 u187 u188 u189 u190 u191 u192 u193 u194 u195 u196 u197 u198 u199 u200 u201 u202 u203 u204 u205 u206 u207 u208 u209 u210 u211 u212 u213 u214 u215 u216 u217 u218 u219 u220 u221 u222 u223 u224 u225 u226 u227 u228 u229 u230 u231 u232 u233 u234 u235 u236 u237 u238 u239 u240 u241 u242 u243 u244 u245 u246 u247 u248 u249 _ J K hJ2 hK
end Go.Proofs.YtdjaiolfdbamcaaGreatDoor
