/- The walk of Boots: what goes ahead of its loop. -/
import Derived.Test.YtdjaiolfdbamcaaZBWf
import Derived.Test.YtdjaiolfdbamcaaZBRd
import Derived.Test.YtdjaiolfdbamcaaZMW
import Derived.KernelRfl
namespace Go.Proofs.Ytdjaiolfdbamcaa
open Go.RowKit

/-- the document's own image. -/
def givB : List UInt8 := [72, 69, 76, 77, 49, 0, 1, 0, 1, 97, 6, 0, 6, 2, 1, 0, 0, 0, 241, 125, 106, 7]
def givIm : Mx.Img := (Mx.load givB).getD ⟨[], [], 0⟩
theorem giv_some : (Mx.load givB).isSome = true := by kernel_rfl
theorem giv_load : Mx.load givB = some givIm := by
  unfold givIm
  cases h : Mx.load givB with
  | none => have := giv_some; rw [h] at this; cases this
  | some im => rfl
theorem giv_out : (Mx.mstep givIm ⟨givIm.first, none⟩ []).map (fun q => (givIm.leaf q.at_).1) = some [97] := by kernel_rfl
theorem load_right {bs : List UInt8} {im : Mx.Img} (h : Mx.load bs = some im) : ∀ k, k < im.leaves.length → ∃ l, Mx.RightD (im.leaf k).2 im.leaves.length (2 * im.vars.length) l := by
  unfold Mx.load at h
  split at h
  · rename_i im' hd
    split at h
    · rename_i ha
      cases h
      intro k hk
      rw [Mx.Img.leaf_at hk]
      exact Mx.right_of_scan (List.all_eq_true.1 ha _ (List.getElem_mem hk))
    · cases h
  · cases h
/-- one step of a script: its kind, its machine, the sample's slice and numbers. -/
structure OpV where
  kd : Int
  on : Int
  sa : Option Addr
  cs : Nat
  xs : List Int
deriving Inhabited
/-- a script in memory. -/
def OpM (W : World) (a0 : Option Addr) (ops : List OpV) : Prop := ∀ i (hi : i < ops.length), ∃ b o, a0 = some ⟨b, o, none⟩ ∧ b < W.heap.size ∧ W.cell? ⟨b, o + i * 3, none⟩ = some (.int .i64 ops[i].kd) ∧ W.cell? ⟨b, o + i * 3 + 1, none⟩ = some (.int .i64 ops[i].on) ∧ W.cell? ⟨b, o + i * 3 + 2, none⟩ = some (.slice ops[i].sa ops[i].xs.length ops[i].cs) ∧ SlI W ops[i].sa ops[i].xs ∧ (ops[i].sa = none → ops[i].cs = 0) ∧ ops[i].xs.length ≤ 2000000
/-- what stands at the head of the loop, with i steps done. -/
structure BtI (w : World) (kb lb : Nat) (M0 M1 : MaP) (i : Nat) (wr : World) : Prop where
  below : Below w.heap.size w wr
  all : ∃ s0 s1 B0 B1 vh0 vb0 vh1 vb1 vl us cur, Pr wr M0 B0 s0 vh0 vb0 ∧ Pr wr M1 B1 s1 vh1 vb1 ∧ B0.bb ≠ B1.bb ∧ w.heap.size ≤ B0.bb ∧ w.heap.size ≤ B1.bb ∧ BkI wr w.heap.size kb vl us ∧ us.length ≤ 4 * i ∧ wr.heap[lb]? = some (.cells cur 39 (0, 0)) ∧ cur[0]? = some (.pointer (some ⟨M0.mb, 0, none⟩)) ∧ cur[1]? = some (.pointer (some ⟨B0.bb, 0, none⟩)) ∧ cur[2]? = some (.pointer (some ⟨M1.mb, 0, none⟩)) ∧ cur[3]? = some (.pointer (some ⟨B1.bb, 0, none⟩))
theorem BkI.settled {w w' : World} {cc kb : Nat} {vl : Value} {us : List (Option Addr × Nat × Nat)} (h : BkI w cc kb vl us) (hk : Kp (fun k => k = kb) w w') (hb : w'.heap[kb]? = some (.cells #[vl, .slice none 0 0, .slice none 0 0] 26 (0, 0))) : BkI w' cc kb vl us := by
  refine ⟨hb, Nat.le_trans h.le hk.size, own_kp h.row hk (fun g e => ?_), h.four, fun i hi hp => ?_, h.small⟩
  · obtain ⟨cur, hc⟩ := row_typ h.row e
    exact typ_ne hc h.box (by decide)
  · obtain ⟨g, e, hf⟩ := h.full i hi hp
    refine ⟨g, e, hf.kept (hk.block g hf.lt ?_)⟩
    obtain ⟨cur, hc, _⟩ := hf
    exact typ_ne hc h.box (by decide)
section
variable {w wr : World} {kb lb : Nat} {M0 M1 : MaP} {im : Mx.Img} {i : Nat} {kd on : Int} {sa : Option Addr} {cs : Nat} {xs : List Int}
theorem ride_bt0 (hb : BtI w kb lb M0 M1 i wr) (hkb : w.heap.size ≤ kb) (hlb : w.heap.size ≤ lb) (hm0 : w.heap.size ≤ M0.mb) (hne : M0.mb ≠ M1.mb) (hi0 : M0.im = im) (hG : im.Good) (hR : ∀ k, k < im.leaves.length → ∃ l, Mx.RightD (im.leaf k).2 im.leaves.length (2 * im.vars.length) l)
    (hx : SlI wr sa xs) (hz : sa = none → cs = 0) (hxc : 0 < xs.length → ∀ g o, sa = some ⟨g, o, none⟩ → g < w.heap.size) (hxl : xs.length ≤ 2000000) (hi : i ≤ 2000000) :
    Calls Try.prog 8 #[.pointer (some ⟨kb, 0, none⟩), .slice (some ⟨lb, 0, none⟩) 2 2, .int .i64 0, .agg #[.int .i64 kd, .int .i64 on, .slice sa xs.length cs]] wr fun e w' => e = .returned (.bool true) ∧ BtI w kb lb M0 M1 (i + 1) w' := by
  obtain ⟨hbl, s0, s1, B0, B1, vh0, vb0, vh1, vb1, vl, us, cur, hp0, hp1, hnb, hb0, hb1, hbk, hus, hlb', c0, c1, c2, c3⟩ := hb
  subst hi0
  refine (ride_any wr w.heap.size w.heap.size kb lb 0 M0 M1 B0 B1 s0 s1 vh0 vb0 vh1 vb1 vl us cur kd on sa cs xs hlb' c0 c1 (by omega) hp0 hp1 hne hnb hbk (by omega) hG hR hx hz hxc hxl hm0 hb0 (Nat.le_refl _) hkb hlb).mono ?_
  rintro e w' ⟨rfl, hbe, s2, B2, vh, vb, vh', vb', vl2, us2, cur2, p0, p1, n1, q1, k1, u1, l1, r0, r1, r2⟩
  exact ⟨rfl, hbl.trans hbe, s2, s1, B2, B1, vh, vb, vh', vb', vl2, us2, cur2, p0, p1, n1, q1, hb1, k1, by omega, l1, r0, r1, (r2 2 (by omega)).trans c2, (r2 3 (by omega)).trans c3⟩
theorem ride_bt1 (hb : BtI w kb lb M0 M1 i wr) (hkb : w.heap.size ≤ kb) (hlb : w.heap.size ≤ lb) (hm1 : w.heap.size ≤ M1.mb) (hne : M0.mb ≠ M1.mb) (hi1 : M1.im = im) (hG : im.Good) (hR : ∀ k, k < im.leaves.length → ∃ l, Mx.RightD (im.leaf k).2 im.leaves.length (2 * im.vars.length) l)
    (hx : SlI wr sa xs) (hz : sa = none → cs = 0) (hxc : 0 < xs.length → ∀ g o, sa = some ⟨g, o, none⟩ → g < w.heap.size) (hxl : xs.length ≤ 2000000) (hi : i ≤ 2000000) :
    Calls Try.prog 8 #[.pointer (some ⟨kb, 0, none⟩), .slice (some ⟨lb, 0, none⟩) 2 2, .int .i64 1, .agg #[.int .i64 kd, .int .i64 on, .slice sa xs.length cs]] wr fun e w' => e = .returned (.bool true) ∧ BtI w kb lb M0 M1 (i + 1) w' := by
  obtain ⟨hbl, s0, s1, B0, B1, vh0, vb0, vh1, vb1, vl, us, cur, hp0, hp1, hnb, hb0, hb1, hbk, hus, hlb', c0, c1, c2, c3⟩ := hb
  subst hi1
  refine (ride_any wr w.heap.size w.heap.size kb lb 1 M1 M0 B1 B0 s1 s0 vh1 vb1 vh0 vb0 vl us cur kd on sa cs xs hlb' c2 c3 (by omega) hp1 hp0 hne.symm hnb.symm hbk (by omega) hG hR hx hz hxc hxl hm1 hb1 (Nat.le_refl _) hkb hlb).mono ?_
  rintro e w' ⟨rfl, hbe, s2, B2, vh, vb, vh', vb', vl2, us2, cur2, p0, p1, n1, q1, k1, u1, l1, r0, r1, r2⟩
  exact ⟨rfl, hbl.trans hbe, s0, s2, B0, B2, vh', vb', vh, vb, vl2, us2, cur2, p1, p0, n1.symm, hb0, q1, k1, by omega, l1, (r2 0 (by omega)).trans c0, (r2 1 (by omega)).trans c1, r0, r1⟩
theorem settle_bt (hb : BtI w kb lb M0 M1 i wr) (hkb : w.heap.size ≤ kb) (hm0 : w.heap.size ≤ M0.mb) :
    Calls Try.prog 9 #[.pointer (some ⟨kb, 0, none⟩)] wr fun e w' => e = .returned (.bool true) ∧ BtI w kb lb M0 M1 i w' := by
  obtain ⟨hbl, s0, s1, B0, B1, vh0, vb0, vh1, vb1, vl, us, cur, hp0, hp1, hnb, hb0, hb1, hbk, hus, hlb', c0, c1, c2, c3⟩ := hb
  refine (settle_any wr kb vl hbk.box).mono ?_
  rintro e w' ⟨rfl, hbx, hk⟩
  have hq : Quiet wr (fun k => k = kb) wr.heap.size := quiet_one hbk.box (.inr (.inr (.inl rfl)))
  exact ⟨rfl, hbl.trans (kp_below hk (fun k e => by omega) (Nat.le_trans hm0 (Nat.le_of_lt hp0.ma.lt))), s0, s1, B0, B1, vh0, vb0, vh1, vb1, vl, us, cur, hp0.keptN hk hq (typ_ne hp0.ma.box hbk.box (by decide)) (typ_ne hp0.bo.box hbk.box (by decide)), hp1.keptN hk hq (typ_ne hp1.ma.box hbk.box (by decide)) (typ_ne hp1.bo.box hbk.box (by decide)), hnb, hb0, hb1, hbk.settled hk hbx, hus, (hk.block lb (heap_lt hlb') (typ_ne hlb' hbk.box (by decide))).trans hlb', c0, c1, c2, c3⟩
theorem looks_bt (hb : BtI w kb lb M0 M1 i wr) (hi : i ≤ 2000001) :
    Calls Try.prog 10 #[.pointer (some ⟨kb, 0, none⟩)] wr fun e w' => e = .returned (.bool true) ∧ w' = wr := by
  obtain ⟨hbl, s0, s1, B0, B1, vh0, vb0, vh1, vb1, vl, us, cur, hp0, hp1, hnb, hb0, hb1, hbk, hus, _⟩ := hb
  obtain ⟨al, cl, rfl, hbl2⟩ := hbk.lists
  exact looks_any wr kb cl al _ _ us hbk.box hbl2 (by omega)
end
set_option maxRecDepth 20000 in
set_option maxHeartbeats 4000000 in
theorem Boots_any (w : World) (s : ByteArray) (a0 : Option Addr) (cap : Nat) (ops : List OpV) (h : OpM w a0 ops) (hs : s.size ≤ 1000000000) (hl : ops.length ≤ 2000000) :
    Calls Try.prog 3 #[.string s, .slice a0 ops.length cap] w fun e w' => e = .returned (.bool true) ∧ Below w.heap.size w w' := by
  have HO := hide h
  have HLD : Hid (∀ Y, Calls Try.prog 4 #[.string s] Y fun e w' => LoadR s.data.toList Y e w') := hide (fun Y => by
    have := Load_any Y s.data.toList (by simp [maxLen]; omega)
    exact this)
  have HRI : Hid (∀ Y, Calls Try.prog 6 #[.string s] Y fun e w' => RImR s Y e w') := hide (fun Y => ReadImage_any s Y hs)
  have HGV : Hid (∀ Y, Calls Try.prog 4 #[.string ⟨#[72, 69, 76, 77, 49, 0, 1, 0, 1, 97, 6, 0, 6, 2, 1, 0, 0, 0, 241, 125, 106, 7]⟩] Y fun e w' => LoadR givB Y e w') := hide (fun Y => Load_any Y givB (by simp [maxLen, givB]))
  clear h
  go_enter Try.func3, Try.ntmps3
  go_upto_region 2 with (fail)
  have hbA := below_a w (.cells #[.slice none 0 0, .slice none 0 0, .slice none 0 0] 26)
  have z0 := heap_alloc_new w (.cells #[.slice none 0 0, .slice none 0 0, .slice none 0 0] 26)
  generalize w.alloc (.cells #[.slice none 0 0, .slice none 0 0, .slice none 0 0] 26) = W1 at *
  have HB1 := hide hbA
  have HZ1 := hide z0
  have hs1 := hbA.size
  have hkb := heap_lt z0
  clear hbA z0
  go_wp2_with fail
  refine (HGV.out W1).mono ?_
  intro e W2 hr
  have hr1 := hr.1
  have hr2 := hr.2
  rw [giv_load] at hr2
  obtain ⟨Mg, hgi, rfl, hgm, hgl⟩ := hr2
  have hg0 : givIm = Mg.im := hgi.symm
  have HSG := hide (Step_any W2 Mg ⟨givIm.first, none⟩ (.slice none 0 0) none 0 [] hgm (by rw [hgi]; exact load_good giv_load) (fun i hi => absurd hi (by simp)) (fun _ => rfl) (fun hp => absurd hp (by simp)))
  have HB2 : Hid (Below W1.heap.size W1 W2) := hide hr1
  have hs2 := hr1.size
  have HGI := hide hgi
  have HGL := hide hgl
  clear hr hr1 hgm hg0 hgi hgl HGV
  go_upto_region 5 with (fail)
  go_wp2_with fail
  refine HSG.out.mono ?_
  intro e W3 hst
  have hst2 := hst.2
  rw [HGI.out] at hst2
  cases hms : Mx.mstep givIm ⟨givIm.first, none⟩ [] with
  | none => have := giv_out; rw [hms] at this; cases this
  | some sg =>
    rw [hms] at hst2
    obtain ⟨rfl, _⟩ := hst2
    have hnm : (givIm.leaf sg.at_).1 = [97] := by have := giv_out; rw [hms] at this; simpa using this
    have hk3 := hst.1
    have HK3 := hide hk3
    have hs3 := hk3.size
    have hbs : bstr (givIm.leaf sg.at_).1 = ⟨#[97]⟩ := by rw [hnm]; rfl
    rw [hbs]
    clear hst hk3 hms HSG hnm hbs
    have HW3 : Hid (Below w.heap.size w W3) := hide (HB1.out.trans ((HB2.out.mono hs1).trans (kp_below HK3.out (fun k e => by have := HGL.out; omega) (by omega))))
    have HK3B : Hid (W3.heap[w.heap.size]? = some (.cells #[.slice none 0 0, .slice none 0 0, .slice none 0 0] 26 (0, 0))) := hide ((HK3.out.block _ (by omega) (fun e => by have := HGL.out; omega)).trans ((HB2.out.block _ hkb).trans HZ1.out))
    clear HK3 HB2 HB1 HZ1 HGI HGL
    cases hld : Mx.load s.data.toList with
    | none =>
      go_upto_region 6 with (fail)
      go_wp2_with fail
      refine (HLD.out W3).mono ?_
      intro e W4 hr4
      have hl4 := hr4.1
      have hm4 := hr4.2
      rw [hld] at hm4
      obtain rfl := hm4
      have HL4 := hide hl4
      have hs4 := hl4.size
      clear hr4 hl4
      go_upto_region 7 with (fail)
      go_wp2_with fail
      refine (HLD.out W4).mono ?_
      intro e W5 hr5
      have hl5 := hr5.1
      have hm5 := hr5.2
      rw [hld] at hm5
      obtain rfl := hm5
      have HL5 := hide hl5
      have hs5 := hl5.size
      clear hr5 hl5
      go_upto_region 8 with (fail)
      go_wp2_with fail
      refine (HRI.out W5).mono ?_
      intro e W6 hr6
      have hl6 := hr6.1
      have hm6 := hr6.2
      rw [Mx.rimg_is, hld] at hm6
      obtain ⟨pv, rfl⟩ := hm6
      have HL6 := hide hl6
      clear hr6 hl6
      go_wp2_with fail
      go_ret
      exact ⟨rfl, HW3.out.trans ((HL4.out.mono (by omega)).trans ((HL5.out.mono (by omega)).trans (HL6.out.mono (by omega))))⟩
    | some im =>
      have HG := hide (load_good hld)
      have HR := hide (load_right hld)
      go_upto_region 6 with (fail)
      go_wp2_with fail
      refine (HLD.out W3).mono ?_
      intro e W4 hr4
      have hl4 := hr4.1
      have hm4 := hr4.2
      rw [hld] at hm4
      obtain ⟨M0, hi0, rfl, hma0, hmb0⟩ := hm4
      have HL4 := hide hl4
      have HI0 := hide hi0
      have HMA0 := hide hma0
      have hs4 := hl4.size
      clear hr4 hl4 hi0 hma0
      go_upto_region 7 with (fail)
      go_wp2_with fail
      refine (HLD.out W4).mono ?_
      intro e W5 hr5
      have hl5 := hr5.1
      have hm5 := hr5.2
      rw [hld] at hm5
      obtain ⟨M1, hi1, rfl, hma1, hmb1⟩ := hm5
      have HL5 := hide hl5
      have HI1 := hide hi1
      have HMA1 := hide hma1
      have hs5 := hl5.size
      clear hr5 hl5 hi1 hma1
      go_upto_region 8 with (fail)
      go_wp2_with fail
      refine (HRI.out W5).mono ?_
      intro e W6 hr6
      have hl6 := hr6.1
      have hm6 := hr6.2
      rw [Mx.rimg_is, hld] at hm6
      obtain ⟨xb, vlo, vhi, vlv, rfl, hri, _⟩ := hm6
      obtain ⟨alo, ahi, alv, clo, chi, clv, hib⟩ := IB.of hri
      have HL6 := hide hl6
      have HIB := hide hib
      have HBT := hide (fun Y (hY : Below W6.heap.size W6 Y) => Boot_any Y xb W6.heap.size im alo ahi alv clo chi clv (hib.kept (Kp.ofBelow (F := fun _ => False) hY) (fun _ _ h => h)) hY.size (load_good hld).ok.first)
      have hs6 := hl6.size
      clear hr6 hl6 hri hib hld HLD HRI
      go_upto_region 13 with (fail)
      go_wp2_with fail
      refine (HBT.out W6 (Below.refl _ _)).mono ?_
      rintro e W7 ⟨B0, rfl, hbi0, hbx0, hbb0, hbo0, hb7⟩
      have HB7 := hide hb7
      have HBO0 := hide hbo0
      have HBI0 := hide hbi0
      have HE0 := hide hbb0
      have hs7 := hb7.size
      have CB := hide (HBT.out W7 hb7)
      clear hb7 hbo0 hbi0 hbx0 HBT hbb0
      go_wp2_with fail
      refine CB.out.mono ?_
      rintro e W8 ⟨B1, rfl, hbi1, hbx1, hbb1, hbo1, hb8⟩
      have HB8 := hide hb8
      have HBO1 := hide hbo1
      have HBI1 := hide hbi1
      have HE1 := hide hbb1
      have hs8 := hb8.size
      clear hb8 hbo1 hbi1 hbx1 CB hbb1
      go_upto_region 14 with (fail)
      have hb9 := below_a W8 (.cells #[.pointer (some ⟨M0.mb, 0, none⟩), .pointer (some ⟨B0.bb, 0, none⟩), .pointer (some ⟨M1.mb, 0, none⟩), .pointer (some ⟨B1.bb, 0, none⟩)] 39)
      have hz9 := heap_alloc_new W8 (.cells #[.pointer (some ⟨M0.mb, 0, none⟩), .pointer (some ⟨B0.bb, 0, none⟩), .pointer (some ⟨M1.mb, 0, none⟩), .pointer (some ⟨B1.bb, 0, none⟩)] 39)
      generalize W8.alloc (.cells #[.pointer (some ⟨M0.mb, 0, none⟩), .pointer (some ⟨B0.bb, 0, none⟩), .pointer (some ⟨M1.mb, 0, none⟩), .pointer (some ⟨B1.bb, 0, none⟩)] 39) = W9 at *
      have hbw : Below w.heap.size w W9 := HW3.out.trans ((HL4.out.mono (by omega)).trans ((HL5.out.mono (by omega)).trans ((HL6.out.mono (by omega)).trans ((HB7.out.mono (by omega)).trans ((HB8.out.mono (by omega)).trans (hb9.mono (by omega)))))))
      have h69 : Below W6.heap.size W6 W9 := HB7.out.trans ((HB8.out.mono (by omega)).trans (hb9.mono (by omega)))
      have h59 : Below W5.heap.size W5 W9 := HL6.out.trans (h69.mono (by omega))
      have h49 : Below W4.heap.size W4 W9 := HL5.out.trans (h59.mono (by omega))
      have h39 : Below W3.heap.size W3 W9 := HL4.out.trans (h49.mono (by omega))
      have h79 : Below W7.heap.size W7 W9 := HB8.out.trans (hb9.mono (by omega))
      have hm0 := HMA0.out.lt
      have hs9 := hb9.size
      have hE0 := HE0.out
      have hE1 := HE1.out
      have hbl0 := heap_lt HBO0.out.box
      have hbl1 := heap_lt HBO1.out.box
      have HM01 : Hid (M0.mb ≠ M1.mb) := hide (by omega)
      have HIN : Hid (BtI w w.heap.size W8.heap.size M0 M1 0 W9) := hide ⟨hbw, ⟨im.first, none⟩, ⟨im.first, none⟩, B0, B1, .slice none 0 0, .slice none 0 0, .slice none 0 0, .slice none 0 0, .slice none 0 0, [], _,
        ⟨HMA0.out.kept h49, (fun g e => by cases e), HBO0.out.kept h79, HBI0.out.trans HI0.out.symm⟩, ⟨HMA1.out.kept h59, (fun g e => by cases e), HBO1.out.kept hb9, HBI1.out.trans HI1.out.symm⟩, by omega, by omega, by omega,
        ⟨(h39.block _ (by omega)).trans HK3B.out, by omega, World.ownsRow_nil _ _ _ _, ⟨0, rfl⟩, (fun i hi => absurd hi (by simp)), (fun i hi => absurd hi (by simp))⟩, by simp, hz9, rfl, rfl, rfl, rfl⟩
      have HGI0 : Hid (M0.im = im) := HI0
      have hc0 : w.heap.size ≤ M0.mb := by omega
      have hc1 : w.heap.size ≤ M1.mb := by omega
      have hlb0 : w.heap.size ≤ W8.heap.size := by omega
      obtain ⟨lb, hlb⟩ : ∃ lb, lb = W8.heap.size := ⟨_, rfl⟩
      rw [← hlb] at HIN hlb0 ⊢
      clear hbw h69 h59 h49 h39 h79 hb9 hz9 hlb HK3B HMA0 HMA1 HBO0 HBO1 HBI0 HBI1 HE0 HE1 HIB HB7 HB8 HL4 HL5 HL6 HW3 hE0 hE1 hbl0 hbl1 hm0 hs9
      obtain ⟨kb, hkbe⟩ : ∃ kb, kb = w.heap.size := ⟨_, rfl⟩
      have HKB := hide hkbe
      have HIN2 : Hid (BtI w kb lb M0 M1 0 W9) := hide (by rw [hkbe]; exact HIN.out)
      rw [← hkbe]
      clear hkbe HIN hs1 hs2 hs3 hs4 hs5 hs6 hs7 hs8 hmb0 hmb1 hkb
      go_wp2_with fail
      go_loopg [17, 18, 19, 20, 21] ops.length (fun m v17 v18 v19 v20 v21 wr => ∃ i : Nat, i + m = ops.length ∧ v17 = .int .i64 i ∧ BtI w kb lb M0 M1 i wr)
      case atStart => exact ⟨0, by omega, rfl, HIN2.out⟩
      case round =>
        obtain ⟨i, him, rfl, hbt⟩ := hrel
        by_cases hlt : i < ops.length
        · have hii : (i : Int) < ops.length := by omega
          have hi0 : (0 : Int) ≤ i := by omega
          obtain ⟨b, o, e0, hb, hk, hon, hsl, hsi, hsz, hsx⟩ := HO.out i hlt
          subst e0
          obtain ⟨kd, hkd⟩ : ∃ kd, kd = ops[i].kd := ⟨_, rfl⟩
          obtain ⟨on, hone⟩ : ∃ on, on = ops[i].on := ⟨_, rfl⟩
          obtain ⟨sa, hsae⟩ : ∃ sa, sa = ops[i].sa := ⟨_, rfl⟩
          obtain ⟨cs, hcse⟩ : ∃ cs, cs = ops[i].cs := ⟨_, rfl⟩
          obtain ⟨xs, hxse⟩ : ∃ xs, xs = ops[i].xs := ⟨_, rfl⟩
          rw [← hkd] at hk
          rw [← hone] at hon
          rw [← hsae, ← hcse, ← hxse] at hsl
          rw [← hsae, ← hxse] at hsi
          rw [← hsae, ← hcse] at hsz
          rw [← hxse] at hsx
          have hbw := hbt.below
          have y0 : wr.cell? ⟨b, o + i * 3, none⟩ = some (.int .i64 kd) := (hbw.cell (p := ⟨b, o + i * 3, none⟩) hb).trans hk
          have y1 : wr.cell? ⟨b, o + i * 3 + 1, none⟩ = some (.int .i64 on) := (hbw.cell (p := ⟨b, o + i * 3 + 1, none⟩) hb).trans hon
          have y2 : wr.cell? ⟨b, o + i * 3 + 2, none⟩ = some (.slice sa xs.length cs) := (hbw.cell (p := ⟨b, o + i * 3 + 2, none⟩) hb).trans hsl
          have hxw : SlI wr sa xs := hsi.below hbw
          have hxc : 0 < xs.length → ∀ g o, sa = some ⟨g, o, none⟩ → g < w.heap.size := fun hp g o e => by
            obtain ⟨g', o', e', hg', _⟩ := hsi 0 hp
            rw [e] at e'; cases e'; exact hg'
          have HBT := hide hbt
          have HXS := hide hsx
          have HXW := hide hxw
          have HXC := hide hxc
          have HSZ := hide hsz
          clear hbt hsi hxw hxc hk hon hsl hkd hone hsae hcse hxse hbw hsz hsx
          have hkb0 : w.heap.size ≤ kb := by rw [HKB.out]; exact Nat.le_refl _
          have hil : i ≤ 2000000 := by omega
          cases hcond : (on.tmod 2 != 0)
          case' false =>
            have HRD := hide (ride_bt0 (kd := kd) (on := on) HBT.out hkb0 hlb0 hc0 HM01.out HI0.out HG.out HR.out HXW.out HSZ.out HXC.out HXS.out hil)
          case' true =>
            have HRD := hide (ride_bt1 (kd := kd) (on := on) HBT.out hkb0 hlb0 hc1 HM01.out HI1.out HG.out HR.out HXW.out HSZ.out HXC.out HXS.out hil)
          all_goals
            go_upto_region 20 with (fail)
            go_wp2_with fail
            refine HRD.out.mono ?_
            rintro e V1 ⟨rfl, hv1⟩
            have HST := hide (settle_bt hv1 hkb0 hc0)
            clear hv1 HRD y0 y1 y2
            go_upto_region 21 with (fail)
            go_wp2_with fail
            refine HST.out.mono ?_
            rintro e V2 ⟨rfl, hv2⟩
            have HLK := hide (looks_bt hv2 (by omega))
            have HV2 := hide hv2
            clear hv2 HST
            go_upto_region 22 with (fail)
            go_wp2_with fail
            refine HLK.out.mono ?_
            rintro e V3 ⟨rfl, rfl⟩
            clear HLK
            go_wp2_with fail
            go_roundg (ops.length - (i + 1))
            case measure => omega
            case rel => exact ⟨i + 1, by omega, by go_num, HV2.out⟩
        · have hii : ¬ (i : Int) < ops.length := by omega
          have HB := hide hbt.below
          clear hbt
          go_wp2_with fail
          go_ret
          exact ⟨rfl, HB.out⟩
end Go.Proofs.Ytdjaiolfdbamcaa
