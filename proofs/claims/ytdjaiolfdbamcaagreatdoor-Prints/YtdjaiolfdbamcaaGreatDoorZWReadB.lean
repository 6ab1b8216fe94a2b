/- The walk of helmref's Read. -/
import Derived.Test.YtdjaiolfdbamcaaGreatDoorZWSen
import Derived.Test.YtdjaiolfdbamcaaGreatDoorZWLink
import Derived.Test.YtdjaiolfdbamcaaGreatDoorZWForm
import Derived.Test.YtdjaiolfdbamcaaGreatDoorZWTok
import Derived.Test.YtdjaiolfdbamcaaGreatDoorZWRead1
import Derived.Test.YtdjaiolfdbamcaaGreatDoorZBase
namespace Go.Proofs.YtdjaiolfdbamcaaGreatDoor
open Go.RowKit

/-- the table of zeros. -/
theorem TabB.start (w : World) (vt : Value) (gt : Nat) (ts : List Hx.Tok) : TabB (w.alloc (.cells #[vt, .slice none 0 0, .slice none 0 0, .slice none 0 0, .int .i64 0, .int .i64 0, .int .i64 0] 117)) w.heap.size w.heap.size vt gt ts Hx.St.zero (fun k => k = w.heap.size) := by
  have h1 := (MemIs.nil w w.heap.size).push (Nat.le_refl _) 117 w.heap.size [vt, .slice none 0 0, .slice none 0 0, .slice none 0 0, .int .i64 0, .int .i64 0, .int .i64 0] rfl
  have h2 := ((h1.addNil 189 3).addNil 111 5).addNil 112 1
  refine ⟨⟨.slice none 0 0, .slice none 0 0, .slice none 0 0, [], []⟩, ⟨h2, rfl, rfl, by simp, by simp, by simp⟩, fun k hk => ?_⟩
  obtain ⟨i, r, hr, e⟩ := hk
  match i, hr with
  | 0, hr => cases hr; cases e; rfl
  | 1, hr => cases hr; cases e
  | 2, hr => cases hr; cases e
  | 3, hr => cases hr; cases e
  | i + 4, hr => simp [tabRows] at hr

def ReadBR (w : World) (ts : List Hx.Tok) (code line : Nat) (e : Ending) (w' : World) : Prop :=
  Below w.heap.size w w' ∧ ((code ≠ 0 ∧ e = .returned (.tuple #[.pointer none, .agg (faultC code line)])) ∨
    (code = 0 ∧ ∃ bx gt cap : Nat, e = .returned (.tuple #[.pointer (some ⟨bx, 0, none⟩), .agg (faultC 0 0)]) ∧ w'.cell? ⟨bx, 0, none⟩ = some (.slice (some ⟨gt, 0, none⟩) ts.length cap) ∧ TokMem w' gt ts ∧ gt < w'.heap.size ∧ bx < w'.heap.size))

set_option maxRecDepth 20000 in
set_option maxHeartbeats 4000000 in
theorem readB_sen (s : ByteArray) (w : World) (hs : s.size ≤ 3000) (ts : List Hx.Tok) (hlex : Hx.lex s.data.toList = .inr ts) (hrun : Hx.Run [Hx.YTABLE] ts 0) (n : Nat) (S : Hx.St) (hsen : Hx.senF n ts (-1) 0 false Hx.St.zero = some S) :
    Calls Tryz.prog 60 #[.string s] w fun e w' => ReadBR w ts (linkS S).code (linkS S).line e w' := by
  obtain ⟨hts, htok, h0, hpos, _⟩ := Hx.lex_ok s.data.toList (by simp; omega) ts hlex
  obtain ⟨n0, hn0, hrunF⟩ := hrun.bounded hts.few
  obtain ⟨hml, hmr⟩ := Hx.senF_modes n _ _ _ _ _ _ hsen 0 (by simp [Hx.St.zero]) (by simp [Hx.St.zero])
  have hfew := hts.few
  have HSEN := hide hsen
  have HTOK := hide htok
  have HRUN := hide hrunF
  have HMR := hide hmr
  have hB1 : Below w.heap.size w (w.alloc (.cells (faultC 0 0) 34)) := (Below.refl _ _).alloc (Nat.le_refl _) _
  have hW1 : (w.alloc (.cells (faultC 0 0) 34)).heap[w.heap.size]? = some (.cells (faultC 0 0) 34 (0, 0)) := heap_alloc_new w _
  have hz1 : (w.alloc (.cells (faultC 0 0) 34)).heap.size = w.heap.size + 1 := by simp
  have HTK := Tokens_any s (w.alloc (.cells (faultC 0 0) 34)) hs
  rw [hlex, hz1] at HTK
  have HTK := hide HTK
  have hbi : ¬ (3000 : Int) < s.size := by omega
  have HB1 := hide hB1
  have HW1 := hide hW1
  have HZ1 := hide hz1
  clear hts htok hpos hrun hsen hrunF hmr hlex hB1 hW1 hz1
  rw [show (faultC 0 0 : Array Value) = #[.int .i64 0, .int .i64 0, .string ⟨#[]⟩, .slice none 0 0, .slice none 0 0] from rfl] at HTK HB1 HW1 HZ1
  go_enter Tryz.func60, Tryz.ntmps60
  go_wp2_with fail
  generalize w.alloc (.cells #[.int .i64 0, .int .i64 0, .string ⟨#[]⟩, .slice none 0 0, .slice none 0 0] 34) = W1 at *
  refine HTK.out.mono ?_
  rintro e w2 ⟨⟨v, rfl, hown⟩, hb2⟩
  have hs2 := hb2.size
  rw [HZ1.out] at hs2
  have hR2 := (hb2.block w.heap.size (by omega)).trans HW1.out
  have hB2 := HB1.out.trans (hb2.mono (by omega))
  have HR2 := hide hR2
  have HB2 := hide hB2
  have HOWN := hide hown
  clear hb2 hR2 hB2 hown HTK
  go_wp2_with fail
  refine (Form_any ts 0 n0 _ v w2 HTOK.out hfew h0 HRUN.out hn0 HOWN.out).mono ?_
  rintro e w3 ⟨rfl, hb3⟩
  have hown3 := own_below HOWN.out hb3
  obtain ⟨gt, cap, rfl, hgb, hg3, hcap, _, hm3⟩ := toks_open hown3 h0
  have hs3 := hb3.size
  have hR3 := (hb3.block w.heap.size (by omega)).trans HR2.out
  have hB3 := HB2.out.trans (hb3.mono (by omega))
  have hBA : Below w3.heap.size w3 (w3.alloc (.cells #[.slice (some ⟨gt, 0, none⟩) ts.length cap, .slice none 0 0, .slice none 0 0, .slice none 0 0, .int .i64 0, .int .i64 0, .int .i64 0] 117)) := (Below.refl _ _).alloc (Nat.le_refl _) _
  have hTB := TabB.start w3 (.slice (some ⟨gt, 0, none⟩) ts.length cap) gt ts
  have hmA : TokMem (w3.alloc (.cells #[.slice (some ⟨gt, 0, none⟩) ts.length cap, .slice none 0 0, .slice none 0 0, .slice none 0 0, .int .i64 0, .int .i64 0, .int .i64 0] 117)) gt ts := tok_alloc hm3 _ hg3
  have hzA : (w3.alloc (.cells #[.slice (some ⟨gt, 0, none⟩) ts.length cap, .slice none 0 0, .slice none 0 0, .slice none 0 0, .int .i64 0, .int .i64 0, .int .i64 0] 117)).heap.size = w3.heap.size + 1 := by simp
  have hRA := (hBA.block w.heap.size (by omega)).trans hR3
  have hBX := hB3.trans (hBA.mono (by omega))
  have HTB := hide hTB
  have HMA := hide hmA
  have HRA := hide hRA
  have HBX := hide hBX
  have HZA := hide hzA
  clear hb3 hown3 hm3 hR3 hB3 hBA hTB hmA hzA hRA hBX HOWN HR2 HB2
  go_wp2_with fail
  generalize w3.alloc (.cells #[.slice (some ⟨gt, 0, none⟩) ts.length cap, .slice none 0 0, .slice none 0 0, .slice none 0 0, .int .i64 0, .int .i64 0, .int .i64 0] 117) = X at *
  refine (sense_any X w3.heap.size w3.heap.size gt cap ts _ HTB.out HMA.out hfew HTOK.out (by have := HZA.out; omega) (by omega) hcap n S HSEN.out).mono ?_
  rintro e w4 ⟨rfl, hT4, hk4⟩
  have HT4 := hide hT4
  have HK4 := hide hk4
  clear hT4 hk4
  go_wp2_with fail
  refine (link_any w4 w3.heap.size w3.heap.size _ gt ts S _ HT4.out (by omega) (fun m hm => by have := HMR.out m hm; omega)).mono ?_
  rintro e w5 ⟨rfl, hT5, hk5⟩
  have hk : Kp (fun k => k = w3.heap.size) X w5 := HK4.out.trans hk5 (fun k h => h)
  have hsX := HZA.out
  have hs5 := hk.size
  have hR5 := (hk.block w.heap.size (by omega) (by omega)).trans HRA.out
  have hB5 := HBX.out.trans (hk.toBelow (B := w.heap.size) (fun k e => by omega) (by omega))
  have hm5 : TokMem w5 gt ts := HMA.out.kept hk (by omega) (by omega)
  obtain ⟨g5, T5, _⟩ := hT5
  obtain ⟨x0, _, _, _, _, x5, x6⟩ := T5.cellAt
  generalize hcc : (linkS S).code = cc at *
  generalize hll : (linkS S).line = ll at *
  have HCC := hide hcc
  have HLL := hide hll
  clear hcc hll
  obtain ⟨y0, y1, y2, y3, y4, z0, z1, z2, z3, z4⟩ := fc_of (c := 0) (l := 0) hR5
  have HB5 := hide hB5
  have HM5 := hide hm5
  have X0 := hide x0
  have HBD : Hid (Below w.heap.size w w5.drew) := hide ⟨hB5.os, hB5.tape, hB5.output, hB5.size, hB5.block⟩
  clear T5 hk5 hk hR5 hB5 hm5 x0
  by_cases hc0 : cc = 0
  · have hcb : ((cc : Int) != 0) = false := by simp; omega
    have HC0 := hide hc0
    clear hc0
    go_wp2_with fail
    refine bodyPost_ret (v := .tuple #[.pointer (some ⟨w3.heap.size, 0, none⟩), .agg #[.int .i64 0, .int .i64 0, .string ⟨#[]⟩, .slice none 0 0, .slice none 0 0]]) (by simp [results, Tryz.results60, go_sem, *]) rfl ?_
    have hkf := fset_kp (Kp.refl (fun k => k = w.heap.size) w5) (.inl rfl) (.int .i64 0) (.int .i64 0) (.string ⟨#[]⟩) (.slice none 0 0) (.slice none 0 0)
    show ReadBR w ts (linkS S).code (linkS S).line _ _
    rw [HCC.out, HLL.out]
    exact ⟨fset_below HB5.out, .inr ⟨HC0.out, w3.heap.size, gt, cap, rfl, (hkf.cell (b := w3.heap.size) (o := 0) (by omega) (by omega)).trans X0.out, HM5.out.kept hkf (by omega) (by omega), Nat.lt_of_lt_of_le (by omega) hkf.size, Nat.lt_of_lt_of_le (by omega) hkf.size⟩⟩
  · have hcb : ((cc : Int) != 0) = true := by simp; omega
    have HC0 := hide hc0
    clear hc0
    go_wp2_with fail
    go_region
    all_goals
      go_wp2_with fail
      refine bodyPost_ret (v := .tuple #[.pointer none, .agg #[.int .i64 cc, .int .i64 ll, .string ⟨#[]⟩, .slice none 0 0, .slice none 0 0]]) (by simp [results, Tryz.results60, go_sem, *]) rfl ?_
      show ReadBR w ts (linkS S).code (linkS S).line _ _
      rw [HCC.out, HLL.out]
      exact ⟨fset_below HBD.out, .inl ⟨HC0.out, rfl⟩⟩
end Go.Proofs.YtdjaiolfdbamcaaGreatDoor

/- The walk of helmref's Read, where the grammar is wrong; and all cases together. -/
namespace Go.Proofs.YtdjaiolfdbamcaaGreatDoor
open Go.RowKit

set_option maxRecDepth 20000 in
set_option maxHeartbeats 4000000 in
theorem readB_big (s : ByteArray) (w : World) (h : 3000 < s.size) (hs : s.size ≤ maxLen) :
    Calls Tryz.prog 60 #[.string s] w fun e w' => e = .returned (.tuple #[.pointer none, .agg (faultC 1 0)]) ∧ Below w.heap.size w w' := by
  unfold maxLen at hs
  have hbi : (3000 : Int) < s.size := by omega
  go_enter Tryz.func60, Tryz.ntmps60
  go_wp2_with fail
  refine bodyPost_ret (v := .tuple #[.pointer none, .agg #[.int .i64 1, .int .i64 0, .string ⟨#[]⟩, .slice none 0 0, .slice none 0 0]]) (by simp [results, Tryz.results60, go_sem]) rfl ?_
  exact ⟨rfl, (Below.refl _ _).alloc (Nat.le_refl _) _⟩

set_option maxRecDepth 20000 in
set_option maxHeartbeats 4000000 in
theorem readB_lex (s : ByteArray) (w : World) (hs : s.size ≤ 3000) (line : Nat) (hlex : Hx.lex s.data.toList = .inl line) :
    Calls Tryz.prog 60 #[.string s] w fun e w' => e = .returned (.tuple #[.pointer none, .agg (faultC 2 line)]) ∧ Below w.heap.size w w' := by
  have hl1 : 1 ≤ line := Hx.lexF_line _ _ _ _ _ hlex
  have hB1 : Below w.heap.size w (w.alloc (.cells (faultC 0 0) 34)) := (Below.refl _ _).alloc (Nat.le_refl _) _
  have hW1 : (w.alloc (.cells (faultC 0 0) 34)).heap[w.heap.size]? = some (.cells (faultC 0 0) 34 (0, 0)) := heap_alloc_new w _
  have hz1 : (w.alloc (.cells (faultC 0 0) 34)).heap.size = w.heap.size + 1 := by simp
  have HTK := Tokens_any s (w.alloc (.cells (faultC 0 0) 34)) hs
  rw [hlex, hz1] at HTK
  have HTK := hide HTK
  have hbi : ¬ (3000 : Int) < s.size := by omega
  have HB1 := hide hB1
  have HW1 := hide hW1
  have HZ1 := hide hz1
  clear hlex hB1 hW1 hz1
  rw [show (faultC 0 0 : Array Value) = #[.int .i64 0, .int .i64 0, .string ⟨#[]⟩, .slice none 0 0, .slice none 0 0] from rfl] at HTK HB1 HW1 HZ1
  go_enter Tryz.func60, Tryz.ntmps60
  go_wp2_with fail
  generalize w.alloc (.cells #[.int .i64 0, .int .i64 0, .string ⟨#[]⟩, .slice none 0 0, .slice none 0 0] 34) = W1 at *
  refine HTK.out.mono ?_
  rintro e w2 ⟨hp, hb2⟩
  have hp' : e = .returned (.tuple #[.slice none 0 0, .int .i64 line]) := hp
  subst hp'
  have hs2 := hb2.size
  have hz := HZ1.out
  have hR2 := (hb2.block w.heap.size (by omega)).trans HW1.out
  have hB2 := HB1.out.trans (hb2.mono (by omega))
  obtain ⟨y0, y1, y2, y3, y4, z0, z1, z2, z3, z4⟩ := fc_of (c := 0) (l := 0) hR2
  have HB2 := hide hB2
  have hb0 : ((line : Int) == 0) = false := by simp; omega
  have hb1 : (0 : Int) < line := by omega
  clear hp hb2 hR2 hB2 hs2 hz HTK
  go_wp2_with fail
  refine bodyPost_ret (v := .tuple #[.pointer none, .agg #[.int .i64 2, .int .i64 line, .string ⟨#[]⟩, .slice none 0 0, .slice none 0 0]]) (by simp [results, Tryz.results60, go_sem, *]) rfl ?_
  exact ⟨rfl, fset_below HB2.out⟩

set_option maxRecDepth 20000 in
set_option maxHeartbeats 4000000 in
theorem readB_form (s : ByteArray) (w : World) (hs : s.size ≤ 3000) (ts : List Hx.Tok) (hlex : Hx.lex s.data.toList = .inr ts) (line : Nat) (hrun : Hx.Run [Hx.YTABLE] ts line) (hl1 : 1 ≤ line) :
    Calls Tryz.prog 60 #[.string s] w fun e w' => e = .returned (.tuple #[.pointer none, .agg (faultC 2 line)]) ∧ Below w.heap.size w w' := by
  obtain ⟨hts, htok, h0, hpos, _⟩ := Hx.lex_ok s.data.toList (by simp; omega) ts hlex
  obtain ⟨n0, hn0, hrunF⟩ := hrun.bounded hts.few
  have hfew := hts.few
  have HTOK := hide htok
  have HRUN := hide hrunF
  have hB1 : Below w.heap.size w (w.alloc (.cells (faultC 0 0) 34)) := (Below.refl _ _).alloc (Nat.le_refl _) _
  have hW1 : (w.alloc (.cells (faultC 0 0) 34)).heap[w.heap.size]? = some (.cells (faultC 0 0) 34 (0, 0)) := heap_alloc_new w _
  have hz1 : (w.alloc (.cells (faultC 0 0) 34)).heap.size = w.heap.size + 1 := by simp
  have HTK := Tokens_any s (w.alloc (.cells (faultC 0 0) 34)) hs
  rw [hlex, hz1] at HTK
  have HTK := hide HTK
  have hbi : ¬ (3000 : Int) < s.size := by omega
  have HB1 := hide hB1
  have HW1 := hide hW1
  have HZ1 := hide hz1
  clear hts htok hpos hrun hrunF hlex hB1 hW1 hz1
  rw [show (faultC 0 0 : Array Value) = #[.int .i64 0, .int .i64 0, .string ⟨#[]⟩, .slice none 0 0, .slice none 0 0] from rfl] at HTK HB1 HW1 HZ1
  go_enter Tryz.func60, Tryz.ntmps60
  go_wp2_with fail
  generalize w.alloc (.cells #[.int .i64 0, .int .i64 0, .string ⟨#[]⟩, .slice none 0 0, .slice none 0 0] 34) = W1 at *
  refine HTK.out.mono ?_
  rintro e w2 ⟨⟨v, rfl, hown⟩, hb2⟩
  have hs2 := hb2.size
  rw [HZ1.out] at hs2
  have hR2 := (hb2.block w.heap.size (by omega)).trans HW1.out
  have hB2 := HB1.out.trans (hb2.mono (by omega))
  have HR2 := hide hR2
  have HB2 := hide hB2
  have HOWN := hide hown
  clear hb2 hR2 hB2 hown HTK
  go_wp2_with fail
  refine (Form_any ts line n0 _ v w2 HTOK.out hfew h0 HRUN.out hn0 HOWN.out).mono ?_
  rintro e w3 ⟨rfl, hb3⟩
  have hR3 := (hb3.block w.heap.size (by omega)).trans HR2.out
  have hB3 := HB2.out.trans (hb3.mono (by omega))
  obtain ⟨y0, y1, y2, y3, y4, z0, z1, z2, z3, z4⟩ := fc_of (c := 0) (l := 0) hR3
  have HB3 := hide hB3
  have hb1 : (0 : Int) < line := by omega
  clear hb3 hR3 hB3
  go_wp2_with fail
  refine bodyPost_ret (v := .tuple #[.pointer none, .agg #[.int .i64 2, .int .i64 line, .string ⟨#[]⟩, .slice none 0 0, .slice none 0 0]]) (by simp [results, Tryz.results60, go_sem, *]) rfl ?_
  exact ⟨rfl, fset_below HB3.out⟩

theorem readB_fault (s : ByteArray) (w : World) (hs : s.size ≤ maxLen) (code line : Nat) (h : FaultOf s code line) (hc : code ≠ 0) :
    Calls Tryz.prog 60 #[.string s] w fun e w' => e = .returned (.tuple #[.pointer none, .agg (faultC code line)]) ∧ Below w.heap.size w w' := by
  rcases h with ⟨h1, rfl, rfl⟩ | ⟨h1, ⟨h2, rfl⟩ | ⟨ts, h2, ⟨h3, h4, rfl⟩ | ⟨h3, n, S, h4, rfl, rfl, _⟩⟩⟩
  · exact readB_big s w h1 hs
  · exact readB_lex s w h1 line h2
  · exact readB_form s w h1 ts h2 line h3 h4
  · refine Calls.mono (readB_sen s w h1 ts h2 h3 n S h4) ?_
    rintro e w' ⟨hb, ⟨_, he⟩ | ⟨h0, _⟩⟩
    · exact ⟨he, hb⟩
    · exact absurd h0 hc
theorem readB_table (s : ByteArray) (w : World) (ts : List Hx.Tok) (h : TableOf s ts) :
    Calls Tryz.prog 60 #[.string s] w fun e w' => ∃ bx gt cap : Nat, e = .returned (.tuple #[.pointer (some ⟨bx, 0, none⟩), .agg (faultC 0 0)]) ∧ w'.cell? ⟨bx, 0, none⟩ = some (.slice (some ⟨gt, 0, none⟩) ts.length cap) ∧ TokMem w' gt ts ∧ gt < w'.heap.size ∧ bx < w'.heap.size ∧ Below w.heap.size w w' := by
  obtain ⟨h1, h2, h3, n, S, h4, h5⟩ := h
  refine Calls.mono (readB_sen s w h1 ts h2 h3 n S h4) ?_
  rintro e w' ⟨hb, ⟨h0, _⟩ | ⟨_, bx, gt, cap, he, hc, hm, hg, hx⟩⟩
  · exact absurd h5 h0
  · exact ⟨bx, gt, cap, he, hc, hm, hg, hx, hb⟩
end Go.Proofs.YtdjaiolfdbamcaaGreatDoor
