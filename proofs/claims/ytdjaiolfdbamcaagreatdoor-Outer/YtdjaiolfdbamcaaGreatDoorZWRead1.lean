/- What Read answers, by the text alone; and the walk of the program's Read. -/
import Derived.Test.YtdjaiolfdbamcaaGreatDoorZWChk13
import Derived.Test.YtdjaiolfdbamcaaGreatDoorZLexOk
set_option maxRecDepth 20000
set_option maxHeartbeats 4000000
namespace Go.Proofs.YtdjaiolfdbamcaaGreatDoor
open Go.RowKit
def FaultOf (s:ByteArray) (code line:Nat):Prop :=
 (3000<s.size∧code=1∧line=0)∨(s.size≤3000∧((Hx.lex s.data.toList=.inl line∧code=2)∨∃ ts,Hx.lex s.data.toList=.inr ts ∧
  ((Hx.Run [Hx.YTABLE] ts line∧1≤line∧code=2)∨(Hx.Run [Hx.YTABLE] ts 0∧∃ n S,Hx.senF n ts (-1) 0 false Hx.St.zero=some S∧(linkS S).code=code∧(linkS S).line=line∧code≠0))))
def TableOf (s:ByteArray) (ts:List Hx.Tok):Prop :=
 s.size≤3000∧Hx.lex s.data.toList=.inr ts∧Hx.Run [Hx.YTABLE] ts 0∧∃ n S,Hx.senF n ts (-1) 0 false Hx.St.zero=some S∧(linkS S).code=0
theorem toks_openA {w:World} {base e:Nat} {v:Value} {ts:List Hx.Tok} (h:w.ownsRow base e 4 v ts.length (rowA ts)) (hn:0<ts.length):∃ g cap,v=.slice (some ⟨g,0,none⟩) ts.length cap∧base≤g∧g<w.heap.size∧TokMemA w g ts:=by
 obtain ⟨g,cap,hv,hgb,hg,_,_,hc⟩:=row_open h hn
 have hf:=fun i hi j hj=>flatC cellsA 4 ts (fun _=>rfl) i j hi hj
 exact ⟨g,cap,hv,hgb,hg,fun i hi=>⟨(hc (i*4+0) (by omega)).trans (hf i hi 0 (by omega)),(hc (i*4+1) (by omega)).trans (hf i hi 1 (by omega)),(hc (i*4+2) (by omega)).trans (hf i hi 2 (by omega)),(hc (i*4+3) (by omega)).trans (hf i hi 3 (by omega))⟩⟩
structure FC (w:World) (b:Nat) (c l:Int):Prop where
 c0:w.cell? ⟨b,0,none⟩=some (.int .i64 c)
 c1:w.cell? ⟨b,1,none⟩=some (.int .i64 l)
 c2:w.cell? ⟨b,2,none⟩=some (.string ⟨#[]⟩)
 c3:w.cell? ⟨b,3,none⟩=some (.slice none 0 0)
 c4:w.cell? ⟨b,4,none⟩=some (.slice none 0 0)
 f0:w.frozen? ⟨b,0,none⟩=false
 f1:w.frozen? ⟨b,1,none⟩=false
 f2:w.frozen? ⟨b,2,none⟩=false
 f3:w.frozen? ⟨b,3,none⟩=false
 f4:w.frozen? ⟨b,4,none⟩=false
theorem fc_of {w:World} {b:Nat} {c l:Int} {T:TypeId} (h:w.heap[b]? = some (.cells (faultC c l) T (0,0))):FC w b c l :=
 ⟨Lib.cell_of_heap h 0,Lib.cell_of_heap h 1,Lib.cell_of_heap h 2,Lib.cell_of_heap h 3,Lib.cell_of_heap h 4,Lib.frozen_of_heap h 0,Lib.frozen_of_heap h 1,Lib.frozen_of_heap h 2,Lib.frozen_of_heap h 3,Lib.frozen_of_heap h 4⟩
theorem fset_heap {w:World} {b:Nat} {c l c' l':Int} {T:TypeId} (h:w.heap[b]? = some (.cells (faultC c l) T (0,0))):(fset w b (.int .i64 c') (.int .i64 l') (.string ⟨#[]⟩) (.slice none 0 0) (.slice none 0 0)).heap[b]? = some (.cells (faultC c' l') T (0,0)) :=
 set_heap (o:=4) (set_heap (o:=3) (set_heap (o:=2) (set_heap (o:=1) (set_heap (o:=0) h))))
def TabMem (w:World) (tb:Nat) (ts:List Hx.Tok):Prop :=
 ∃ (base:Nat) (vt vv vm:Value) (vs:List VarA) (gs:List MG),PT w base tb vt vs gs (fun k=>k<w.heap.size) vv vm∧Links gs∧TabD ts vs (gs.map (·.a))∧(ckAll vs gs).cl.1=0∧vs.length≤3001∧gs.length≤3001
def ReadR (s:ByteArray) (w:World) (e:Ending) (w':World):Prop :=
 Below w.heap.size w w'∧((∃ code line:Nat,e=.returned (.tuple #[.pointer none,.agg (faultC code line)])∧FaultOf s code line∧code≠0) ∨
  ∃ (tb gt cap:Nat) (ts:List Hx.Tok),e=.returned (.tuple #[.pointer (some ⟨tb,0,none⟩),.agg (faultC 0 0)])∧w'.cell? ⟨tb,0,none⟩=some (.slice (some ⟨gt,0,none⟩) ts.length cap)∧TokMemA w' gt ts∧gt<w'.heap.size∧TableOf s ts∧TabMem w' tb ts)
theorem read_any (s:ByteArray) (w:World) (hs:s.size≤maxLen) (hsg:SignsIs w) (htab:∀ W,Below w.heap.size w W→Lib.TabIs Tryz.prog W "internal/strconv.uint64pow10" .u64 Lib.pow10Tab) :
  Calls Tryz.prog 44 #[.string s] w fun e w'=>ReadR s w e w':=by
 unfold maxLen at hs
 have hB1:Below w.heap.size w (w.alloc (.cells (faultC 0 0) 34)):=(Below.refl _ _).alloc (Nat.le_refl _) _
 have hW1:(w.alloc (.cells (faultC 0 0) 34)).heap[w.heap.size]? = some (.cells (faultC 0 0) 34 (0,0)):=heap_alloc_new w _
 have hz1:(w.alloc (.cells (faultC 0 0) 34)).heap.size=w.heap.size+1:=by simp
 have hsg1:SignsIs (w.alloc (.cells (faultC 0 0) 34)):=hsg.below hB1 (Nat.le_refl _)
 have HTAB:=hide htab
 clear htab
 by_cases hbig:3000<s.size
 ·have hbi:(3000:Int)<s.size:=by omega
  clear hB1 hW1 hz1 hsg1
  go_enter Tryz.func44,Tryz.ntmps44
  go_wp2_with fail
  refine bodyPost_ret (v:=.tuple #[.pointer none,.agg #[.int .i64 1,.int .i64 0,.string ⟨#[]⟩,.slice none 0 0,.slice none 0 0]]) (by simp [results,Tryz.results44,go_sem]) rfl ?_
  exact ⟨(Below.refl _ _).alloc (Nat.le_refl _) _,.inl ⟨1,0,rfl,.inl ⟨hbig,rfl,rfl⟩,by decide⟩⟩
 ·have hbi:¬ (3000:Int)<s.size:=by omega
  have HSC:=hide (Scan_any s (w.alloc (.cells (faultC 0 0) 34)) (by omega) hsg1 (fun W hW=>HTAB.out W (hB1.trans (hW.mono (by omega)))))
  have HB1:=hide hB1
  have HW1:=hide hW1
  clear hB1 hW1
  rw [hz1] at HSC
  go_enter Tryz.func44,Tryz.ntmps44
  go_wp2_with fail
  refine HSC.out.mono ?_
  rintro e w2 ⟨hp,hb2⟩
  have hB2:=HB1.out.trans (hb2.mono (by omega))
  have hR2:=(hb2.block w.heap.size (by omega)).trans HW1.out
  have hs2:=hb2.size
  rw [hz1] at hs2
  cases hlex:Hx.lex s.data.toList with
  | inl line =>
   rw [hlex] at hp
   have hp':e=.returned (.tuple #[.slice none 0 0,.agg (faultC 2 line)]):=hp
   subst hp'
   have HLX:=hide hlex
   have hX1:=heap_alloc_new w2 (.cells (faultC 2 line) 34)
   have hX0:=(((Below.refl w2.heap.size w2).alloc (Nat.le_refl _) (.cells (faultC 2 line) 34)).block w.heap.size (by omega)).trans hR2
   have hBX:=hB2.alloc (by omega) (.cells (faultC 2 line) 34)
   clear hp hb2 hB2 hR2 hlex
   unfold faultC at hX1 hX0 hBX ⊢
   go_wp2_with fail
   generalize w2.alloc (.cells #[.int .i64 2,.int .i64 line,.string ⟨#[]⟩,.slice none 0 0,.slice none 0 0] 34)=X at *
   obtain ⟨a0,a1,a2,a3,a4,_,_,_,_,_⟩:=fc_of (c:=2) (l:=line) hX1
   obtain ⟨y0,y1,y2,y3,y4,z0,z1,z2,z3,z4⟩:=fc_of (c:=0) (l:=0) hX0
   have HBX:Hid (Below w.heap.size w X.drew):=hide ⟨hBX.os,hBX.tape,hBX.output,hBX.size,hBX.block⟩
   clear hX0 hX1 hBX
   go_region
   all_goals
    go_wp2_with fail
    refine bodyPost_ret (v:=.tuple #[.pointer none,.agg #[.int .i64 2,.int .i64 line,.string ⟨#[]⟩,.slice none 0 0,.slice none 0 0]]) (by simp [results,Tryz.results44,go_sem, *]) rfl ?_
    exact ⟨fset_below HBX.out,.inl ⟨2,line,rfl,.inr ⟨by omega,.inl ⟨HLX.out,rfl⟩⟩,by decide⟩⟩
  | inr ts =>
   rw [hlex] at hp
   obtain ⟨v,rfl,hown⟩:=hp
   obtain ⟨hts,htok,h0,hpos,_⟩:=Hx.lex_ok s.data.toList (by simp;omega) ts hlex
   obtain ⟨gt,cap,rfl,hgb,hg,hm⟩:=toks_openA hown h0
   have hgtw:gt≠w.heap.size:=by omega
   have HLX:=hide hlex
   have HPOS:=hide hpos
   have hX1:=heap_alloc_new w2 (.cells (faultC 0 0) 34)
   have hBA:Below w2.heap.size w2 (w2.alloc (.cells (faultC 0 0) 34)):=(Below.refl _ _).alloc (Nat.le_refl _) _
   have hX0:=(hBA.block w.heap.size (by omega)).trans hR2
   have hBX:=hB2.alloc (by omega) (.cells (faultC 0 0) 34)
   have hmX:TokMemA (w2.alloc (.cells (faultC 0 0) 34)) gt ts:=fun i hi=>⟨(hBA.cell hg).trans (hm i hi).1,(hBA.cell hg).trans (hm i hi).2.1,(hBA.cell hg).trans (hm i hi).2.2.1,(hBA.cell hg).trans (hm i hi).2.2.2⟩
   have hgX:gt<(w2.alloc (.cells (faultC 0 0) 34)).heap.size:=Nat.lt_of_lt_of_le hg hBA.size
   have hzX:(w2.alloc (.cells (faultC 0 0) 34)).heap.size=w2.heap.size+1:=by simp
   have HPA:=hide (parse_any (w2.alloc (.cells (faultC 0 0) 34)) gt cap ts hmX hgX h0 hts)
   have hfew:=hts.few
   clear hown hlex hb2 hB2 hR2 hm htok hts hpos hBA
   rw [show (faultC 0 0:Array Value)=#[.int .i64 0,.int .i64 0,.string ⟨#[]⟩,.slice none 0 0,.slice none 0 0] from rfl] at *
   go_wp2_with fail
   generalize w2.alloc (.cells #[.int .i64 0,.int .i64 0,.string ⟨#[]⟩,.slice none 0 0,.slice none 0 0] 34)=X at *
   refine HPA.out.mono ?_
   rintro e w4 ⟨hb4,hcase⟩
   have hs4:=hb4.size
   have hF4:=(hb4.block w2.heap.size (by omega)).trans hX1
   have hR4:=(hb4.block w.heap.size (by omega)).trans hX0
   have hB4:=hBX.trans (hb4.mono (by omega))
   clear HPA hX1 hX0 hBX
   rcases hcase with ⟨line,rfl,hrun,t,ht,rfl⟩ | ⟨tb,vs,gs,vv,vm,rfl,hPT,hmA,hL,hrun,htd,hvl,hgl,n,hsen⟩
   ·have HRUN:=hide hrun
    have hl1:1≤t.line:=HPOS.out t ht
    have hY1:=fset_heap (c':=2) (l':=t.line) (c:=0) (l:=0) hF4
    have hkY:=fset_kp (Kp.refl (fun k=>k=w2.heap.size) w4) (.inl rfl) (.int .i64 2) (.int .i64 t.line) (.string ⟨#[]⟩) (.slice none 0 0) (.slice none 0 0)
    have hY0:=(hkY.block w.heap.size (by omega) (by omega)).trans hR4
    have hBY:Below w.heap.size w (fset w4 w2.heap.size (.int .i64 2) (.int .i64 t.line) (.string ⟨#[]⟩) (.slice none 0 0) (.slice none 0 0)):=hB4.trans (hkY.toBelow (fun k e=>by omega) (by omega))
    obtain ⟨y0,y1,y2,y3,y4,z0,z1,z2,z3,z4⟩:=fc_of (c:=0) (l:=0) hF4
    have HY1:=hide hY1
    have HY0:=hide hY0
    have HBY:=hide hBY
    clear hY1 hY0 hBY hkY hF4 hR4 hB4 hb4 hrun ht
    unfold faultC
    go_wp2_with fail
    show Code.wp _ _ _ _ (fset w4 w2.heap.size (.int .i64 2) (.int .i64 t.line) (.string ⟨#[]⟩) (.slice none 0 0) (.slice none 0 0))
    generalize fset w4 w2.heap.size (.int .i64 2) (.int .i64 t.line) (.string ⟨#[]⟩) (.slice none 0 0) (.slice none 0 0)=Y at *
    clear y0 y1 y2 y3 y4 z0 z1 z2 z3 z4
    obtain ⟨a0,a1,a2,a3,a4,_,_,_,_,_⟩:=fc_of (c:=2) (l:=t.line) HY1.out
    obtain ⟨y0,y1,y2,y3,y4,z0,z1,z2,z3,z4⟩:=fc_of (c:=0) (l:=0) HY0.out
    have HBD:Hid (Below w.heap.size w Y.drew):=hide ⟨HBY.out.os,HBY.out.tape,HBY.out.output,HBY.out.size,HBY.out.block⟩
    go_region
    all_goals
     go_wp2_with fail
     refine bodyPost_ret (v:=.tuple #[.pointer none,.agg #[.int .i64 2,.int .i64 t.line,.string ⟨#[]⟩,.slice none 0 0,.slice none 0 0]]) (by simp [results,Tryz.results44,go_sem, *]) rfl ?_
     exact ⟨fset_below HBD.out,.inl ⟨2,t.line,rfl,.inr ⟨by omega,.inr ⟨ts,HLX.out,.inl ⟨HRUN.out,hl1,rfl⟩⟩⟩,by decide⟩⟩
   ·obtain ⟨hEq,hAt,hRo⟩:=check_same vs gs hL
    have hsl:=senF_len n _ _ _ _ _ _ hsen
    have hsl1:=hsl.1
    have hsl2:=hsl.2
    rw [show Hx.St.zero.atoms.length=0 from rfl] at hsl1
    rw [show Hx.St.zero.rows=0 from rfl] at hsl2
    have HRUN:=hide hrun
    have HSEN:=hide hsen
    have hkY:=fset_kp (Kp.refl (fun k=>k=w2.heap.size) w4) (.inl rfl) (.int .i64 0) (.int .i64 0) (.string ⟨#[]⟩) (.slice none 0 0) (.slice none 0 0)
    have hY1:=fset_heap (c':=0) (l':=0) (c:=0) (l:=0) hF4
    have hY0:=(hkY.block w.heap.size (by omega) (by omega)).trans hR4
    have hBY:Below w.heap.size w (fset w4 w2.heap.size (.int .i64 0) (.int .i64 0) (.string ⟨#[]⟩) (.slice none 0 0) (.slice none 0 0)):=hB4.trans (hkY.toBelow (fun k e=>by omega) (by omega))
    have hPTY:=hPT.kept hkY (fun k hF e=>by omega)
    have htl:=hPT.cells.2.2.2.2.2.1
    have hgt4:gt<w4.heap.size:=by omega
    have hmY:TokMemA (fset w4 w2.heap.size (.int .i64 0) (.int .i64 0) (.string ⟨#[]⟩) (.slice none 0 0) (.slice none 0 0)) gt ts:=fun i hi=>⟨(hkY.cell hgt4 (by omega)).trans (hmA i hi).1,(hkY.cell hgt4 (by omega)).trans (hmA i hi).2.1,(hkY.cell hgt4 (by omega)).trans (hmA i hi).2.2.1,(hkY.cell hgt4 (by omega)).trans (hmA i hi).2.2.2⟩
    have CK:=check_any _ _ tb _ vv vm vs gs _ hPTY hL hvl hgl (by rw [hAt];omega) (by rw [hRo];omega)
    have HCK:=hide CK
    generalize ((varsS Hx.St.zero vs).modesS (gs.map (·.a)))=S at *
    obtain ⟨cc,ll,hc1,hc2,hc3,hc4⟩ : ∃ cc ll:Nat,(ckAll vs gs).cl.1=cc∧(ckAll vs gs).cl.2=ll∧(linkS S).code=cc∧(linkS S).line=ll:=⟨_,_,hEq.1.symm,hEq.2.symm,rfl,rfl⟩
    rw [hc1,hc2] at HCK
    have htb:=hPTY.cells.1
    have htl5:=hPTY.cells.2.2.2.2.2.1
    have hgt5:gt<(fset w4 w2.heap.size (.int .i64 0) (.int .i64 0) (.string ⟨#[]⟩) (.slice none 0 0) (.slice none 0 0)).heap.size:=Nat.lt_of_lt_of_le hgt4 hkY.size
    have hsY:=hkY.size
    have htF:w2.heap.size<tb:=by have:=hPTY.cells.2.2.2.2.2.2;omega
    obtain ⟨y0,y1,y2,y3,y4,z0,z1,z2,z3,z4⟩:=fc_of (c:=0) (l:=0) hF4
    have HY1:=hide hY1
    have HY0:=hide hY0
    have HBY:=hide hBY
    have HTB:=hide htb
    have HMY:=hide hmY
    have HC3:=hide hc3
    have HC1:=hide hc1
    have HPT:=hide hPTY
    have HLK:=hide hL
    have HTD:=hide htd
    have HC4:=hide hc4
    clear CK hEq hAt hRo hsl hrun hsen hkY hY1 hY0 hBY hPTY hPT hmA hmY htb hc1 hc2 hc3 hc4 hF4 hR4 hB4 hb4 hL htd
    unfold faultC ptrV
    go_wp2_with fail
    refine HCK.out.mono ?_
    generalize hYY:fset w4 w2.heap.size (.int .i64 0) (.int .i64 0) (.string ⟨#[]⟩) (.slice none 0 0) (.slice none 0 0)=Y at *
    rintro e w6 ⟨rfl,hb6⟩
    clear hYY HCK y0 y1 y2 y3 y4 z0 z1 z2 z3 z4
    have hs6:=hb6.size
    have hF6:=(hb6.block w2.heap.size (by omega)).trans HY1.out
    have hR6:=(hb6.block w.heap.size (by omega)).trans HY0.out
    have hB6:=HBY.out.trans (hb6.mono (by omega))
    have ht6:=(hb6.cell (p:=⟨tb,0,none⟩) htl5).trans HTB.out
    have hm6:TokMemA w6 gt ts:=fun i hi=>⟨(hb6.cell hgt5).trans (HMY.out i hi).1,(hb6.cell hgt5).trans (HMY.out i hi).2.1,(hb6.cell hgt5).trans (HMY.out i hi).2.2.1,(hb6.cell hgt5).trans (HMY.out i hi).2.2.2⟩
    have hP6:=HPT.out.below hb6
    have hkZ:=fset_kp (Kp.refl (fun k=>k=w2.heap.size) w6) (.inl rfl) (.int .i64 cc) (.int .i64 ll) (.string ⟨#[]⟩) (.slice none 0 0) (.slice none 0 0)
    have hZ1:=fset_heap (c':=cc) (l':=ll) (c:=0) (l:=0) hF6
    have hZ0:=(hkZ.block w.heap.size (by omega) (by omega)).trans hR6
    have hBZ:Below w.heap.size w (fset w6 w2.heap.size (.int .i64 cc) (.int .i64 ll) (.string ⟨#[]⟩) (.slice none 0 0) (.slice none 0 0)):=hB6.trans (hkZ.toBelow (fun k e=>by omega) (by omega))
    have htZ:=(hkZ.cell (b:=tb) (o:=0) (by omega) (by omega)).trans ht6
    have hgZ:gt≠w2.heap.size:=by omega
    have hmZ:TokMemA (fset w6 w2.heap.size (.int .i64 cc) (.int .i64 ll) (.string ⟨#[]⟩) (.slice none 0 0) (.slice none 0 0)) gt ts:=fun i hi=>⟨(hkZ.cell (by omega) hgZ).trans (hm6 i hi).1,(hkZ.cell (by omega) hgZ).trans (hm6 i hi).2.1,(hkZ.cell (by omega) hgZ).trans (hm6 i hi).2.2.1,(hkZ.cell (by omega) hgZ).trans (hm6 i hi).2.2.2⟩
    have hsZ:=hkZ.size
    have HPZ:=hide (hP6.kept hkZ (fun k hF e=>by omega))
    obtain ⟨y0,y1,y2,y3,y4,z0,z1,z2,z3,z4⟩:=fc_of (c:=0) (l:=0) hF6
    have HZ1:=hide hZ1
    have HZ0:=hide hZ0
    have HBZ:=hide hBZ
    have HTZ:=hide htZ
    have HMZ:=hide hmZ
    clear hb6 hP6 HPT hF6 hR6 hB6 ht6 hm6 hkZ hZ1 hZ0 hBZ htZ hmZ
    unfold faultC
    go_upto_region 10 with (fail)
    show Code.wp _ _ _ _ (fset w6 w2.heap.size (.int .i64 cc) (.int .i64 ll) (.string ⟨#[]⟩) (.slice none 0 0) (.slice none 0 0))
    generalize fset w6 w2.heap.size (.int .i64 cc) (.int .i64 ll) (.string ⟨#[]⟩) (.slice none 0 0) (.slice none 0 0)=Z at *
    clear y0 y1 y2 y3 y4 z0 z1 z2 z3 z4
    obtain ⟨a0,a1,a2,a3,a4,_,_,_,_,_⟩:=fc_of (c:=cc) (l:=ll) HZ1.out
    obtain ⟨y0,y1,y2,y3,y4,z0,z1,z2,z3,z4⟩:=fc_of (c:=0) (l:=0) HZ0.out
    by_cases hc0:cc=0
    ·have hcb:((cc:Int) != 0)=false:=by simp;omega
     have HTO:Hid (TableOf s ts):=hide ⟨by omega,HLX.out,HRUN.out,n,S,HSEN.out,by rw [HC3.out];exact hc0⟩
     have HCK0:Hid ((ckAll vs gs).cl.1=0):=hide (by rw [HC1.out,hc0];rfl)
     clear hc0
     go_wp2_with fail
     refine bodyPost_ret (v:=.tuple #[.pointer (some ⟨tb,0,none⟩),.agg #[.int .i64 0,.int .i64 0,.string ⟨#[]⟩,.slice none 0 0,.slice none 0 0]]) (by simp [results,Tryz.results44,go_sem, *]) rfl ?_
     have hkf:=fset_kp (Kp.refl (fun k=>k=w.heap.size) Z) (.inl rfl) (.int .i64 0) (.int .i64 0) (.string ⟨#[]⟩) (.slice none 0 0) (.slice none 0 0)
     refine ⟨fset_below HBZ.out,.inr ⟨tb,gt,cap,ts,rfl,(hkf.cell (b:=tb) (o:=0) (by omega) (by omega)).trans HTZ.out,fun i hi=>?_,Nat.lt_of_lt_of_le (by omega) hkf.size,HTO.out,_,_,_,_,vs,gs,(HPZ.out.kept hkf (fun k hF e=>by omega)).lt,HLK.out,HTD.out,HCK0.out,hvl,hgl⟩⟩
     have hgw:gt≠w.heap.size:=hgtw
     exact ⟨(hkf.cell (by omega) hgw).trans (HMZ.out i hi).1,(hkf.cell (by omega) hgw).trans (HMZ.out i hi).2.1,(hkf.cell (by omega) hgw).trans (HMZ.out i hi).2.2.1,(hkf.cell (by omega) hgw).trans (HMZ.out i hi).2.2.2⟩
    ·have hcb:((cc:Int) != 0)=true:=by simp;omega
     have HFO:Hid (FaultOf s cc ll):=hide (.inr ⟨by omega,.inr ⟨ts,HLX.out,.inr ⟨HRUN.out,n,S,HSEN.out,HC3.out,HC4.out,hc0⟩⟩⟩)
     have HC0:=hide hc0
     have HBD:Hid (Below w.heap.size w Z.drew):=hide ⟨HBZ.out.os,HBZ.out.tape,HBZ.out.output,HBZ.out.size,HBZ.out.block⟩
     clear hc0
     go_wp2_with fail
     go_region
     all_goals
      go_wp2_with fail
      refine bodyPost_ret (v:=.tuple #[.pointer none,.agg #[.int .i64 cc,.int .i64 ll,.string ⟨#[]⟩,.slice none 0 0,.slice none 0 0]]) (by simp [results,Tryz.results44,go_sem, *]) rfl ?_
      exact ⟨fset_below HBD.out,.inl ⟨cc,ll,rfl,HFO.out,HC0.out⟩⟩
end Go.Proofs.YtdjaiolfdbamcaaGreatDoor
