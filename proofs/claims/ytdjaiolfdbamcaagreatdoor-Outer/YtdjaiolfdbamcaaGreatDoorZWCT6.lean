/- Walks of the table's Question. -/
import Derived.Test.YtdjaiolfdbamcaaGreatDoorZWCT1
set_option maxRecDepth 20000
set_option maxHeartbeats 4000000
namespace Go.Proofs.YtdjaiolfdbamcaaGreatDoor
open Go.RowKit
attribute [local go_sem ↓] Go.wp_at_zero Go.wp_at_succ
def atomB (was:Bool) (nm op num:Hx.Tok):List Value:=.bool was::(tokV nm++tokV op++tokV num)
theorem questionEq_any (w:World) (va:VarA) (nb:Nat) (n:ByteArray) (hn:w.cell? ⟨nb,2,none⟩=some (.string n)) :
  Calls Tryz.prog 239 #[.agg (varC va).toArray,.pointer (some ⟨nb,0,none⟩)] w fun e w'=>e=.returned (.bool (sameV n va))∧Below w.heap.size w w':=by
 have hnl:nb<w.heap.size:=World.block_lt_of_cell? w ⟨nb,2,none⟩ hn
 rw [show (varC va).toArray=#[.int .i64 (kindA va.name.k),.string va.name.s,.int .i64 va.name.n,.int .i64 va.name.line,.int .i64 (kindA va.first.k),.string va.first.s,.int .i64 va.first.n,.int .i64 va.first.line,.int .i64 (kindA va.last.k),.string va.last.s,.int .i64 va.last.n,.int .i64 va.last.line] from rfl,sameV]
 go_enter Tryz.func239,Tryz.ntmps239
 go_wp2_with fail
 go_ret
 exact ⟨rfl,(Below.refl _ _).alloc (Nat.le_refl _) _⟩
theorem op_cases (o:List UInt8):((o == [61,61])=true∧(o == [33,61])=false∧(o == [60,61])=false∧(o == [62])=false∧(o == [62,61])=false)∨((o == [61,61])=false∧(o == [33,61])=true∧(o == [60,61])=false∧(o == [62])=false∧(o == [62,61])=false) ∨
  ((o == [61,61])=false∧(o == [33,61])=false∧(o == [60,61])=true∧(o == [62])=false∧(o == [62,61])=false)∨((o == [61,61])=false∧(o == [33,61])=false∧(o == [60,61])=false∧(o == [62])=true∧(o == [62,61])=false) ∨
  ((o == [61,61])=false∧(o == [33,61])=false∧(o == [60,61])=false∧(o == [62])=false∧(o == [62,61])=true)∨((o == [61,61])=false∧(o == [33,61])=false∧(o == [60,61])=false∧(o == [62])=false∧(o == [62,61])=false):=by
 by_cases h1:o=[61,61]
 ·subst h1;decide
 by_cases h2:o=[33,61]
 ·subst h2;decide
 by_cases h3:o=[60,61]
 ·subst h3;decide
 by_cases h4:o=[62]
 ·subst h4;decide
 by_cases h5:o=[62,61]
 ·subst h5;decide
 simp [h1,h2,h3,h4,h5]
def fq (w:World) (g:Nat) (c0 c1 c2 c3:Value):World:=(((w.setCell ⟨g,0,none⟩ c0).setCell ⟨g,1,none⟩ c1).setCell ⟨g,2,none⟩ c2).setCell ⟨g,3,none⟩ c3
theorem fq_heap {w:World} {g:Nat} {x0 x1 x2 x3 a b c d:Value} {T:TypeId} (h:w.heap[g]? = some (.cells #[x0,x1,x2,x3] T (0,0))):(fq w g a b c d).heap[g]? = some (.cells #[a,b,c,d] T (0,0)) :=
 set_heap (o:=3) (set_heap (o:=2) (set_heap (o:=1) (set_heap (o:=0) h)))
theorem fq_kp {F:Nat→Prop} {a w:World} {g:Nat} (h:Kp F a w) (hp:F g∨a.heap.size≤g) (c0 c1 c2 c3:Value):Kp F a (fq w g c0 c1 c2 c3) :=
 (((h.setCell (p:=⟨g,0,none⟩) hp c0).setCell (p:=⟨g,1,none⟩) hp c1).setCell (p:=⟨g,2,none⟩) hp c2).setCell (p:=⟨g,3,none⟩) hp c3
theorem fq_ends {w w2 X:World} {B R Q:Nat} {x0 x1 x2 x3 a b c d:Value} {T:TypeId} (hB:Below B w w2) (hR:w2.heap[R]? = some (.cells #[x0,x1,x2,x3] T (0,0))) (hk:Kp (fun k=>k=Q) w2 X) (hRQ:R≠Q) (hBR:B≤R) (hBQ:B≤Q) (hs:B≤w2.heap.size) :
  (fq X R a b c d).heap[R]? = some (.cells #[a,b,c,d] T (0,0))∧Below B w (fq X R a b c d):=by
 have hl:=(Array.getElem?_eq_some_iff.1 hR).1
 refine ⟨fq_heap ((hk.block R hl hRQ).trans hR),hB.trans ((fq_kp (F:=fun k=>B≤k) (hk.mono (fun k _ e=>by omega)) (.inl hBR) a b c d).toBelow (fun _ h=>h) hs)⟩
theorem three_boxes (w:World) (a b c:Array Value) (T1 T2 T3:TypeId):(((w.alloc (.cells a T1)).alloc (.cells b T2)).alloc (.cells c T3)).heap.size=w.heap.size+3∧(((w.alloc (.cells a T1)).alloc (.cells b T2)).alloc (.cells c T3)).heap[w.heap.size]? = some (.cells a T1 (0,0)) ∧
  (((w.alloc (.cells a T1)).alloc (.cells b T2)).alloc (.cells c T3)).heap[w.heap.size+1]? = some (.cells b T2 (0,0))∧(((w.alloc (.cells a T1)).alloc (.cells b T2)).alloc (.cells c T3)).heap[w.heap.size+1+1]? = some (.cells c T3 (0,0))∧Below w.heap.size w (((w.alloc (.cells a T1)).alloc (.cells b T2)).alloc (.cells c T3)):=by
 have h3:=heap_alloc_new ((w.alloc (.cells a T1)).alloc (.cells b T2)) (.cells c T3)
 have h2:=heap_alloc_new (w.alloc (.cells a T1)) (.cells b T2)
 have h1:=heap_alloc_new w (.cells a T1)
 have B2:Below (w.alloc (.cells a T1)).heap.size (w.alloc (.cells a T1)) ((w.alloc (.cells a T1)).alloc (.cells b T2)):=(Below.refl _ _).alloc (Nat.le_refl _) _
 have B3:Below ((w.alloc (.cells a T1)).alloc (.cells b T2)).heap.size ((w.alloc (.cells a T1)).alloc (.cells b T2)) (((w.alloc (.cells a T1)).alloc (.cells b T2)).alloc (.cells c T3)):=(Below.refl _ _).alloc (Nat.le_refl _) _
 refine ⟨by simp,?_,?_,by simpa using h3,(((Below.refl _ _).alloc (Nat.le_refl _) _).alloc (by simp) _).alloc (by simp;omega) _⟩
 ·exact ((B3.block _ (by simp;omega)).trans (B2.block _ (by simp))).trans h1
 ·exact (B3.block _ (by simp)).trans (by simpa using h2)
theorem Question_any (w:World) (base tb:Nat) (vt vv vm:Value) (vs:List VarA) (gs:List MG) (F:Nat→Prop) (hT:PT w base tb vt vs gs F vv vm) (hvl:vs.length≤3001) (was:Bool) (nm op num:Hx.Tok) (hany:vs.any (sameV nm.s)=true) (hnum : -9999≤num.n∧num.n≤9999) :
  Calls Tryz.prog 214 #[.pointer (some ⟨tb,0,none⟩),.agg (atomB was nm op num).toArray] w fun e w'=>e=.returned (qV (Cx.qOf vs was nm op num).which (Cx.qOf vs was nm op num).same (Cx.qOf vs was nm op num).num (Cx.qOf vs was nm op num).turned)∧Below w.heap.size w w':=by
 obtain ⟨av,cv,hvv,_,_⟩:=row_shape (hT.mem.own 1 _ rfl)
 simp only at hvv
 subst hvv
 have HT:=hide hT
 obtain ⟨_,x1,_,_,_,htl,_⟩:=hT.cells
 obtain ⟨hk,hfirst⟩:=first_findIdx vs (sameV nm.s) (fun k=>vs.getD k ⟨nm,nm,nm⟩ |> sameV nm.s) (fun k hk=>by simp [hk]) hany
 have hvi:Cx.varIx vs nm.s=vs.findIdx (sameV nm.s):=rfl
 have hq:Cx.qOf vs was nm op num=⟨vs.findIdx (sameV nm.s)+(if was then 0 else vs.length),Cx.opIs op.s [61,61] || Cx.opIs op.s [33,61],(if Cx.opIs op.s [60,61] || Cx.opIs op.s [62] then num.n+1 else num.n),Cx.opIs op.s [33,61] || Cx.opIs op.s [62,61] || Cx.opIs op.s [62]⟩:=rfl
 rw [hq]
 clear hq hvi
 simp only
 obtain ⟨hz,hA,hR,hQ,hB⟩:=three_boxes w (atomB was nm op num).toArray #[.int .i64 0,.bool false,.int .i64 0,.bool false] #[.int .i64 0,.bool false,.int .i64 num.n,.bool false] 307 314 314
 obtain ⟨W,hW⟩ : ∃ W,W=((w.alloc (.cells (atomB was nm op num).toArray 307)).alloc (.cells #[.int .i64 0,.bool false,.int .i64 0,.bool false] 314)).alloc (.cells #[.int .i64 0,.bool false,.int .i64 num.n,.bool false] 314):=⟨_,rfl⟩
 rw [← hW] at hz hA hR hQ hB
 have CK:Hid (Calls Tryz.prog 224 #[.slice av vs.length cv,.func (.func 239) #[] #[.pointer (some ⟨w.heap.size,0,none⟩)]] W fun e w'=>e=.returned (.int .i64 (vs.findIdx (sameV nm.s):Nat))∧Below W.heap.size W w'):=hide (by
  obtain ⟨gv,capv,_,e,hgl,hcc⟩:=(HT.out.below hB).vsl.resolve_left (fun h=>by omega)
  cases e
  have hgv:=hgl (by omega)
  have:=indexV_question (.pointer (some ⟨w.heap.size,0,none⟩)) (fun k=>vs.getD k ⟨nm,nm,nm⟩ |> sameV nm.s) vs W gv cv (fun _=>hgv) (fun k hk=>hcc k hk) hvl (fun k hk Y hY=>by
   have e2:vs.getD k ⟨nm,nm,nm⟩=vs[k]:=by simp [hk]
   rw [e2]
   exact questionEq_any Y _ _ _ ((hY.cell (p:=⟨w.heap.size,2,none⟩) (show w.heap.size<W.heap.size by omega)).trans (Lib.cell_of_heap hA 2)))
  refine this.mono ?_
  rintro e w' ⟨r,rfl,hr,hb'⟩
  rw [hfirst r hr]
  exact ⟨rfl,hb'⟩)
 have HA:=hide hA
 have HR:=hide hR
 have HQ:=hide hQ
 have HB:=hide hB
 have y1:=(hB.cell (p:=⟨tb,1,none⟩) htl).trans x1
 have HX1:=hide y1
 generalize vs.findIdx (sameV nm.s)=k0 at *
 unfold Cx.opIs
 generalize hsm:(op.s.toList == [61,61] || op.s.toList == [33,61])=sm
 generalize hnn:(if (op.s.toList == [60,61] || op.s.toList == [62])=true then num.n+1 else num.n)=nn
 generalize htn:(op.s.toList == [33,61] || op.s.toList == [62,61] || op.s.toList == [62])=tn
 generalize hwh:k0+(if was=true then 0 else vs.length)=wh
 have HSM:=hide hsm
 have HNN:=hide hnn
 have HTN:=hide htn
 have HWH:=hide hwh
 clear hsm hnn htn hwh
 clear hA hR hQ hfirst hany hT hB x1
 unfold atomB tokV at hW
 simp only [List.cons_append,List.nil_append] at hW
 rw [show (atomB was nm op num).toArray=#[.bool was,.int .i64 (kindA nm.k),.string nm.s,.int .i64 nm.n,.int .i64 nm.line,.int .i64 (kindA op.k),.string op.s,.int .i64 op.n,.int .i64 op.line,.int .i64 (kindA num.k),.string num.s,.int .i64 num.n,.int .i64 num.line] from rfl]
 go_enter Tryz.func214,Tryz.ntmps214
 go_upto_region 2 with (fail)
 rw [← hW]
 clear hW
 go_wp2_with fail
 refine CK.out.mono ?_
 rintro e w2 ⟨rfl,hb2⟩
 have hs2:=hb2.size
 have HA2:=hide ((hb2.block w.heap.size (by omega)).trans HA.out)
 have HR2:=hide ((hb2.block (w.heap.size+1) (by omega)).trans HR.out)
 have HQ2:=hide ((hb2.block (w.heap.size+1+1) (by omega)).trans HQ.out)
 have HB2:=hide (HB.out.trans (hb2.mono (by omega)))
 have x1:=(hb2.cell (p:=⟨tb,1,none⟩) (show tb<W.heap.size by omega)).trans HX1.out
 have htw:¬ tb=w.heap.size+1+1:=by omega
 have a0:w2.cell? ⟨w.heap.size,0,none⟩=some (.bool was):=Lib.cell_of_heap HA2.out 0
 have a6:w2.cell? ⟨w.heap.size,6,none⟩=some (.string op.s):=Lib.cell_of_heap HA2.out 6
 have q0:w2.cell? ⟨w.heap.size+1+1,0,none⟩=some (.int .i64 0):=Lib.cell_of_heap HQ2.out 0
 have q1:w2.cell? ⟨w.heap.size+1+1,1,none⟩=some (.bool false):=Lib.cell_of_heap HQ2.out 1
 have q2:w2.cell? ⟨w.heap.size+1+1,2,none⟩=some (.int .i64 num.n):=Lib.cell_of_heap HQ2.out 2
 have q3:w2.cell? ⟨w.heap.size+1+1,3,none⟩=some (.bool false):=Lib.cell_of_heap HQ2.out 3
 have g0:∀ j,w2.frozen? ⟨w.heap.size+1+1,j,none⟩=false:=fun j=>Lib.frozen_of_heap HQ2.out j
 have r0:w2.cell? ⟨w.heap.size+1,0,none⟩=some (.int .i64 0):=Lib.cell_of_heap HR2.out 0
 have r1:w2.cell? ⟨w.heap.size+1,1,none⟩=some (.bool false):=Lib.cell_of_heap HR2.out 1
 have r2:w2.cell? ⟨w.heap.size+1,2,none⟩=some (.int .i64 0):=Lib.cell_of_heap HR2.out 2
 have r3:w2.cell? ⟨w.heap.size+1,3,none⟩=some (.bool false):=Lib.cell_of_heap HR2.out 3
 have h0:∀ j,w2.frozen? ⟨w.heap.size+1,j,none⟩=false:=fun j=>Lib.frozen_of_heap HR2.out j
 clear hb2
 have hk1:(k0:Int)<vs.length:=by omega
 have hn1:=hnum.1
 have hn2:=hnum.2
 cases was with
 | true =>
  have hK3:Kp (fun k=>k=w.heap.size+1+1) w2 ((w2.setCell ⟨w.heap.size+1+1,0,none⟩ (.int .i64 (k0:Int)))):=((Kp.refl (fun k=>k=w.heap.size+1+1) w2).setCell (p:=⟨w.heap.size+1+1,0,none⟩) (.inl rfl) (.int .i64 (k0:Int)))
  have HQ3:Hid (((w2.setCell ⟨w.heap.size+1+1,0,none⟩ (.int .i64 (k0:Int)))).heap[w.heap.size+1+1]? = some (.cells #[.int .i64 (k0:Int),.bool false,.int .i64 num.n,.bool false] 314 (0,0))):=hide (set_heap (o:=0) HQ2.out)
  have HA3:=hide ((hK3.block (w.heap.size) (by omega) (by omega)).trans HA2.out)
  have HR3:=hide ((hK3.block (w.heap.size+1) (by omega) (by omega)).trans HR2.out)
  have HB3:=hide (HB2.out.trans (hK3.toBelow (B:=w.heap.size) (fun k e=>by omega) (by omega)))
  have hs3:=hK3.size
  clear hK3
  go_upto_region 5 with (fail)
  show Code.wp _ _ _ _ ((w2.setCell ⟨w.heap.size+1+1,0,none⟩ (.int .i64 (k0:Int))))
  clear q0 q1 q2 q3 g0 r0 r1 r2 r3 h0 a0 a6 x1
  generalize (w2.setCell ⟨w.heap.size+1+1,0,none⟩ (.int .i64 (k0:Int)))=w3 at *
  have a6:w3.cell? ⟨w.heap.size,6,none⟩=some (.string op.s):=Lib.cell_of_heap HA3.out 6
  have q0:w3.cell? ⟨w.heap.size+1+1,0,none⟩=some (.int .i64 (k0:Int)):=Lib.cell_of_heap HQ3.out 0
  have q1:w3.cell? ⟨w.heap.size+1+1,1,none⟩=some (.bool false):=Lib.cell_of_heap HQ3.out 1
  have q2:w3.cell? ⟨w.heap.size+1+1,2,none⟩=some (.int .i64 num.n):=Lib.cell_of_heap HQ3.out 2
  have q3:w3.cell? ⟨w.heap.size+1+1,3,none⟩=some (.bool false):=Lib.cell_of_heap HQ3.out 3
  have g0:∀ j,w3.frozen? ⟨w.heap.size+1+1,j,none⟩=false:=fun j=>Lib.frozen_of_heap HQ3.out j
  have r0:w3.cell? ⟨w.heap.size+1,0,none⟩=some (.int .i64 0):=Lib.cell_of_heap HR3.out 0
  have r1:w3.cell? ⟨w.heap.size+1,1,none⟩=some (.bool false):=Lib.cell_of_heap HR3.out 1
  have r2:w3.cell? ⟨w.heap.size+1,2,none⟩=some (.int .i64 0):=Lib.cell_of_heap HR3.out 2
  have r3:w3.cell? ⟨w.heap.size+1,3,none⟩=some (.bool false):=Lib.cell_of_heap HR3.out 3
  have h0:∀ j,w3.frozen? ⟨w.heap.size+1,j,none⟩=false:=fun j=>Lib.frozen_of_heap HR3.out j
  rcases op_cases op.s.toList with ⟨e1,e2,e3,e4,e5⟩ | ⟨e1,e2,e3,e4,e5⟩ | ⟨e1,e2,e3,e4,e5⟩ | ⟨e1,e2,e3,e4,e5⟩ | ⟨e1,e2,e3,e4,e5⟩ | ⟨e1,e2,e3,e4,e5⟩
  ·have HE:Hid (Ending.returned (.agg #[.int .i64 (k0:Int),.bool true,.int .i64 (num.n),.bool false])=.returned (qV wh sm nn tn)):=hide (by rw [← HSM.out,← HNN.out,← HTN.out,← HWH.out,e1,e2,e3,e4,e5];rfl)
   have hK:Kp (fun k=>k=w.heap.size+1+1) w3 (w3.setCell ⟨w.heap.size+1+1,1,none⟩ (.bool true)):=((Kp.refl (fun k=>k=w.heap.size+1+1) w3).setCell (p:=⟨w.heap.size+1+1,1,none⟩) (.inl rfl) (.bool true))
   obtain ⟨hY,hBY⟩:=fq_ends (a:=.int .i64 (k0:Int)) (b:=.bool true) (c:=.int .i64 (num.n)) (d:=.bool false) HB3.out HR3.out hK (by omega) (by omega) (by omega) (by omega)
   have HY:=hide hY
   have HBY:=hide hBY
   clear hK hY hBY
   go_wp2_with fail
   show bodyPost _ _ _ _ _ (fq (w3.setCell ⟨w.heap.size+1+1,1,none⟩ (.bool true)) (w.heap.size+1) (.int .i64 (k0:Int)) (.bool true) (.int .i64 (num.n)) (.bool false))
   generalize fq (w3.setCell ⟨w.heap.size+1+1,1,none⟩ (.bool true)) (w.heap.size+1) (.int .i64 (k0:Int)) (.bool true) (.int .i64 (num.n)) (.bool false)=Y at *
   clear q0 q1 q2 q3 g0 r0 r1 r2 r3 h0 a6 e1 e2 e3 e4 e5
   have y0:Y.cell? ⟨w.heap.size+1,0,none⟩=some (.int .i64 (k0:Int)):=Lib.cell_of_heap HY.out 0
   have y1:Y.cell? ⟨w.heap.size+1,1,none⟩=some (.bool true):=Lib.cell_of_heap HY.out 1
   have y2:Y.cell? ⟨w.heap.size+1,2,none⟩=some (.int .i64 (num.n)):=Lib.cell_of_heap HY.out 2
   have y3:Y.cell? ⟨w.heap.size+1,3,none⟩=some (.bool false):=Lib.cell_of_heap HY.out 3
   refine bodyPost_ret (v:=.agg #[.int .i64 (k0:Int),.bool true,.int .i64 (num.n),.bool false]) (by simp [results,Tryz.results214,go_sem,y0,y1,y2,y3]) rfl ?_
   exact ⟨HE.out,HBY.out⟩
  ·have HE:Hid (Ending.returned (.agg #[.int .i64 (k0:Int),.bool true,.int .i64 (num.n),.bool true])=.returned (qV wh sm nn tn)):=hide (by rw [← HSM.out,← HNN.out,← HTN.out,← HWH.out,e1,e2,e3,e4,e5];rfl)
   have hK:Kp (fun k=>k=w.heap.size+1+1) w3 ((w3.setCell ⟨w.heap.size+1+1,1,none⟩ (.bool true)).setCell ⟨w.heap.size+1+1,3,none⟩ (.bool true)):=(((Kp.refl (fun k=>k=w.heap.size+1+1) w3).setCell (p:=⟨w.heap.size+1+1,1,none⟩) (.inl rfl) (.bool true)).setCell (p:=⟨w.heap.size+1+1,3,none⟩) (.inl rfl) (.bool true))
   obtain ⟨hY,hBY⟩:=fq_ends (a:=.int .i64 (k0:Int)) (b:=.bool true) (c:=.int .i64 (num.n)) (d:=.bool true) HB3.out HR3.out hK (by omega) (by omega) (by omega) (by omega)
   have HY:=hide hY
   have HBY:=hide hBY
   clear hK hY hBY
   go_wp2_with fail
   show bodyPost _ _ _ _ _ (fq ((w3.setCell ⟨w.heap.size+1+1,1,none⟩ (.bool true)).setCell ⟨w.heap.size+1+1,3,none⟩ (.bool true)) (w.heap.size+1) (.int .i64 (k0:Int)) (.bool true) (.int .i64 (num.n)) (.bool true))
   generalize fq ((w3.setCell ⟨w.heap.size+1+1,1,none⟩ (.bool true)).setCell ⟨w.heap.size+1+1,3,none⟩ (.bool true)) (w.heap.size+1) (.int .i64 (k0:Int)) (.bool true) (.int .i64 (num.n)) (.bool true)=Y at *
   clear q0 q1 q2 q3 g0 r0 r1 r2 r3 h0 a6 e1 e2 e3 e4 e5
   have y0:Y.cell? ⟨w.heap.size+1,0,none⟩=some (.int .i64 (k0:Int)):=Lib.cell_of_heap HY.out 0
   have y1:Y.cell? ⟨w.heap.size+1,1,none⟩=some (.bool true):=Lib.cell_of_heap HY.out 1
   have y2:Y.cell? ⟨w.heap.size+1,2,none⟩=some (.int .i64 (num.n)):=Lib.cell_of_heap HY.out 2
   have y3:Y.cell? ⟨w.heap.size+1,3,none⟩=some (.bool true):=Lib.cell_of_heap HY.out 3
   refine bodyPost_ret (v:=.agg #[.int .i64 (k0:Int),.bool true,.int .i64 (num.n),.bool true]) (by simp [results,Tryz.results214,go_sem,y0,y1,y2,y3]) rfl ?_
   exact ⟨HE.out,HBY.out⟩
  ·have HE:Hid (Ending.returned (.agg #[.int .i64 (k0:Int),.bool false,.int .i64 (num.n+1),.bool false])=.returned (qV wh sm nn tn)):=hide (by rw [← HSM.out,← HNN.out,← HTN.out,← HWH.out,e1,e2,e3,e4,e5];rfl)
   have hK:Kp (fun k=>k=w.heap.size+1+1) w3 (w3.setCell ⟨w.heap.size+1+1,2,none⟩ (.int .i64 (num.n+1))):=((Kp.refl (fun k=>k=w.heap.size+1+1) w3).setCell (p:=⟨w.heap.size+1+1,2,none⟩) (.inl rfl) (.int .i64 (num.n+1)))
   obtain ⟨hY,hBY⟩:=fq_ends (a:=.int .i64 (k0:Int)) (b:=.bool false) (c:=.int .i64 (num.n+1)) (d:=.bool false) HB3.out HR3.out hK (by omega) (by omega) (by omega) (by omega)
   have HY:=hide hY
   have HBY:=hide hBY
   clear hK hY hBY
   go_wp2_with fail
   show bodyPost _ _ _ _ _ (fq (w3.setCell ⟨w.heap.size+1+1,2,none⟩ (.int .i64 (num.n+1))) (w.heap.size+1) (.int .i64 (k0:Int)) (.bool false) (.int .i64 (num.n+1)) (.bool false))
   generalize fq (w3.setCell ⟨w.heap.size+1+1,2,none⟩ (.int .i64 (num.n+1))) (w.heap.size+1) (.int .i64 (k0:Int)) (.bool false) (.int .i64 (num.n+1)) (.bool false)=Y at *
   clear q0 q1 q2 q3 g0 r0 r1 r2 r3 h0 a6 e1 e2 e3 e4 e5
   have y0:Y.cell? ⟨w.heap.size+1,0,none⟩=some (.int .i64 (k0:Int)):=Lib.cell_of_heap HY.out 0
   have y1:Y.cell? ⟨w.heap.size+1,1,none⟩=some (.bool false):=Lib.cell_of_heap HY.out 1
   have y2:Y.cell? ⟨w.heap.size+1,2,none⟩=some (.int .i64 (num.n+1)):=Lib.cell_of_heap HY.out 2
   have y3:Y.cell? ⟨w.heap.size+1,3,none⟩=some (.bool false):=Lib.cell_of_heap HY.out 3
   refine bodyPost_ret (v:=.agg #[.int .i64 (k0:Int),.bool false,.int .i64 (num.n+1),.bool false]) (by simp [results,Tryz.results214,go_sem,y0,y1,y2,y3]) rfl ?_
   exact ⟨HE.out,HBY.out⟩
  ·have HE:Hid (Ending.returned (.agg #[.int .i64 (k0:Int),.bool false,.int .i64 (num.n+1),.bool true])=.returned (qV wh sm nn tn)):=hide (by rw [← HSM.out,← HNN.out,← HTN.out,← HWH.out,e1,e2,e3,e4,e5];rfl)
   have hK:Kp (fun k=>k=w.heap.size+1+1) w3 ((w3.setCell ⟨w.heap.size+1+1,2,none⟩ (.int .i64 (num.n+1))).setCell ⟨w.heap.size+1+1,3,none⟩ (.bool true)):=(((Kp.refl (fun k=>k=w.heap.size+1+1) w3).setCell (p:=⟨w.heap.size+1+1,2,none⟩) (.inl rfl) (.int .i64 (num.n+1))).setCell (p:=⟨w.heap.size+1+1,3,none⟩) (.inl rfl) (.bool true))
   obtain ⟨hY,hBY⟩:=fq_ends (a:=.int .i64 (k0:Int)) (b:=.bool false) (c:=.int .i64 (num.n+1)) (d:=.bool true) HB3.out HR3.out hK (by omega) (by omega) (by omega) (by omega)
   have HY:=hide hY
   have HBY:=hide hBY
   clear hK hY hBY
   go_wp2_with fail
   show bodyPost _ _ _ _ _ (fq ((w3.setCell ⟨w.heap.size+1+1,2,none⟩ (.int .i64 (num.n+1))).setCell ⟨w.heap.size+1+1,3,none⟩ (.bool true)) (w.heap.size+1) (.int .i64 (k0:Int)) (.bool false) (.int .i64 (num.n+1)) (.bool true))
   generalize fq ((w3.setCell ⟨w.heap.size+1+1,2,none⟩ (.int .i64 (num.n+1))).setCell ⟨w.heap.size+1+1,3,none⟩ (.bool true)) (w.heap.size+1) (.int .i64 (k0:Int)) (.bool false) (.int .i64 (num.n+1)) (.bool true)=Y at *
   clear q0 q1 q2 q3 g0 r0 r1 r2 r3 h0 a6 e1 e2 e3 e4 e5
   have y0:Y.cell? ⟨w.heap.size+1,0,none⟩=some (.int .i64 (k0:Int)):=Lib.cell_of_heap HY.out 0
   have y1:Y.cell? ⟨w.heap.size+1,1,none⟩=some (.bool false):=Lib.cell_of_heap HY.out 1
   have y2:Y.cell? ⟨w.heap.size+1,2,none⟩=some (.int .i64 (num.n+1)):=Lib.cell_of_heap HY.out 2
   have y3:Y.cell? ⟨w.heap.size+1,3,none⟩=some (.bool true):=Lib.cell_of_heap HY.out 3
   refine bodyPost_ret (v:=.agg #[.int .i64 (k0:Int),.bool false,.int .i64 (num.n+1),.bool true]) (by simp [results,Tryz.results214,go_sem,y0,y1,y2,y3]) rfl ?_
   exact ⟨HE.out,HBY.out⟩
  ·have HE:Hid (Ending.returned (.agg #[.int .i64 (k0:Int),.bool false,.int .i64 (num.n),.bool true])=.returned (qV wh sm nn tn)):=hide (by rw [← HSM.out,← HNN.out,← HTN.out,← HWH.out,e1,e2,e3,e4,e5];rfl)
   have hK:Kp (fun k=>k=w.heap.size+1+1) w3 (w3.setCell ⟨w.heap.size+1+1,3,none⟩ (.bool true)):=((Kp.refl (fun k=>k=w.heap.size+1+1) w3).setCell (p:=⟨w.heap.size+1+1,3,none⟩) (.inl rfl) (.bool true))
   obtain ⟨hY,hBY⟩:=fq_ends (a:=.int .i64 (k0:Int)) (b:=.bool false) (c:=.int .i64 (num.n)) (d:=.bool true) HB3.out HR3.out hK (by omega) (by omega) (by omega) (by omega)
   have HY:=hide hY
   have HBY:=hide hBY
   clear hK hY hBY
   go_wp2_with fail
   show bodyPost _ _ _ _ _ (fq (w3.setCell ⟨w.heap.size+1+1,3,none⟩ (.bool true)) (w.heap.size+1) (.int .i64 (k0:Int)) (.bool false) (.int .i64 (num.n)) (.bool true))
   generalize fq (w3.setCell ⟨w.heap.size+1+1,3,none⟩ (.bool true)) (w.heap.size+1) (.int .i64 (k0:Int)) (.bool false) (.int .i64 (num.n)) (.bool true)=Y at *
   clear q0 q1 q2 q3 g0 r0 r1 r2 r3 h0 a6 e1 e2 e3 e4 e5
   have y0:Y.cell? ⟨w.heap.size+1,0,none⟩=some (.int .i64 (k0:Int)):=Lib.cell_of_heap HY.out 0
   have y1:Y.cell? ⟨w.heap.size+1,1,none⟩=some (.bool false):=Lib.cell_of_heap HY.out 1
   have y2:Y.cell? ⟨w.heap.size+1,2,none⟩=some (.int .i64 (num.n)):=Lib.cell_of_heap HY.out 2
   have y3:Y.cell? ⟨w.heap.size+1,3,none⟩=some (.bool true):=Lib.cell_of_heap HY.out 3
   refine bodyPost_ret (v:=.agg #[.int .i64 (k0:Int),.bool false,.int .i64 (num.n),.bool true]) (by simp [results,Tryz.results214,go_sem,y0,y1,y2,y3]) rfl ?_
   exact ⟨HE.out,HBY.out⟩
  ·have HE:Hid (Ending.returned (.agg #[.int .i64 (k0:Int),.bool false,.int .i64 (num.n),.bool false])=.returned (qV wh sm nn tn)):=hide (by rw [← HSM.out,← HNN.out,← HTN.out,← HWH.out,e1,e2,e3,e4,e5];rfl)
   have hK:Kp (fun k=>k=w.heap.size+1+1) w3 w3:=(Kp.refl (fun k=>k=w.heap.size+1+1) w3)
   obtain ⟨hY,hBY⟩:=fq_ends (a:=.int .i64 (k0:Int)) (b:=.bool false) (c:=.int .i64 (num.n)) (d:=.bool false) HB3.out HR3.out hK (by omega) (by omega) (by omega) (by omega)
   have HY:=hide hY
   have HBY:=hide hBY
   clear hK hY hBY
   go_wp2_with fail
   show bodyPost _ _ _ _ _ (fq w3 (w.heap.size+1) (.int .i64 (k0:Int)) (.bool false) (.int .i64 (num.n)) (.bool false))
   generalize fq w3 (w.heap.size+1) (.int .i64 (k0:Int)) (.bool false) (.int .i64 (num.n)) (.bool false)=Y at *
   clear q0 q1 q2 q3 g0 r0 r1 r2 r3 h0 a6 e1 e2 e3 e4 e5
   have y0:Y.cell? ⟨w.heap.size+1,0,none⟩=some (.int .i64 (k0:Int)):=Lib.cell_of_heap HY.out 0
   have y1:Y.cell? ⟨w.heap.size+1,1,none⟩=some (.bool false):=Lib.cell_of_heap HY.out 1
   have y2:Y.cell? ⟨w.heap.size+1,2,none⟩=some (.int .i64 (num.n)):=Lib.cell_of_heap HY.out 2
   have y3:Y.cell? ⟨w.heap.size+1,3,none⟩=some (.bool false):=Lib.cell_of_heap HY.out 3
   refine bodyPost_ret (v:=.agg #[.int .i64 (k0:Int),.bool false,.int .i64 (num.n),.bool false]) (by simp [results,Tryz.results214,go_sem,y0,y1,y2,y3]) rfl ?_
   exact ⟨HE.out,HBY.out⟩
 | false =>
  have hK3:Kp (fun k=>k=w.heap.size+1+1) w2 (((w2.setCell ⟨w.heap.size+1+1,0,none⟩ (.int .i64 (k0:Int))).setCell ⟨w.heap.size+1+1,0,none⟩ (.int .i64 ((k0:Int)+(vs.length:Int)))).drew):=(((Kp.refl (fun k=>k=w.heap.size+1+1) w2).setCell (p:=⟨w.heap.size+1+1,0,none⟩) (.inl rfl) (.int .i64 (k0:Int))).setCell (p:=⟨w.heap.size+1+1,0,none⟩) (.inl rfl) (.int .i64 ((k0:Int)+(vs.length:Int)))).drew
  have HQ3:Hid ((((w2.setCell ⟨w.heap.size+1+1,0,none⟩ (.int .i64 (k0:Int))).setCell ⟨w.heap.size+1+1,0,none⟩ (.int .i64 ((k0:Int)+(vs.length:Int)))).drew).heap[w.heap.size+1+1]? = some (.cells #[.int .i64 ((k0:Int)+(vs.length:Int)),.bool false,.int .i64 num.n,.bool false] 314 (0,0))):=hide (set_heap (o:=0) (set_heap (o:=0) HQ2.out))
  have HA3:=hide ((hK3.block (w.heap.size) (by omega) (by omega)).trans HA2.out)
  have HR3:=hide ((hK3.block (w.heap.size+1) (by omega) (by omega)).trans HR2.out)
  have HB3:=hide (HB2.out.trans (hK3.toBelow (B:=w.heap.size) (fun k e=>by omega) (by omega)))
  have hs3:=hK3.size
  clear hK3
  go_upto_region 4 with (fail)
  go_region
  go_upto_region 5 with (fail)
  show Code.wp _ _ _ _ (((w2.setCell ⟨w.heap.size+1+1,0,none⟩ (.int .i64 (k0:Int))).setCell ⟨w.heap.size+1+1,0,none⟩ (.int .i64 ((k0:Int)+(vs.length:Int)))).drew)
  clear q0 q1 q2 q3 g0 r0 r1 r2 r3 h0 a0 a6 x1
  generalize ((w2.setCell ⟨w.heap.size+1+1,0,none⟩ (.int .i64 (k0:Int))).setCell ⟨w.heap.size+1+1,0,none⟩ (.int .i64 ((k0:Int)+(vs.length:Int)))).drew=w3 at *
  have a6:w3.cell? ⟨w.heap.size,6,none⟩=some (.string op.s):=Lib.cell_of_heap HA3.out 6
  have q0:w3.cell? ⟨w.heap.size+1+1,0,none⟩=some (.int .i64 ((k0:Int)+(vs.length:Int))):=Lib.cell_of_heap HQ3.out 0
  have q1:w3.cell? ⟨w.heap.size+1+1,1,none⟩=some (.bool false):=Lib.cell_of_heap HQ3.out 1
  have q2:w3.cell? ⟨w.heap.size+1+1,2,none⟩=some (.int .i64 num.n):=Lib.cell_of_heap HQ3.out 2
  have q3:w3.cell? ⟨w.heap.size+1+1,3,none⟩=some (.bool false):=Lib.cell_of_heap HQ3.out 3
  have g0:∀ j,w3.frozen? ⟨w.heap.size+1+1,j,none⟩=false:=fun j=>Lib.frozen_of_heap HQ3.out j
  have r0:w3.cell? ⟨w.heap.size+1,0,none⟩=some (.int .i64 0):=Lib.cell_of_heap HR3.out 0
  have r1:w3.cell? ⟨w.heap.size+1,1,none⟩=some (.bool false):=Lib.cell_of_heap HR3.out 1
  have r2:w3.cell? ⟨w.heap.size+1,2,none⟩=some (.int .i64 0):=Lib.cell_of_heap HR3.out 2
  have r3:w3.cell? ⟨w.heap.size+1,3,none⟩=some (.bool false):=Lib.cell_of_heap HR3.out 3
  have h0:∀ j,w3.frozen? ⟨w.heap.size+1,j,none⟩=false:=fun j=>Lib.frozen_of_heap HR3.out j
  rcases op_cases op.s.toList with ⟨e1,e2,e3,e4,e5⟩ | ⟨e1,e2,e3,e4,e5⟩ | ⟨e1,e2,e3,e4,e5⟩ | ⟨e1,e2,e3,e4,e5⟩ | ⟨e1,e2,e3,e4,e5⟩ | ⟨e1,e2,e3,e4,e5⟩
  ·have HE:Hid (Ending.returned (.agg #[.int .i64 ((k0:Int)+(vs.length:Int)),.bool true,.int .i64 (num.n),.bool false])=.returned (qV wh sm nn tn)):=hide (by rw [← HSM.out,← HNN.out,← HTN.out,← HWH.out,e1,e2,e3,e4,e5];rfl)
   have hK:Kp (fun k=>k=w.heap.size+1+1) w3 (w3.setCell ⟨w.heap.size+1+1,1,none⟩ (.bool true)):=((Kp.refl (fun k=>k=w.heap.size+1+1) w3).setCell (p:=⟨w.heap.size+1+1,1,none⟩) (.inl rfl) (.bool true))
   obtain ⟨hY,hBY⟩:=fq_ends (a:=.int .i64 ((k0:Int)+(vs.length:Int))) (b:=.bool true) (c:=.int .i64 (num.n)) (d:=.bool false) HB3.out HR3.out hK (by omega) (by omega) (by omega) (by omega)
   have HY:=hide hY
   have HBY:=hide hBY
   clear hK hY hBY
   go_wp2_with fail
   show bodyPost _ _ _ _ _ (fq (w3.setCell ⟨w.heap.size+1+1,1,none⟩ (.bool true)) (w.heap.size+1) (.int .i64 ((k0:Int)+(vs.length:Int))) (.bool true) (.int .i64 (num.n)) (.bool false))
   generalize fq (w3.setCell ⟨w.heap.size+1+1,1,none⟩ (.bool true)) (w.heap.size+1) (.int .i64 ((k0:Int)+(vs.length:Int))) (.bool true) (.int .i64 (num.n)) (.bool false)=Y at *
   clear q0 q1 q2 q3 g0 r0 r1 r2 r3 h0 a6 e1 e2 e3 e4 e5
   have y0:Y.cell? ⟨w.heap.size+1,0,none⟩=some (.int .i64 ((k0:Int)+(vs.length:Int))):=Lib.cell_of_heap HY.out 0
   have y1:Y.cell? ⟨w.heap.size+1,1,none⟩=some (.bool true):=Lib.cell_of_heap HY.out 1
   have y2:Y.cell? ⟨w.heap.size+1,2,none⟩=some (.int .i64 (num.n)):=Lib.cell_of_heap HY.out 2
   have y3:Y.cell? ⟨w.heap.size+1,3,none⟩=some (.bool false):=Lib.cell_of_heap HY.out 3
   refine bodyPost_ret (v:=.agg #[.int .i64 ((k0:Int)+(vs.length:Int)),.bool true,.int .i64 (num.n),.bool false]) (by simp [results,Tryz.results214,go_sem,y0,y1,y2,y3]) rfl ?_
   exact ⟨HE.out,HBY.out⟩
  ·have HE:Hid (Ending.returned (.agg #[.int .i64 ((k0:Int)+(vs.length:Int)),.bool true,.int .i64 (num.n),.bool true])=.returned (qV wh sm nn tn)):=hide (by rw [← HSM.out,← HNN.out,← HTN.out,← HWH.out,e1,e2,e3,e4,e5];rfl)
   have hK:Kp (fun k=>k=w.heap.size+1+1) w3 ((w3.setCell ⟨w.heap.size+1+1,1,none⟩ (.bool true)).setCell ⟨w.heap.size+1+1,3,none⟩ (.bool true)):=(((Kp.refl (fun k=>k=w.heap.size+1+1) w3).setCell (p:=⟨w.heap.size+1+1,1,none⟩) (.inl rfl) (.bool true)).setCell (p:=⟨w.heap.size+1+1,3,none⟩) (.inl rfl) (.bool true))
   obtain ⟨hY,hBY⟩:=fq_ends (a:=.int .i64 ((k0:Int)+(vs.length:Int))) (b:=.bool true) (c:=.int .i64 (num.n)) (d:=.bool true) HB3.out HR3.out hK (by omega) (by omega) (by omega) (by omega)
   have HY:=hide hY
   have HBY:=hide hBY
   clear hK hY hBY
   go_wp2_with fail
   show bodyPost _ _ _ _ _ (fq ((w3.setCell ⟨w.heap.size+1+1,1,none⟩ (.bool true)).setCell ⟨w.heap.size+1+1,3,none⟩ (.bool true)) (w.heap.size+1) (.int .i64 ((k0:Int)+(vs.length:Int))) (.bool true) (.int .i64 (num.n)) (.bool true))
   generalize fq ((w3.setCell ⟨w.heap.size+1+1,1,none⟩ (.bool true)).setCell ⟨w.heap.size+1+1,3,none⟩ (.bool true)) (w.heap.size+1) (.int .i64 ((k0:Int)+(vs.length:Int))) (.bool true) (.int .i64 (num.n)) (.bool true)=Y at *
   clear q0 q1 q2 q3 g0 r0 r1 r2 r3 h0 a6 e1 e2 e3 e4 e5
   have y0:Y.cell? ⟨w.heap.size+1,0,none⟩=some (.int .i64 ((k0:Int)+(vs.length:Int))):=Lib.cell_of_heap HY.out 0
   have y1:Y.cell? ⟨w.heap.size+1,1,none⟩=some (.bool true):=Lib.cell_of_heap HY.out 1
   have y2:Y.cell? ⟨w.heap.size+1,2,none⟩=some (.int .i64 (num.n)):=Lib.cell_of_heap HY.out 2
   have y3:Y.cell? ⟨w.heap.size+1,3,none⟩=some (.bool true):=Lib.cell_of_heap HY.out 3
   refine bodyPost_ret (v:=.agg #[.int .i64 ((k0:Int)+(vs.length:Int)),.bool true,.int .i64 (num.n),.bool true]) (by simp [results,Tryz.results214,go_sem,y0,y1,y2,y3]) rfl ?_
   exact ⟨HE.out,HBY.out⟩
  ·have HE:Hid (Ending.returned (.agg #[.int .i64 ((k0:Int)+(vs.length:Int)),.bool false,.int .i64 (num.n+1),.bool false])=.returned (qV wh sm nn tn)):=hide (by rw [← HSM.out,← HNN.out,← HTN.out,← HWH.out,e1,e2,e3,e4,e5];rfl)
   have hK:Kp (fun k=>k=w.heap.size+1+1) w3 (w3.setCell ⟨w.heap.size+1+1,2,none⟩ (.int .i64 (num.n+1))):=((Kp.refl (fun k=>k=w.heap.size+1+1) w3).setCell (p:=⟨w.heap.size+1+1,2,none⟩) (.inl rfl) (.int .i64 (num.n+1)))
   obtain ⟨hY,hBY⟩:=fq_ends (a:=.int .i64 ((k0:Int)+(vs.length:Int))) (b:=.bool false) (c:=.int .i64 (num.n+1)) (d:=.bool false) HB3.out HR3.out hK (by omega) (by omega) (by omega) (by omega)
   have HY:=hide hY
   have HBY:=hide hBY
   clear hK hY hBY
   go_wp2_with fail
   show bodyPost _ _ _ _ _ (fq (w3.setCell ⟨w.heap.size+1+1,2,none⟩ (.int .i64 (num.n+1))) (w.heap.size+1) (.int .i64 ((k0:Int)+(vs.length:Int))) (.bool false) (.int .i64 (num.n+1)) (.bool false))
   generalize fq (w3.setCell ⟨w.heap.size+1+1,2,none⟩ (.int .i64 (num.n+1))) (w.heap.size+1) (.int .i64 ((k0:Int)+(vs.length:Int))) (.bool false) (.int .i64 (num.n+1)) (.bool false)=Y at *
   clear q0 q1 q2 q3 g0 r0 r1 r2 r3 h0 a6 e1 e2 e3 e4 e5
   have y0:Y.cell? ⟨w.heap.size+1,0,none⟩=some (.int .i64 ((k0:Int)+(vs.length:Int))):=Lib.cell_of_heap HY.out 0
   have y1:Y.cell? ⟨w.heap.size+1,1,none⟩=some (.bool false):=Lib.cell_of_heap HY.out 1
   have y2:Y.cell? ⟨w.heap.size+1,2,none⟩=some (.int .i64 (num.n+1)):=Lib.cell_of_heap HY.out 2
   have y3:Y.cell? ⟨w.heap.size+1,3,none⟩=some (.bool false):=Lib.cell_of_heap HY.out 3
   refine bodyPost_ret (v:=.agg #[.int .i64 ((k0:Int)+(vs.length:Int)),.bool false,.int .i64 (num.n+1),.bool false]) (by simp [results,Tryz.results214,go_sem,y0,y1,y2,y3]) rfl ?_
   exact ⟨HE.out,HBY.out⟩
  ·have HE:Hid (Ending.returned (.agg #[.int .i64 ((k0:Int)+(vs.length:Int)),.bool false,.int .i64 (num.n+1),.bool true])=.returned (qV wh sm nn tn)):=hide (by rw [← HSM.out,← HNN.out,← HTN.out,← HWH.out,e1,e2,e3,e4,e5];rfl)
   have hK:Kp (fun k=>k=w.heap.size+1+1) w3 ((w3.setCell ⟨w.heap.size+1+1,2,none⟩ (.int .i64 (num.n+1))).setCell ⟨w.heap.size+1+1,3,none⟩ (.bool true)):=(((Kp.refl (fun k=>k=w.heap.size+1+1) w3).setCell (p:=⟨w.heap.size+1+1,2,none⟩) (.inl rfl) (.int .i64 (num.n+1))).setCell (p:=⟨w.heap.size+1+1,3,none⟩) (.inl rfl) (.bool true))
   obtain ⟨hY,hBY⟩:=fq_ends (a:=.int .i64 ((k0:Int)+(vs.length:Int))) (b:=.bool false) (c:=.int .i64 (num.n+1)) (d:=.bool true) HB3.out HR3.out hK (by omega) (by omega) (by omega) (by omega)
   have HY:=hide hY
   have HBY:=hide hBY
   clear hK hY hBY
   go_wp2_with fail
   show bodyPost _ _ _ _ _ (fq ((w3.setCell ⟨w.heap.size+1+1,2,none⟩ (.int .i64 (num.n+1))).setCell ⟨w.heap.size+1+1,3,none⟩ (.bool true)) (w.heap.size+1) (.int .i64 ((k0:Int)+(vs.length:Int))) (.bool false) (.int .i64 (num.n+1)) (.bool true))
   generalize fq ((w3.setCell ⟨w.heap.size+1+1,2,none⟩ (.int .i64 (num.n+1))).setCell ⟨w.heap.size+1+1,3,none⟩ (.bool true)) (w.heap.size+1) (.int .i64 ((k0:Int)+(vs.length:Int))) (.bool false) (.int .i64 (num.n+1)) (.bool true)=Y at *
   clear q0 q1 q2 q3 g0 r0 r1 r2 r3 h0 a6 e1 e2 e3 e4 e5
   have y0:Y.cell? ⟨w.heap.size+1,0,none⟩=some (.int .i64 ((k0:Int)+(vs.length:Int))):=Lib.cell_of_heap HY.out 0
   have y1:Y.cell? ⟨w.heap.size+1,1,none⟩=some (.bool false):=Lib.cell_of_heap HY.out 1
   have y2:Y.cell? ⟨w.heap.size+1,2,none⟩=some (.int .i64 (num.n+1)):=Lib.cell_of_heap HY.out 2
   have y3:Y.cell? ⟨w.heap.size+1,3,none⟩=some (.bool true):=Lib.cell_of_heap HY.out 3
   refine bodyPost_ret (v:=.agg #[.int .i64 ((k0:Int)+(vs.length:Int)),.bool false,.int .i64 (num.n+1),.bool true]) (by simp [results,Tryz.results214,go_sem,y0,y1,y2,y3]) rfl ?_
   exact ⟨HE.out,HBY.out⟩
  ·have HE:Hid (Ending.returned (.agg #[.int .i64 ((k0:Int)+(vs.length:Int)),.bool false,.int .i64 (num.n),.bool true])=.returned (qV wh sm nn tn)):=hide (by rw [← HSM.out,← HNN.out,← HTN.out,← HWH.out,e1,e2,e3,e4,e5];rfl)
   have hK:Kp (fun k=>k=w.heap.size+1+1) w3 (w3.setCell ⟨w.heap.size+1+1,3,none⟩ (.bool true)):=((Kp.refl (fun k=>k=w.heap.size+1+1) w3).setCell (p:=⟨w.heap.size+1+1,3,none⟩) (.inl rfl) (.bool true))
   obtain ⟨hY,hBY⟩:=fq_ends (a:=.int .i64 ((k0:Int)+(vs.length:Int))) (b:=.bool false) (c:=.int .i64 (num.n)) (d:=.bool true) HB3.out HR3.out hK (by omega) (by omega) (by omega) (by omega)
   have HY:=hide hY
   have HBY:=hide hBY
   clear hK hY hBY
   go_wp2_with fail
   show bodyPost _ _ _ _ _ (fq (w3.setCell ⟨w.heap.size+1+1,3,none⟩ (.bool true)) (w.heap.size+1) (.int .i64 ((k0:Int)+(vs.length:Int))) (.bool false) (.int .i64 (num.n)) (.bool true))
   generalize fq (w3.setCell ⟨w.heap.size+1+1,3,none⟩ (.bool true)) (w.heap.size+1) (.int .i64 ((k0:Int)+(vs.length:Int))) (.bool false) (.int .i64 (num.n)) (.bool true)=Y at *
   clear q0 q1 q2 q3 g0 r0 r1 r2 r3 h0 a6 e1 e2 e3 e4 e5
   have y0:Y.cell? ⟨w.heap.size+1,0,none⟩=some (.int .i64 ((k0:Int)+(vs.length:Int))):=Lib.cell_of_heap HY.out 0
   have y1:Y.cell? ⟨w.heap.size+1,1,none⟩=some (.bool false):=Lib.cell_of_heap HY.out 1
   have y2:Y.cell? ⟨w.heap.size+1,2,none⟩=some (.int .i64 (num.n)):=Lib.cell_of_heap HY.out 2
   have y3:Y.cell? ⟨w.heap.size+1,3,none⟩=some (.bool true):=Lib.cell_of_heap HY.out 3
   refine bodyPost_ret (v:=.agg #[.int .i64 ((k0:Int)+(vs.length:Int)),.bool false,.int .i64 (num.n),.bool true]) (by simp [results,Tryz.results214,go_sem,y0,y1,y2,y3]) rfl ?_
   exact ⟨HE.out,HBY.out⟩
  ·have HE:Hid (Ending.returned (.agg #[.int .i64 ((k0:Int)+(vs.length:Int)),.bool false,.int .i64 (num.n),.bool false])=.returned (qV wh sm nn tn)):=hide (by rw [← HSM.out,← HNN.out,← HTN.out,← HWH.out,e1,e2,e3,e4,e5];rfl)
   have hK:Kp (fun k=>k=w.heap.size+1+1) w3 w3:=(Kp.refl (fun k=>k=w.heap.size+1+1) w3)
   obtain ⟨hY,hBY⟩:=fq_ends (a:=.int .i64 ((k0:Int)+(vs.length:Int))) (b:=.bool false) (c:=.int .i64 (num.n)) (d:=.bool false) HB3.out HR3.out hK (by omega) (by omega) (by omega) (by omega)
   have HY:=hide hY
   have HBY:=hide hBY
   clear hK hY hBY
   go_wp2_with fail
   show bodyPost _ _ _ _ _ (fq w3 (w.heap.size+1) (.int .i64 ((k0:Int)+(vs.length:Int))) (.bool false) (.int .i64 (num.n)) (.bool false))
   generalize fq w3 (w.heap.size+1) (.int .i64 ((k0:Int)+(vs.length:Int))) (.bool false) (.int .i64 (num.n)) (.bool false)=Y at *
   clear q0 q1 q2 q3 g0 r0 r1 r2 r3 h0 a6 e1 e2 e3 e4 e5
   have y0:Y.cell? ⟨w.heap.size+1,0,none⟩=some (.int .i64 ((k0:Int)+(vs.length:Int))):=Lib.cell_of_heap HY.out 0
   have y1:Y.cell? ⟨w.heap.size+1,1,none⟩=some (.bool false):=Lib.cell_of_heap HY.out 1
   have y2:Y.cell? ⟨w.heap.size+1,2,none⟩=some (.int .i64 (num.n)):=Lib.cell_of_heap HY.out 2
   have y3:Y.cell? ⟨w.heap.size+1,3,none⟩=some (.bool false):=Lib.cell_of_heap HY.out 3
   refine bodyPost_ret (v:=.agg #[.int .i64 ((k0:Int)+(vs.length:Int)),.bool false,.int .i64 (num.n),.bool false]) (by simp [results,Tryz.results214,go_sem,y0,y1,y2,y3]) rfl ?_
   exact ⟨HE.out,HBY.out⟩
end Go.Proofs.YtdjaiolfdbamcaaGreatDoor
