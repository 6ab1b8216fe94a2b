/- Walks of the program's parse. -/
import Derived.Test.YtdjaiolfdbamcaaGreatDoorZWPar11
import Derived.Test.YtdjaiolfdbamcaaGreatDoorZWScan6
set_option maxRecDepth 20000
set_option maxHeartbeats 2000000
namespace Go.Proofs.YtdjaiolfdbamcaaGreatDoor
open Go.RowKit
theorem field_line (W:World) (k n l:Int) (s:ByteArray):(Instr.field 149 (.agg #[.int .i64 k,.string s,.int .i64 n,.int .i64 l]) 3).run Tryz.prog W=.ok (.int .i64 l) W:=by kernel_rfl
def ParseR (w:World) (gt:Nat) (vt:Value) (ts:List Hx.Tok) (e:Ending) (w':World):Prop :=
 Below w.heap.size w w' ∧
 ((∃ line:Nat,e=.returned (.tuple #[.pointer none,.agg (faultC 2 line)])∧Hx.Run [Hx.YTABLE] ts line∧∃ t∈ts,t.line=line) ∨
  (∃ (tb:Nat) (vs:List VarA) (gs:List MG) (vv vm:Value),e=.returned (.tuple #[ptrV tb,.agg (faultC 0 0)])∧PT w' (w.heap.size+1) tb vt vs gs (fun k=>w.heap.size<k) vv vm∧TokMemA w' gt ts∧Links gs∧Hx.Run [Hx.YTABLE] ts 0∧TabD ts vs (gs.map (·.a))∧vs.length≤3001∧gs.length≤3001 ∧
   ∃ n,Hx.senF n ts (-1) 0 false Hx.St.zero=some ((varsS Hx.St.zero vs).modesS (gs.map (·.a)))))
theorem parse_any (w:World) (gt cap:Nat) (ts:List Hx.Tok) (hm:TokMemA w gt ts) (hg:gt<w.heap.size) (h0:0<ts.length) (hok:Hx.TsOk ts) :
  Calls Tryz.prog 71 #[.slice (some ⟨gt,0,none⟩) ts.length cap] w fun e w'=>ParseR w gt (.slice (some ⟨gt,0,none⟩) ts.length cap) ts e w':=by
 have HM:=hide hm
 have HOK:=hide hok
 clear hm hok
 go_enter Tryz.func71,Tryz.ntmps71
 go_wp2_with fail
 have hB1:Below w.heap.size w (w.alloc (.cells (faultC 0 0) 34)):=(Below.refl _ _).alloc (Nat.le_refl _) _
 have hB2:Below w.heap.size w ((w.alloc (.cells (faultC 0 0) 34)).alloc (.cells #[.slice (some ⟨gt,0,none⟩) ts.length cap,.slice none 0 0,.slice none 0 0] 87)):=hB1.alloc (by simp) _
 have hB3:Below w.heap.size w (((w.alloc (.cells (faultC 0 0) 34)).alloc (.cells #[.slice (some ⟨gt,0,none⟩) ts.length cap,.slice none 0 0,.slice none 0 0] 87)).alloc (.cells #[.slice (some ⟨gt,0,none⟩) ts.length cap,.int .i64 0,.pointer (some ⟨w.heap.size+1,0,none⟩)] 202)):=hB2.alloc (by simp;omega) _
 have hW3:(((w.alloc (.cells (faultC 0 0) 34)).alloc (.cells #[.slice (some ⟨gt,0,none⟩) ts.length cap,.slice none 0 0,.slice none 0 0] 87)).alloc (.cells #[.slice (some ⟨gt,0,none⟩) ts.length cap,.int .i64 0,.pointer (some ⟨w.heap.size+1,0,none⟩)] 202)).heap[w.heap.size+1+1]? = some (.cells #[.slice (some ⟨gt,0,none⟩) ts.length cap,.int .i64 0,.pointer (some ⟨w.heap.size+1,0,none⟩)] 202 (0,0)):=by
  have:=heap_alloc_new ((w.alloc (.cells (faultC 0 0) 34)).alloc (.cells #[.slice (some ⟨gt,0,none⟩) ts.length cap,.slice none 0 0,.slice none 0 0] 87)) (.cells #[.slice (some ⟨gt,0,none⟩) ts.length cap,.int .i64 0,.pointer (some ⟨w.heap.size+1,0,none⟩)] 202)
  simpa using this
 have hW2:(((w.alloc (.cells (faultC 0 0) 34)).alloc (.cells #[.slice (some ⟨gt,0,none⟩) ts.length cap,.slice none 0 0,.slice none 0 0] 87)).alloc (.cells #[.slice (some ⟨gt,0,none⟩) ts.length cap,.int .i64 0,.pointer (some ⟨w.heap.size+1,0,none⟩)] 202)).heap[w.heap.size+1]? = some (.cells #[.slice (some ⟨gt,0,none⟩) ts.length cap,.slice none 0 0,.slice none 0 0] 87 (0,0)):=by
  refine (((Below.refl (w.heap.size+1+1) ((w.alloc (.cells (faultC 0 0) 34)).alloc (.cells #[.slice (some ⟨gt,0,none⟩) ts.length cap,.slice none 0 0,.slice none 0 0] 87))).alloc (by simp) _).block (w.heap.size+1) (by omega)).trans ?_
  have:=heap_alloc_new (w.alloc (.cells (faultC 0 0) 34)) (.cells #[.slice (some ⟨gt,0,none⟩) ts.length cap,.slice none 0 0,.slice none 0 0] 87)
  simpa using this
 have hW1:(((w.alloc (.cells (faultC 0 0) 34)).alloc (.cells #[.slice (some ⟨gt,0,none⟩) ts.length cap,.slice none 0 0,.slice none 0 0] 87)).alloc (.cells #[.slice (some ⟨gt,0,none⟩) ts.length cap,.int .i64 0,.pointer (some ⟨w.heap.size+1,0,none⟩)] 202)).heap[w.heap.size]? = some (.cells (faultC 0 0) 34 (0,0)):=by
  refine ((((Below.refl (w.heap.size+1) (w.alloc (.cells (faultC 0 0) 34))).alloc (by simp) _).alloc (by simp) _).block w.heap.size (by omega)).trans (heap_alloc_new w _)
 have hsz:(((w.alloc (.cells (faultC 0 0) 34)).alloc (.cells #[.slice (some ⟨gt,0,none⟩) ts.length cap,.slice none 0 0,.slice none 0 0] 87)).alloc (.cells #[.slice (some ⟨gt,0,none⟩) ts.length cap,.int .i64 0,.pointer (some ⟨w.heap.size+1,0,none⟩)] 202)).heap.size=w.heap.size+3:=by simp
 rw [show (#[Value.int .i64 0,.int .i64 0,.string ⟨#[]⟩,.slice none 0 0,.slice none 0 0] : Array Value)=faultC 0 0 from rfl]
 generalize (((w.alloc (.cells (faultC 0 0) 34)).alloc (.cells #[.slice (some ⟨gt,0,none⟩) ts.length cap,.slice none 0 0,.slice none 0 0] 87)).alloc (.cells #[.slice (some ⟨gt,0,none⟩) ts.length cap,.int .i64 0,.pointer (some ⟨w.heap.size+1,0,none⟩)] 202))=W at *
 have hPI:PIs W (w.heap.size+1+1) gt cap (w.heap.size+1) ts 0:=⟨hW3,fun i hi=>⟨(hB3.cell hg).trans (HM.out i hi).1,(hB3.cell hg).trans (HM.out i hi).2.1,(hB3.cell hg).trans (HM.out i hi).2.2.1,(hB3.cell hg).trans (HM.out i hi).2.2.2⟩,by omega,by omega,h0,HOK.out⟩
 have hPT:PT W (w.heap.size+1) (w.heap.size+1) (.slice (some ⟨gt,0,none⟩) ts.length cap) [] [] (fun k=>k=w.heap.size+1) (.slice none 0 0) (.slice none 0 0):=by
  refine ⟨(((MemIs.nil W (w.heap.size+1)).addBox (xs:=[.slice (some ⟨gt,0,none⟩) ts.length cap,.slice none 0 0,.slice none 0 0]) hW2 (Nat.le_refl _) (fun ⟨i,r,hr,_⟩=>by simp at hr)).addNil 166 12).addNil 164 1,fun k hk=>?_,by omega⟩
  obtain ⟨i,r,hr,e⟩:=hk
  match i,hr with
  | 0,hr=>cases hr;cases e;rfl
  | 1,hr=>cases hr;cases e
  | 2,hr=>cases hr;cases e
  | i+3,hr=>simp [ptRows] at hr
 have HPI:=hide hPI
 have HPT:=hide hPT
 have HB3:=hide hB3
 have HW1:=hide hW1
 have HSZ:=hide hsz
 clear hB1 hB2 hB3 hW1 hW2 hW3 hPI hPT hsz
 refine (takeTable_any W (w.heap.size+1+1) gt cap (w.heap.size+1) ts (w.heap.size+1) _ _ _ (fun k=>k=w.heap.size+1) HPI.out HPT.out (by omega) (by omega)).mono ?_
 rintro e w1 ⟨ok,j1,vs,gs,vv,vm,rfl,hR⟩
 have hf1:w1.heap[w.heap.size]? = some (.cells (faultC 0 0) 34 (0,0)):=(hR.kept.block w.heap.size (by have:=HSZ.out;omega) (by omega)).trans HW1.out
 have HF1:=hide hf1
 have HR:=hide hR
 have hB:Below w.heap.size w w1:=HB3.out.trans (hR.kept.toBelow (fun k e=>by omega) (by have:=HSZ.out;omega))
 have HB:=hide hB
 have hs1:=hR.kept.size
 clear hR hB
 cases ok with
 | false =>
  obtain ⟨t,ht⟩ : ∃ t,t=ts[j1]'HR.out.par.lt:=⟨_,rfl⟩
  have hfl:=fun W=>field_line W (kindA t.k) t.n t.line t.s
  have HT:=hide ht
  go_wp2_with fail
  refine (next_any w1 (w.heap.size+1+1) gt cap (w.heap.size+1) ts j1 HR.out.par).mono ?_
  rintro e w2 ⟨rfl,hb2⟩
  rw [aggA_eq,← ht]
  have hf2:=(hb2.block w.heap.size (by have:=HSZ.out;omega)).trans hf1
  have HB2:=hide hb2
  have y0:w2.cell? ⟨w.heap.size,0,none⟩=some (.int .i64 0):=Lib.cell_of_heap hf2 0
  have z0:w2.frozen? ⟨w.heap.size,0,none⟩=false:=Lib.frozen_of_heap hf2 0
  have y1:w2.cell? ⟨w.heap.size,1,none⟩=some (.int .i64 0):=Lib.cell_of_heap hf2 1
  have z1:w2.frozen? ⟨w.heap.size,1,none⟩=false:=Lib.frozen_of_heap hf2 1
  have y2:w2.cell? ⟨w.heap.size,2,none⟩=some (.string ⟨#[]⟩):=Lib.cell_of_heap hf2 2
  have z2:w2.frozen? ⟨w.heap.size,2,none⟩=false:=Lib.frozen_of_heap hf2 2
  have y3:w2.cell? ⟨w.heap.size,3,none⟩=some (.slice none 0 0):=Lib.cell_of_heap hf2 3
  have z3:w2.frozen? ⟨w.heap.size,3,none⟩=false:=Lib.frozen_of_heap hf2 3
  have y4:w2.cell? ⟨w.heap.size,4,none⟩=some (.slice none 0 0):=Lib.cell_of_heap hf2 4
  have z4:w2.frozen? ⟨w.heap.size,4,none⟩=false:=Lib.frozen_of_heap hf2 4
  clear hf1 hf2 hb2 ht
  go_wp2_with fail
  refine bodyPost_ret (v:=.tuple #[.pointer none,.agg #[.int .i64 2,.int .i64 t.line,.string ⟨#[]⟩,.slice none 0 0,.slice none 0 0]]) (by simp [results,Tryz.results71,go_sem, *]) rfl ?_
  refine ⟨fset_below (HB.out.trans (HB2.out.mono HB.out.size)),.inl ⟨t.line,rfl,?_,t,?_,rfl⟩⟩
  ·have:=HR.out.bad rfl
   rw [← HT.out] at this;exact this
  ·rw [HT.out];exact List.getElem_mem _
 | true =>
  have p2:w1.cell? ⟨w.heap.size+1+1,2,none⟩=some (.pointer (some ⟨w.heap.size+1,0,none⟩)):=Lib.cell_of_heap HR.out.par.box 2
  have y0:w1.cell? ⟨w.heap.size,0,none⟩=some (.int .i64 0):=Lib.cell_of_heap hf1 0
  have z0:w1.frozen? ⟨w.heap.size,0,none⟩=false:=Lib.frozen_of_heap hf1 0
  have y1:w1.cell? ⟨w.heap.size,1,none⟩=some (.int .i64 0):=Lib.cell_of_heap hf1 1
  have z1:w1.frozen? ⟨w.heap.size,1,none⟩=false:=Lib.frozen_of_heap hf1 1
  have y2:w1.cell? ⟨w.heap.size,2,none⟩=some (.string ⟨#[]⟩):=Lib.cell_of_heap hf1 2
  have z2:w1.frozen? ⟨w.heap.size,2,none⟩=false:=Lib.frozen_of_heap hf1 2
  have y3:w1.cell? ⟨w.heap.size,3,none⟩=some (.slice none 0 0):=Lib.cell_of_heap hf1 3
  have z3:w1.frozen? ⟨w.heap.size,3,none⟩=false:=Lib.frozen_of_heap hf1 3
  have y4:w1.cell? ⟨w.heap.size,4,none⟩=some (.slice none 0 0):=Lib.cell_of_heap hf1 4
  have z4:w1.frozen? ⟨w.heap.size,4,none⟩=false:=Lib.frozen_of_heap hf1 4
  clear hf1
  go_wp2_with fail
  refine bodyPost_ret (v:=.tuple #[.pointer (some ⟨w.heap.size+1,0,none⟩),.agg #[.int .i64 0,.int .i64 0,.string ⟨#[]⟩,.slice none 0 0,.slice none 0 0]]) (by simp [results,Tryz.results71,go_sem, *]) rfl ?_
  obtain ⟨hl,hrun,htd,hv,hg',hsen⟩:=HR.out.good rfl
  have hkf:=fset_kp (Kp.refl (fun k=>k=w.heap.size) w1) (.inl rfl) (.int .i64 0) (.int .i64 0) (.string ⟨#[]⟩) (.slice none 0 0) (.slice none 0 0)
  have hsub:∀ k,fresh (fun k=>k=w.heap.size+1) W k→w.heap.size<k:=fun k h=>h.elim (fun e=>by omega) (fun h=>by have:=HSZ.out;omega)
  refine ⟨fset_below HB.out,.inr ⟨w.heap.size+1,vs,gs,vv,vm,rfl,(HR.out.tab.mono hsub).kept hkf (fun k hF e=>by omega),?_,hl,hrun,htd,hv,hg',hsen⟩⟩
  exact (HR.out.par.kp hkf (by omega) (by omega)).toks
end Go.Proofs.YtdjaiolfdbamcaaGreatDoor
