/- Walks of the checker's countDefaults and checkTargets. -/
import Derived.Test.YtdjaiolfdbamcaaGreatDoorZWChk8
import Derived.Deep.CutRange
set_option maxRecDepth 20000
set_option maxHeartbeats 8000000
namespace Go.Proofs.YtdjaiolfdbamcaaGreatDoor
open Go.RowKit
attribute [local go_sem ↓] Go.wp_at_zero Go.wp_at_succ
theorem targets_step (gs:List MG) (i:Nat) (s:CS) (h:i<gs.length):ckTargets gs (gs.drop i) s=ckTargets gs (gs.drop (i+1)) (gs[i].a.rows.foldl (fun s r=>s.ref (destBad gs r) 3 (destLine r)) s):=by
 rw [List.drop_eq_getElem_cons h];rfl
def destT (r:Hx.RowA):Hx.Tok:=match r.dest with | none=>⟨101,⟨#[]⟩,0,0⟩ | some a=>a
theorem destT_cells (r:Hx.RowA):destC r.dest=[.bool r.dest.isNone,.int .i64 (kindA (destT r).k),.string (destT r).s,.int .i64 (destT r).n,.int .i64 (destT r).line]:=by
 unfold destT;cases r.dest <;> rfl
theorem destT_line (r:Hx.RowA):((destT r).line:Int)=destLine r:=by unfold destT destLine;cases r.dest <;> rfl
theorem destT_bad (gs:List MG) (r:Hx.RowA):destBad gs r=(!r.dest.isNone && !(gs.any (sameM (destT r).s))):=by unfold destT destBad;cases r.dest <;> rfl
theorem checkTargets_any (w:World) (c tb base:Nat) (vt vv vm:Value) (vs:List VarA) (gs:List MG) (s:CS) (va:Value) (h:CI w c tb s va) (hT:PT w base tb vt vs gs (fun k=>k<c) vv vm) (hgl:gs.length<=3001) (hrl:∀ m∈gs,m.a.rows.length<=10000) :
  Calls Tryz.prog 107 #[.pointer (some ⟨c,0,none⟩)] w fun e w'=>CkR w c tb va (ckTargets gs gs s) e w':=by
 have H0:=hide h;have HT0:=hide hT;have HRL:=hide hrl;obtain ⟨avm,cvm,hvm,hcvm,_⟩:=row_shape (hT.mem.own 2 _ rfl);simp only at hvm hcvm;subst hvm;obtain ⟨_,_,x2,_,_,htl,htc⟩:=hT.cells;have x0:w.cell? ⟨c,0,none⟩=some (.pointer (some ⟨tb,0,none⟩)):=Lib.cell_of_heap h.box 0;clear h hT hrl;go_enter Tryz.func107,Tryz.ntmps107;go_wp2_with fail;clear x0 x2
 go_loopg [14] (gs.length) (fun k v14 wr=>∃ (i:Nat) (s1:CS),i+k=gs.length/\v14=.int .i64 i/\Kp (CF c va) w wr/\CI wr c tb s1 va/\ckTargets gs (gs.drop i) s1=ckTargets gs gs s)
 case atStart=>exact ⟨0,s,by omega,rfl,Kp.refl _ _,H0.out,rfl⟩
 case round =>
  obtain ⟨i,s1,hi,rfl,hk,hci,hF⟩:=hrel;have HK:=hide hk;have HCI:=hide hci;have HF:=hide hF;clear hk hci hF
  by_cases hlt:i<gs.length
  ·have hli:(i:Int)<gs.length:=by omega
   have hi0:(0:Int)<=i:=by omega
   have HTr:=hide (HT0.out.belowC (H0.out.toBelow HK.out));obtain ⟨gm,capm,_,e,hgm,hgc⟩:=HTr.out.msl.resolve_left (fun h=>by omega)
   cases e
   obtain ⟨g0,_,_⟩:=hgc i hlt;have HMC:=hide (fun X (hX:PT X base tb vt vs gs (fun k=>k<c) vv (.slice (some ⟨gm,0,none⟩) gs.length cvm))=>(hX.modeCells hlt).1);have HRC:=hide (fun X (hX:PT X base tb vt vs gs (fun k=>k<c) vv (.slice (some ⟨gm,0,none⟩) gs.length cvm))=>hX.rowCells hlt);have HST:=hide (targets_step gs i s1 hlt);have hmr:gs[i].a.rows.length<=10000:=HRL.out _ (List.getElem_mem hlt);generalize hm:gs[i]=m at *;have m7:wr.cell? ⟨m.blk,7,none⟩=some m.vr:=HMC.out wr HTr.out 7 (by omega);obtain ⟨ar,cr,hvr,_⟩:=HRC.out wr HTr.out;rw [hvr] at m7;have HVR:=hide hvr;clear hvr hgc hm;go_wp2_with fail;clear m7 g0
   go_loopg [23] (m.a.rows.length) (fun k v23 wq=>∃ (j:Nat) (s2:CS),j+k=m.a.rows.length/\v23=.int .i64 j/\Kp (CF c va) w wq/\CI wq c tb s2 va/\(m.a.rows.drop j).foldl (fun s r=>s.ref (destBad gs r) 3 (destLine r)) s2=m.a.rows.foldl (fun s r=>s.ref (destBad gs r) 3 (destLine r)) s1)
   case atStart=>exact ⟨0,s1,by omega,rfl,HK.out,HCI.out,rfl⟩
   case round =>
    obtain ⟨j,s2,hj,rfl,hk2,hci2,hF2⟩:=hrel;have HK2:=hide hk2;have HCI2:=hide hci2;have HF2:=hide hF2;clear hk2 hci2 hF2
    by_cases hlj:j<m.a.rows.length
    ·have hlji:(j:Int)<m.a.rows.length:=by omega
     have hj0:(0:Int)<=j:=by omega
     have HTq:=hide (HT0.out.belowC (H0.out.toBelow HK2.out));obtain ⟨ar',cr',hv',hrr⟩:=HRC.out wr HTq.out;rw [HVR.out] at hv'
     cases hv'
     obtain ⟨gr,rfl,hgr,hcc⟩:=hrr j hlj;obtain ⟨r,hr⟩ : ∃ r,r=m.a.rows[j]:=⟨_,rfl⟩;rw [<- hr] at hcc;obtain ⟨Tg,xg,hg⟩:=gval_iface r.g;simp only [rowC,hg,destT_cells] at hcc;have HST2:=hide (show (m.a.rows.drop (j+1)).foldl (fun s r=>s.ref (destBad gs r) 3 (destLine r)) (s2.ref (destBad gs r) 3 (destLine r))=m.a.rows.foldl (fun s r=>s.ref (destBad gs r) 3 (destLine r)) s1 by rw [<- HF2.out,List.drop_eq_getElem_cons hlj,List.foldl_cons,<- hr]);have HDB:=hide (destT_bad gs r);have HDL:=hide (destT_line r);generalize destT r=t at *;generalize hst:r.dest.isNone=st at *;have z0:wr.cell? ⟨gr,j*10,none⟩=some (.int .i64 (kindA r.wh.k)):=hcc 0 (by omega);have z1:wr.cell? ⟨gr,j*10+1,none⟩=some (.string r.wh.s):=hcc 1 (by omega);have z2:wr.cell? ⟨gr,j*10+2,none⟩=some (.int .i64 r.wh.n):=hcc 2 (by omega);have z3:wr.cell? ⟨gr,j*10+3,none⟩=some (.int .i64 r.wh.line):=hcc 3 (by omega);have z4:wr.cell? ⟨gr,j*10+4,none⟩=some (.iface Tg xg):=hcc 4 (by omega);have z5:wr.cell? ⟨gr,j*10+5,none⟩=some (.bool st):=hcc 5 (by omega);have z6:wr.cell? ⟨gr,j*10+6,none⟩=some (.int .i64 (kindA t.k)):=hcc 6 (by omega);have z7:wr.cell? ⟨gr,j*10+7,none⟩=some (.string t.s):=hcc 7 (by omega);have z8:wr.cell? ⟨gr,j*10+8,none⟩=some (.int .i64 t.n):=hcc 8 (by omega);have z9:wr.cell? ⟨gr,j*10+9,none⟩=some (.int .i64 t.line):=hcc 9 (by omega);have hnc:¬ wr.heap.size=c:=by have:=HCI2.out.lt;omega
     have hB:Below wr.heap.size wr (wr.alloc (.cells #[.int .i64 (kindA r.wh.k),.string r.wh.s,.int .i64 r.wh.n,.int .i64 r.wh.line,.iface Tg xg,.bool st,.int .i64 (kindA t.k),.string t.s,.int .i64 t.n,.int .i64 t.line] 232)):=(Below.refl _ _).alloc (Nat.le_refl _) _;have HBX:=hide (heap_alloc_new wr (.cells #[.int .i64 (kindA r.wh.k),.string r.wh.s,.int .i64 r.wh.n,.int .i64 r.wh.line,.iface Tg xg,.bool st,.int .i64 (kindA t.k),.string t.s,.int .i64 t.n,.int .i64 t.line] 232));have HX:=hide (HCI2.out.below hB);have HTX:=hide (HTq.out.below hB);have HKX:Hid (Kp (CF c va) w (wr.alloc (.cells #[.int .i64 (kindA r.wh.k),.string r.wh.s,.int .i64 r.wh.n,.int .i64 r.wh.line,.iface Tg xg,.bool st,.int .i64 (kindA t.k),.string t.s,.int .i64 t.n,.int .i64 t.line] 232))):=hide (HK2.out.alloc _);have hlx:wr.heap.size<(wr.alloc (.cells #[.int .i64 (kindA r.wh.k),.string r.wh.s,.int .i64 r.wh.n,.int .i64 r.wh.line,.iface Tg xg,.bool st,.int .i64 (kindA t.k),.string t.s,.int .i64 t.n,.int .i64 t.line] 232)).heap.size:=by simp
     clear hcc hg hr hrr hst hB;go_wp2_with fail;generalize wr.alloc (.cells #[.int .i64 (kindA r.wh.k),.string r.wh.s,.int .i64 r.wh.n,.int .i64 r.wh.line,.iface Tg xg,.bool st,.int .i64 (kindA t.k),.string t.s,.int .i64 t.n,.int .i64 t.line] 232)=X at *;clear z0 z1 z2 z3 z4 z5 z6 z7 z8 z9;obtain ⟨a0,a1,a2,a3,a4,a5,a6,a7,a8,a9⟩:=cells10 HBX.out;clear a0 a1 a2 a3 a4;obtain ⟨_,_,v2,_,_,htl1,_⟩:=HTX.out.cells;have hcX:=HX.out.lt;have ntc:¬ tb=c:=by omega
     cases st with
     | true =>
      have HB:=hide (show s2.ref false 3 t.line=s2.ref (destBad gs r) 3 (destLine r) by rw [HDB.out,HDL.out];rfl);refine wp_region_held_drew (S:=fun Y=>Y.cell? ⟨wr.heap.size,5,none⟩=some (.bool true)/\Y.cell? ⟨wr.heap.size,6,none⟩=some (.int .i64 (kindA t.k))/\Y.cell? ⟨wr.heap.size,7,none⟩=some (.string t.s)/\Y.cell? ⟨wr.heap.size,8,none⟩=some (.int .i64 t.n)/\Y.cell? ⟨wr.heap.size,9,none⟩=some (.int .i64 t.line)) (by kernel_rfl) ⟨a5,a6,a7,a8,a9⟩ (fun hHeld=>?_);refine tkR 0 rfl ?_ ?_ hHeld ?_;rotate_left
      ·intro w hSw;(try dsimp only at hSw);go_simp;(try with_reducible rfl)
      (try simp only [Act.put,qA,qB,qC,qD,qE])
      refine tkR 1 rfl ?_ ?_ hHeld ?_;rotate_left
      ·intro w hSw;(try dsimp only at hSw);go_simp;(try with_reducible rfl)
      (try simp only [Act.put,qA,qB,qC,qD,qE,qF])
      refine tkR 2 rfl ?_ ?_ hHeld ?_;rotate_left
      ·intro w hSw;(try dsimp only at hSw);go_simp;(try with_reducible rfl)
      (try simp only [Act.put,qA,qB,qC,qD,qE,qF])
      refine tkR 3 rfl ?_ ?_ hHeld ?_;rotate_left
      ·intro w hSw;(try dsimp only at hSw);go_simp;(try with_reducible rfl)
      (try simp only [Act.put,qA,qB,qC,qD,qE,qF])
      refine tkR 4 rfl ?_ ?_ hHeld ?_;rotate_left
      ·intro w hSw;(try dsimp only at hSw);go_simp;(try with_reducible rfl)
      (try simp only [Act.put,qA,qB,qC,qD,qE,qF])
      refine skR 5 rfl hHeld ?_
      (try simp only [Act.put,qA,qB,qC,qD,qE,qF])
      refine skR 6 rfl hHeld ?_
      (try simp only [Act.put,qA,qB,qC,qD,qE,qF])
      refine skR 7 rfl hHeld ?_
      (try simp only [Act.put,qA,qB,qC,qD,qE,qF])
      refine skR 8 rfl hHeld ?_
      (try simp only [Act.put,qA,qB,qC,qD,qE,qF])
      refine skR 9 rfl hHeld ?_
      (try simp only [Act.put,qA,qB,qC,qD,qE,qF])
      refine skR 10 rfl hHeld ?_
      (try simp only [Act.put,qA,qB,qC,qD,qE,qF])
      refine skR 11 rfl hHeld ?_
      (try simp only [Act.put,qA,qB,qC,qD,qE,qF])
      refine skR 12 rfl hHeld ?_
      (try simp only [Act.put,qA,qB,qC,qD,qE,qF])
      refine skR 13 rfl hHeld ?_
      (try simp only [Act.put,qA,qB,qC,qD,qE,qF])
      refine skR 14 rfl hHeld ?_
      (try simp only [Act.put,qA,qB,qC,qD,qE,qF])
      refine skR 15 rfl hHeld ?_
      (try simp only [Act.put,qA,qB,qC,qD,qE,qF])
      refine skR 16 rfl hHeld ?_
      (try simp only [Act.put,qA,qB,qC,qD,qE,qF])
      refine tkR 17 rfl ?_ ?_ hHeld ?_;rotate_left
      ·intro w hSw;(try dsimp only at hSw);go_simp;(try with_reducible rfl)
      (try simp only [Act.put,qA,qB,qC,qD,qE,qF])
      refine tkR 18 rfl ?_ ?_ hHeld ?_;rotate_left
      ·intro w hSw;(try dsimp only at hSw);go_simp;(try with_reducible rfl)
      (try simp only [Act.put,qA,qB,qC,qD,qE,qF])
      refine tkR 19 rfl ?_ ?_ hHeld ?_;rotate_left
      ·intro w hSw;(try dsimp only at hSw);go_simp;(try with_reducible rfl)
      (try simp only [Act.put,qA,qB,qC,qD,qE,qF])
      refine wpAnyH_ready (rs:=[20]) (by kernel_rfl) (by simp) ?_;refine AllReadyH.cons rfl (fun K hK=>?_) AllReadyH.nil
      go_simp
      refine (refuse_any _ c tb (s2.rows:Int) va s2.cl _ 3 t ?_).mono ?_
      ·exact HX.out.box
      intro e w5 hr5;obtain rfl:=hr5.ret;have HC5:=hide (CI.ref (show CI X.drew c tb s2 va from ⟨HX.out.box,HX.out.own⟩) hr5).1;have HK5:=hide (HKX.out.drew.trans hr5.kept (fun _ e=>.inl (.inl e)));refine hK.out _ _ ⟨(hr5.kept.cell hlx hnc).trans a5,(hr5.kept.cell hlx hnc).trans a6,(hr5.kept.cell hlx hnc).trans a7,(hr5.kept.cell hlx hnc).trans a8,(hr5.kept.cell hlx hnc).trans a9⟩ (fun _=>?_);clear hK K hr5
      (try simp only [Act.put,qA,qB,qC,qD,qE,qF])
      refine wpAnyH_done (by kernel_rfl) ?_ _;go_wp2_with fail
      go_roundg (m.a.rows.length-(j+1))
      case measure=>omega
      case rel=>exact ⟨j+1,s2.ref (destBad gs r) 3 (destLine r),by omega,by go_num,HK5.out,by rw [<- HB.out];exact HC5.out,HST2.out⟩
     | false =>
      have HB:=hide (show s2.ref (!(gs.any (sameM t.s))) 3 t.line=s2.ref (destBad gs r) 3 (destLine r) by rw [HDB.out,HDL.out];rfl);have y0:X.cell? ⟨c,0,none⟩=some (.pointer (some ⟨tb,0,none⟩)):=Lib.cell_of_heap HX.out.box 0
      have CK:Hid (∀ Y,Below X.heap.size X Y->Calls Tryz.prog 159 #[.slice (some ⟨gm,0,none⟩) gs.length cvm,.string t.s] Y fun e w'=>e=.returned (.bool (gs.any (sameM t.s)))/\Below Y.heap.size Y w'):=hide (fun Y hY=>by
       have:=hasMode_any Y (.slice (some ⟨gm,0,none⟩) gs.length cvm) gs.length gs t.s (HTX.out.below hY).msl hgl;rw [List.take_length] at this
       exact this)
      generalize gs.any (sameM t.s)=bv at *
      go_region_held3 (fun Y=>Y.cell? ⟨c,0,none⟩=some (.pointer (some ⟨tb,0,none⟩))/\Y.cell? ⟨tb,2,none⟩=some (.slice (some ⟨gm,0,none⟩) gs.length cvm)/\Y.cell? ⟨wr.heap.size,5,none⟩=some (.bool false)/\Y.cell? ⟨wr.heap.size,6,none⟩=some (.int .i64 (kindA t.k))/\Y.cell? ⟨wr.heap.size,7,none⟩=some (.string t.s)/\Y.cell? ⟨wr.heap.size,8,none⟩=some (.int .i64 t.n)/\Y.cell? ⟨wr.heap.size,9,none⟩=some (.int .i64 t.line)) (first | go_keep | (exact ⟨by with_reducible assumption,by with_reducible assumption,by with_reducible assumption,by with_reducible assumption,by with_reducible assumption,by with_reducible assumption,by with_reducible assumption⟩))
       (first
        | (go_at_call 159;refine (CK.out _ ?_).mono ?_;exact ⟨rfl,rfl,rfl,Nat.le_refl _,fun _ _=>rfl⟩;rintro e w4 ⟨rfl,hb4⟩;have q0:=(hb4.cell (p:=⟨c,0,none⟩) hcX).trans y0;have q1:=(hb4.cell (p:=⟨tb,2,none⟩) htl1).trans v2;have q5:=(hb4.cell (p:=⟨wr.heap.size,5,none⟩) hlx).trans a5;have q6:=(hb4.cell (p:=⟨wr.heap.size,6,none⟩) hlx).trans a6;have q7:=(hb4.cell (p:=⟨wr.heap.size,7,none⟩) hlx).trans a7;have q8:=(hb4.cell (p:=⟨wr.heap.size,8,none⟩) hlx).trans a8;have q9:=(hb4.cell (p:=⟨wr.heap.size,9,none⟩) hlx).trans a9;have hl4:=Nat.lt_of_lt_of_le hlx hb4.size;have htl4:=Nat.lt_of_lt_of_le htl1 hb4.size)
        | (go_at_call 156;refine (refuse_any _ c tb (s2.rows:Int) va s2.cl _ 3 t ?_).mono ?_;exact (hb4.block c hcX).trans HX.out.box;intro e w5 hr5;obtain rfl:=hr5.ret;have p0:w5.cell? ⟨c,0,none⟩=some (.pointer (some ⟨tb,0,none⟩)):=Lib.cell_of_heap hr5.box 0;have p1:=(hr5.kept.cell (o:=2) htl4 ntc).trans q1;have p5:=(hr5.kept.cell (o:=5) hl4 hnc).trans q5;have p6:=(hr5.kept.cell (o:=6) hl4 hnc).trans q6;have p7:=(hr5.kept.cell (o:=7) hl4 hnc).trans q7;have p8:=(hr5.kept.cell (o:=8) hl4 hnc).trans q8;have p9:=(hr5.kept.cell (o:=9) hl4 hnc).trans q9))
      have hb4':Below X.heap.size X w4:=⟨hb4.os,hb4.tape,hb4.output,hb4.size,hb4.block⟩;have HC5:=hide ((HX.out.below hb4').ref hr5).1;have HK5:=hide ((HKX.out.below hb4').trans hr5.kept (fun _ e=>.inl (.inl e)));clear hb4 hb4' hr5 y0 v2 q0 q1 q5 q6 q7 q8 q9 p0 p1 p5 p6 p7 p8 p9 a5 a6 a7 a8 a9;go_wp2_with fail
      go_roundg (m.a.rows.length-(j+1))
      case measure=>omega
      case rel=>exact ⟨j+1,s2.ref (destBad gs r) 3 (destLine r),by omega,by go_num,HK5.out,by rw [<- HB.out];exact HC5.out,HST2.out⟩
    ·have hlji:¬ (j:Int)<m.a.rows.length:=by omega
     have HE:=hide (show s2=m.a.rows.foldl (fun s r=>s.ref (destBad gs r) 3 (destLine r)) s1 by rw [<- HF2.out,List.drop_of_length_le (by omega)];rfl);go_wp2_with fail
     go_roundg (gs.length-(i+1))
     case measure=>omega
     case rel=>exact ⟨i+1,s2,by omega,by go_num,HK2.out,HCI2.out,by rw [<- HF.out,HST.out,HE.out]⟩
  ·have hli:¬ (i:Int)<gs.length:=by omega
   have HE:=hide (show s1=ckTargets gs gs s by rw [<- HF.out,List.drop_of_length_le (by omega)];rfl);go_wp2_with fail;go_end0;exact ⟨rfl,HK.out,va,by rw [<- HE.out];exact HCI.out,fun _ e=>.inl e⟩
end Go.Proofs.YtdjaiolfdbamcaaGreatDoor
