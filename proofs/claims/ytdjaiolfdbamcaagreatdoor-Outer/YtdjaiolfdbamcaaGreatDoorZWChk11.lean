/- The walk of the checker's checkMode. -/
import Derived.Test.YtdjaiolfdbamcaaGreatDoorZWChk8
import Derived.Deep.CutRange
set_option maxRecDepth 20000
set_option maxHeartbeats 8000000
namespace Go.Proofs.YtdjaiolfdbamcaaGreatDoor
open Go.RowKit
attribute [local go_sem ↓] Go.wp_at_zero Go.wp_at_succ
theorem checkMode_any (w:World) (c tb base:Nat) (vt vv vm:Value) (vs:List VarA) (gs:List MG) (s:CS) (va:Value) (i:Nat) (hi:i<gs.length) (h:CI w c tb s va) (hT:PT w base tb vt vs gs (fun k=>k<c) vv vm) (hvl:vs.length≤3001) (hgl:gs.length≤3001) (hlen:(ckMode vs gs i gs[i] s).atoms.length≤10000) (hrw:(ckMode vs gs i gs[i] s).rows≤10000) :
  Calls Tryz.prog 106 #[.pointer (some ⟨c,0,none⟩),.int .i64 i,.pointer (some ⟨gs[i].blk,0,none⟩)] w fun e w'=>CkR w c tb va (ckMode vs gs i gs[i] s) e w':=by
 have H0:=hide h
 have HT0:=hide hT
 obtain ⟨avm,cvm,hvm,hcvm,_⟩:=row_shape (hT.mem.own 2 _ rfl)
 simp only at hvm hcvm
 subst hvm
 obtain ⟨hmc,_,_,hbl,hbc⟩:=hT.modeCells hi
 have HMC:=hide (fun X (hX:PT X base tb vt vs gs (fun k=>k<c) vv (.slice avm gs.length cvm))=>(hX.modeCells hi).1)
 have HRC:=hide (fun X (hX:PT X base tb vt vs gs (fun k=>k<c) vv (.slice avm gs.length cvm))=>hX.rowCells hi)
 generalize hm:gs[i]=m at *
 have hcl:=h.lt
 have m0:w.cell? ⟨m.blk,0,none⟩=some (.int .i64 (kindA m.a.name.k)):=hmc 0 (by omega)
 have m1:w.cell? ⟨m.blk,1,none⟩=some (.string m.a.name.s):=hmc 1 (by omega)
 have m2:w.cell? ⟨m.blk,2,none⟩=some (.int .i64 m.a.name.n):=hmc 2 (by omega)
 have m3:w.cell? ⟨m.blk,3,none⟩=some (.int .i64 m.a.name.line):=hmc 3 (by omega)
 have m5:w.cell? ⟨m.blk,5,none⟩=some (.int .i64 m.a.depth):=hmc 5 (by omega)
 have HS1:=hide (show s.ref (decide ((12:Int)≤(i:Int)) || decide ((6:Int)≤(m.a.depth:Int))) 1 m.a.name.line=s.ref (decide (12≤i) || decide (6≤m.a.depth)) 1 m.a.name.line by rw [dec12])
 have nmc:¬ m.blk=c:=by omega
 clear h hT hmc hm
 go_enter Tryz.func106,Tryz.ntmps106
 go_upto_region 0 with (fail)
 go_cut [] from 8 to 22 (fun wx=>Kp (CF c va) w wx∧CI wx c tb (s.ref (decide (12≤i) || decide (6≤m.a.depth)) 1 m.a.name.line) va)
 case first =>
  by_cases h12:12≤i
  ·have hi12:(12:Int)≤i:=by omega
   have HB:=hide (show s.ref true 1 m.a.name.line=s.ref (decide (12≤i) || decide (6≤m.a.depth)) 1 m.a.name.line by simp [h12])
   first | go_region_with (go_at_call 156;refine (refuse_any _ c tb (s.rows:Int) va s.cl _ 1 m.a.name ?_).mono ?_;exact H0.out.box;intro e w1 hr1;obtain rfl:=hr1.ret) | fail
   all_goals
    have HC1:=hide (CI.ref (show CI w.drew c tb s va from ⟨H0.out.box,H0.out.own⟩) hr1).1
    have HK1:=hide ((Kp.refl (CF c va) w).drew.trans hr1.kept (fun _ e=>.inl (.inl e)))
    clear hr1
    go_wp2_with fail
    go_meet
    case rel=>exact ⟨HK1.out,by rw [← HB.out];exact HC1.out⟩
  ·have hi12:¬ (12:Int)≤i:=by omega
   have HB:=hide (show s.ref (decide ((6:Int)≤(m.a.depth:Int))) 1 m.a.name.line=s.ref (decide (12≤i) || decide (6≤m.a.depth)) 1 m.a.name.line by rw [← dec12,decide_eq_false hi12];rfl)
   go_region_held3 (fun Y=>Y.cell? ⟨m.blk,0,none⟩=some (.int .i64 (kindA m.a.name.k))∧Y.cell? ⟨m.blk,1,none⟩=some (.string m.a.name.s)∧Y.cell? ⟨m.blk,2,none⟩=some (.int .i64 m.a.name.n)∧Y.cell? ⟨m.blk,3,none⟩=some (.int .i64 m.a.name.line)∧Y.cell? ⟨m.blk,5,none⟩=some (.int .i64 m.a.depth)) (first | go_keep | (exact ⟨by with_reducible assumption,by with_reducible assumption,by with_reducible assumption,by with_reducible assumption,by with_reducible assumption⟩))
    ((go_at_call 156;refine (refuse_any _ c tb (s.rows:Int) va s.cl _ 1 m.a.name ?_).mono ?_;exact H0.out.box;intro e w1 hr1;obtain rfl:=hr1.ret;have z0:=(hr1.kept.cell (o:=0) hbl nmc).trans m0;have z1:=(hr1.kept.cell (o:=1) hbl nmc).trans m1;have z2:=(hr1.kept.cell (o:=2) hbl nmc).trans m2;have z3:=(hr1.kept.cell (o:=3) hbl nmc).trans m3;have z5:=(hr1.kept.cell (o:=5) hbl nmc).trans m5))
   have HC1:=hide (CI.ref (show CI w.drew c tb s va from ⟨H0.out.box,H0.out.own⟩) hr1).1
   have HK1:=hide ((Kp.refl (CF c va) w).drew.trans hr1.kept (fun _ e=>.inl (.inl e)))
   clear hr1
   go_wp2_with fail
   go_meet
   case rel=>exact ⟨HK1.out,by rw [← HB.out];exact HC1.out⟩
 case rest =>
  have HK1:=hide hcut.1
  have HC1:=hide hcut.2
  have HE:=hide (show ckMode vs gs i m s=m.a.rows.foldl (ckRow vs) ((s.ref (decide (12≤i) || decide (6≤m.a.depth)) 1 m.a.name.line).ref ((gs.take i).any (sameM m.a.name.s)) 3 m.a.name.line) from rfl)
  have HT1:=hide (HT0.out.belowC (H0.out.toBelow HK1.out))
  generalize s.ref (decide (12≤i) || decide (6≤m.a.depth)) 1 m.a.name.line=s1 at *
  clear hcut m0 m1 m2 m3 m5
  have hl1:m.blk<wc.heap.size:=Nat.lt_of_lt_of_le hbl HK1.out.size
  have hc1:c<wc.heap.size:=HC1.out.lt
  have hmc:=HMC.out wc HT1.out
  have m0:wc.cell? ⟨m.blk,0,none⟩=some (.int .i64 (kindA m.a.name.k)):=hmc 0 (by omega)
  have m1:wc.cell? ⟨m.blk,1,none⟩=some (.string m.a.name.s):=hmc 1 (by omega)
  have m2:wc.cell? ⟨m.blk,2,none⟩=some (.int .i64 m.a.name.n):=hmc 2 (by omega)
  have m3:wc.cell? ⟨m.blk,3,none⟩=some (.int .i64 m.a.name.line):=hmc 3 (by omega)
  obtain ⟨_,_,v2,_,_,htl1,htc⟩:=HT1.out.cells
  obtain ⟨gm,capm,_,e,hgl1,_⟩:=HT1.out.msl.resolve_left (fun h=>by omega)
  cases e
  have y0:wc.cell? ⟨c,0,none⟩=some (.pointer (some ⟨tb,0,none⟩)):=Lib.cell_of_heap HC1.out.box 0
  have ntc:¬ tb=c:=by omega
  have hic:(i:Int)≤cvm:=by omega
  have hi0:(0:Int)≤i:=by omega
  have CK:Hid (∀ Y,Below wc.heap.size wc Y→Calls Tryz.prog 159 #[.slice (some ⟨gm,0,none⟩) i cvm,.string m.a.name.s] Y fun e w'=>e=.returned (.bool ((gs.take i).any (sameM m.a.name.s)))∧Below Y.heap.size Y w'):=hide (fun Y hY =>
   hasMode_any Y (.slice (some ⟨gm,0,none⟩) i cvm) i gs m.a.name.s ((HT1.out.below hY).msl.front (Nat.le_of_lt hi) (by omega)) (by omega))
  generalize (gs.take i).any (sameM m.a.name.s)=bv at *
  clear hmc
  go_wp2_with fail
  go_region_held3 (fun Y=>Y.cell? ⟨c,0,none⟩=some (.pointer (some ⟨tb,0,none⟩))∧Y.cell? ⟨tb,2,none⟩=some (.slice (some ⟨gm,0,none⟩) gs.length cvm)∧Y.cell? ⟨m.blk,0,none⟩=some (.int .i64 (kindA m.a.name.k))∧Y.cell? ⟨m.blk,1,none⟩=some (.string m.a.name.s)∧Y.cell? ⟨m.blk,2,none⟩=some (.int .i64 m.a.name.n)∧Y.cell? ⟨m.blk,3,none⟩=some (.int .i64 m.a.name.line)) (first | go_keep | (exact ⟨by with_reducible assumption,by with_reducible assumption,by with_reducible assumption,by with_reducible assumption,by with_reducible assumption,by with_reducible assumption⟩))
   (first
    | (go_at_call 159;refine (CK.out _ ?_).mono ?_;exact ⟨rfl,rfl,rfl,Nat.le_refl _,fun _ _=>rfl⟩;rintro e w2 ⟨rfl,hb2⟩;have q0:=(hb2.cell (p:=⟨c,0,none⟩) hc1).trans y0;have q1:=(hb2.cell (p:=⟨tb,2,none⟩) htl1).trans v2;have q2:=(hb2.cell (p:=⟨m.blk,0,none⟩) hl1).trans m0;have q3:=(hb2.cell (p:=⟨m.blk,1,none⟩) hl1).trans m1;have q4:=(hb2.cell (p:=⟨m.blk,2,none⟩) hl1).trans m2;have q5:=(hb2.cell (p:=⟨m.blk,3,none⟩) hl1).trans m3;have hl2:=Nat.lt_of_lt_of_le hl1 hb2.size;have htl2:=Nat.lt_of_lt_of_le htl1 hb2.size)
    | (go_at_call 156;refine (refuse_any _ c tb (s1.rows:Int) va s1.cl _ 3 m.a.name ?_).mono ?_;exact (hb2.block c hc1).trans HC1.out.box;intro e w3 hr3;obtain rfl:=hr3.ret;have p0:w3.cell? ⟨c,0,none⟩=some (.pointer (some ⟨tb,0,none⟩)):=Lib.cell_of_heap hr3.box 0;have p1:=(hr3.kept.cell (o:=2) htl2 ntc).trans q1;have p2:=(hr3.kept.cell (o:=0) hl2 nmc).trans q2;have p3:=(hr3.kept.cell (o:=1) hl2 nmc).trans q3;have p4:=(hr3.kept.cell (o:=2) hl2 nmc).trans q4;have p5:=(hr3.kept.cell (o:=3) hl2 nmc).trans q5))
  have hb2':Below wc.heap.size wc w2:=⟨hb2.os,hb2.tape,hb2.output,hb2.size,hb2.block⟩
  have HC3:=hide ((HC1.out.below hb2').ref hr3).1
  have HK3:=hide ((HK1.out.below hb2').trans hr3.kept (fun _ e=>.inl (.inl e)))
  generalize s1.ref bv 3 m.a.name.line=s2 at *
  clear hb2 hb2' hr3 y0 v2 m0 m1 m2 m3 q0 q1 q2 q3 q4 q5 p0 p1 p2 p3 p4 p5 CK HK1 HC1 HT1
  have HT3:=hide (HT0.out.belowC (H0.out.toBelow HK3.out))
  have m7:w3.cell? ⟨m.blk,7,none⟩=some m.vr:=HMC.out w3 HT3.out 7 (by omega)
  obtain ⟨ar,cr,hvr,_⟩:=HRC.out w3 HT3.out
  rw [hvr] at m7
  have HVR:=hide hvr
  have hrl:m.a.rows.length≤10000:=by have:=HE.out ▸ hrw;rw [fold_rows] at this;omega
  clear hvr
  go_wp2_with fail
  clear m7
  go_loopg [49] (m.a.rows.length) (fun k v49 wr=>∃ (j:Nat) (s3:CS) (va1:Value),j+k=m.a.rows.length∧v49=.int .i64 j∧Kp (CF c va) w wr∧CI wr c tb s3 va1∧(∀ q,va1.ownBlock=some q→va.ownBlock=some q∨w.heap.size≤q)∧(m.a.rows.drop j).foldl (ckRow vs) s3=ckMode vs gs i m s)
  case atStart=>exact ⟨0,s2,va,by omega,rfl,HK3.out,HC3.out,fun _ e=>.inl e,HE.out.symm⟩
  case round =>
   obtain ⟨j,s3,va1,hj,rfl,hk,hci,hvo,hF⟩:=hrel
   have HK:=hide hk
   have HCI:=hide hci
   have HVO:=hide hvo
   have HF:=hide hF
   clear hk hci hvo hF HK3 HC3 HT3
   by_cases hlt:j<m.a.rows.length
   ·have hlj:(j:Int)<m.a.rows.length:=by omega
    have hj0:(0:Int)≤j:=by omega
    have HTr:=hide (HT0.out.belowC (H0.out.toBelow HK.out))
    obtain ⟨ar',cr',hv',hrr⟩:=HRC.out wr HTr.out
    rw [HVR.out] at hv'
    cases hv'
    obtain ⟨gr,rfl,hgr,hcc⟩:=hrr j hlt
    obtain ⟨r,hr⟩ : ∃ r,r=m.a.rows[j]:=⟨_,rfl⟩
    rw [← hr] at hcc
    obtain ⟨Tg,xg,hg⟩:=gval_iface r.g
    obtain ⟨b5,k6,s7,n8,l9,hd⟩ : ∃ b k s n l,destC r.dest=[.bool b,.int .i64 k,.string s,.int .i64 n,.int .i64 l]:=by cases r.dest <;> exact ⟨_,_,_,_,_,rfl⟩
    simp only [rowC,hg,hd] at hcc
    have z0:wr.cell? ⟨gr,j*10,none⟩=some (.int .i64 (kindA r.wh.k)):=hcc 0 (by omega)
    have z1:wr.cell? ⟨gr,j*10+1,none⟩=some (.string r.wh.s):=hcc 1 (by omega)
    have z2:wr.cell? ⟨gr,j*10+2,none⟩=some (.int .i64 r.wh.n):=hcc 2 (by omega)
    have z3:wr.cell? ⟨gr,j*10+3,none⟩=some (.int .i64 r.wh.line):=hcc 3 (by omega)
    have z4:wr.cell? ⟨gr,j*10+4,none⟩=some (.iface Tg xg):=hcc 4 (by omega)
    have z5:wr.cell? ⟨gr,j*10+5,none⟩=some (.bool b5):=hcc 5 (by omega)
    have z6:wr.cell? ⟨gr,j*10+6,none⟩=some (.int .i64 k6):=hcc 6 (by omega)
    have z7:wr.cell? ⟨gr,j*10+7,none⟩=some (.string s7):=hcc 7 (by omega)
    have z8:wr.cell? ⟨gr,j*10+8,none⟩=some (.int .i64 n8):=hcc 8 (by omega)
    have z9:wr.cell? ⟨gr,j*10+9,none⟩=some (.int .i64 l9):=hcc 9 (by omega)
    have HST:=hide (show (m.a.rows.drop (j+1)).foldl (ckRow vs) (ckRow vs s3 r)=ckMode vs gs i m s by rw [← HF.out,List.drop_eq_getElem_cons hlt,List.foldl_cons,← hr])
    have hrn:s3.rows+1≤10000:=by have h1:=fold_rows vs (m.a.rows.drop (j+1)) (ckRow vs s3 r);rw [HST.out,ckRow_rows] at h1;omega
    have hat:(ckRow vs s3 r).atoms.length≤10000:=by have h1:=fold_atoms vs (m.a.rows.drop (j+1)) (ckRow vs s3 r);rw [HST.out] at h1;omega
    have x1:wr.cell? ⟨c,1,none⟩=some (.int .i64 s3.rows):=Lib.cell_of_heap HCI.out.box 1
    have f1:wr.frozen? ⟨c,1,none⟩=false:=Lib.frozen_of_heap HCI.out.box 1
    have hcr:=HCI.out.lt
    have HG:=hide hg
    clear hcc hd hg hr hrr
    go_wp2_with fail
    obtain ⟨rn,hrn2⟩ : ∃ rn,rn=s3.rows+1:=⟨_,rfl⟩
    rw [show ((s3.rows:Int)+1)=(rn:Int) by omega]
    have hset:=HCI.out.setRows rn
    have hB:Below (wr.setCell ⟨c,1,none⟩ (.int .i64 rn)).heap.size (wr.setCell ⟨c,1,none⟩ (.int .i64 rn)) ((wr.setCell ⟨c,1,none⟩ (.int .i64 rn)).alloc (.cells #[.int .i64 (kindA r.wh.k),.string r.wh.s,.int .i64 r.wh.n,.int .i64 r.wh.line,.iface Tg xg,.bool b5,.int .i64 k6,.string s7,.int .i64 n8,.int .i64 l9] 232)):=(Below.refl _ _).alloc (Nat.le_refl _) _
    have HX:=hide (hset.below hB)
    have HKX:Hid (Kp (CF c va1) wr ((wr.setCell ⟨c,1,none⟩ (.int .i64 rn)).alloc (.cells #[.int .i64 (kindA r.wh.k),.string r.wh.s,.int .i64 r.wh.n,.int .i64 r.wh.line,.iface Tg xg,.bool b5,.int .i64 k6,.string s7,.int .i64 n8,.int .i64 l9] 232))):=hide (((Kp.refl (CF c va1) wr).setCell (p:=⟨c,1,none⟩) (.inl (.inl rfl)) _).alloc _)
    have hbx:=heap_alloc_new (wr.setCell ⟨c,1,none⟩ (.int .i64 rn)) (.cells #[.int .i64 (kindA r.wh.k),.string r.wh.s,.int .i64 r.wh.n,.int .i64 r.wh.line,.iface Tg xg,.bool b5,.int .i64 k6,.string s7,.int .i64 n8,.int .i64 l9] 232)
    have hsz:(wr.setCell ⟨c,1,none⟩ (.int .i64 rn)).heap.size=wr.heap.size:=by simp [World.setCell]
    rw [hsz] at hbx
    have HBX:=hide hbx
    have hlx:wr.heap.size<((wr.setCell ⟨c,1,none⟩ (.int .i64 rn)).alloc (.cells #[.int .i64 (kindA r.wh.k),.string r.wh.s,.int .i64 r.wh.n,.int .i64 r.wh.line,.iface Tg xg,.bool b5,.int .i64 k6,.string s7,.int .i64 n8,.int .i64 l9] 232)).heap.size:=by simp [World.setCell]
    generalize hXX:(wr.setCell ⟨c,1,none⟩ (.int .i64 rn)).alloc (.cells #[.int .i64 (kindA r.wh.k),.string r.wh.s,.int .i64 r.wh.n,.int .i64 r.wh.line,.iface Tg xg,.bool b5,.int .i64 k6,.string s7,.int .i64 n8,.int .i64 l9] 232)=X at *
    have HRE:=hide (show ckRow vs s3 r=ckG vs r.g 0 (({ s3 with rows:=rn }:CS).ref (decide ((24:Int)<(rn:Int))) 1 r.wh.line) by
     rw [ckRow,← hrn2]
     have e:decide ((24:Int)<(rn:Int))=decide (24<rn):=by rw [Bool.eq_iff_iff];simp;omega
     rw [e])
    have hnc:¬ wr.heap.size=c:=by omega
    clear hrn2 hXX hset hB hbx hsz z0 z1 z2 z3 z4 z5 z6 z7 z8 z9 x1 f1
    have y1:X.cell? ⟨c,1,none⟩=some (.int .i64 rn):=Lib.cell_of_heap HX.out.box 1
    obtain ⟨a0,a1,a2,a3,a4,a5,a6,a7,a8,a9⟩:=cells10 HBX.out
    clear a4 a5 a6 a7 a8 a9
    go_region_held3 (fun Y=>Y.cell? ⟨c,1,none⟩=some (.int .i64 rn)∧Y.cell? ⟨wr.heap.size,0,none⟩=some (.int .i64 (kindA r.wh.k))∧Y.cell? ⟨wr.heap.size,1,none⟩=some (.string r.wh.s)∧Y.cell? ⟨wr.heap.size,2,none⟩=some (.int .i64 r.wh.n)∧Y.cell? ⟨wr.heap.size,3,none⟩=some (.int .i64 r.wh.line)) (first | go_keep | (exact ⟨by with_reducible assumption,by with_reducible assumption,by with_reducible assumption,by with_reducible assumption,by with_reducible assumption⟩))
     ((go_at_call 156;refine (refuse_any _ c tb (rn:Int) va1 s3.cl _ 1 r.wh ?_).mono ?_;exact HX.out.box;intro e w5 hr5;obtain rfl:=hr5.ret;have z1:w5.cell? ⟨c,1,none⟩=some (.int .i64 rn):=Lib.cell_of_heap hr5.box 1;have z2:=(hr5.kept.cell (o:=0) hlx hnc).trans a0;have z3:=(hr5.kept.cell (o:=1) hlx hnc).trans a1;have z4:=(hr5.kept.cell (o:=2) hlx hnc).trans a2;have z5:=(hr5.kept.cell (o:=3) hlx hnc).trans a3))
    have HC5:=hide (CI.ref (show CI X.drew c tb { s3 with rows:=rn } va1 from ⟨HX.out.box,HX.out.own⟩) hr5).1
    have HK5:=hide (HKX.out.drew.trans hr5.kept (fun _ e=>.inl (.inl e)))
    have HB5:=hide ((hr5.kept.block wr.heap.size hlx hnc).trans HBX.out)
    have HT5:=hide (HTr.out.belowC (HCI.out.toBelow HK5.out))
    have hat5:(ckG vs r.g 0 (({ s3 with rows:=rn }:CS).ref (decide ((24:Int)<(rn:Int))) 1 r.wh.line)).atoms.length≤10000:=by rw [← HRE.out];exact hat
    have hdp:=r.deep
    have CG:=checkGuard_any c tb base vt vv (.slice (some ⟨gm,0,none⟩) gs.length cvm) vs gs hvl r.g w5 _ va1 0 HC5.out HT5.out (by omega) hat5
    rw [HG.out] at CG
    have HCG:=hide CG
    clear CG hr5 y1 a0 a1 a2 a3 z1 z2 z3 z4 z5 hat5
    have a4:w5.cell? ⟨wr.heap.size,4,none⟩=some (.iface Tg xg):=Lib.cell_of_heap HB5.out 4
    go_wp2_with fail
    refine HCG.out.mono ?_
    intro e w6 hr6
    obtain rfl:=hr6.ret
    have hr7:=CkR.trans HK.out HVO.out (CkR.trans HK5.out (fun _ e=>.inl e) hr6)
    rw [← HRE.out] at hr7
    obtain ⟨va2,hc7,hv7⟩:=hr7.ci
    have HK7:=hide hr7.kept
    have HC7:=hide hc7
    have HV7:=hide hv7
    clear hr6 hr7 hc7 hv7 a4
    go_wp2_with fail
    go_roundg (m.a.rows.length-(j+1))
    case measure=>omega
    case rel=>exact ⟨j+1,ckRow vs s3 r,va2,by omega,by go_num,HK7.out,HC7.out,HV7.out,HST.out⟩
   ·have hlj:¬ (j:Int)<m.a.rows.length:=by omega
    have HEE:=hide (show s3=ckMode vs gs i m s by rw [← HF.out,List.drop_of_length_le (by omega)];rfl)
    go_wp2_with fail
    go_end0
    exact ⟨rfl,HK.out,va1,by rw [← HEE.out];exact HCI.out,HVO.out⟩
end Go.Proofs.YtdjaiolfdbamcaaGreatDoor
