/- Walks of the checker's countDefaults and checkTree. -/
import Derived.Test.YtdjaiolfdbamcaaGreatDoorZWChk12
import Derived.Test.YtdjaiolfdbamcaaGreatDoorZWChk11
set_option maxRecDepth 20000
set_option maxHeartbeats 8000000
namespace Go.Proofs.YtdjaiolfdbamcaaGreatDoor
section
open Go.RowKit
attribute [local go_sem ↓] Go.wp_at_zero Go.wp_at_succ
def DSl (w:World) (sv:Value) (l:List (Nat×Bool)):Prop :=
 ∃ a cap,sv=.slice a l.length cap/\∀ k (hk:k<l.length),∃ g,a=some ⟨g,0,none⟩/\w.cell? ⟨g,k,none⟩=some (.pointer (some ⟨l[k].1,0,none⟩))/\w.cell? ⟨l[k].1,4,none⟩=some (.bool l[k].2)
def inl (gs:List MG) (i:Nat):List (Nat×Bool):=(inner gs i).map fun g=>(g.blk,g.a.dflt)
theorem PT.dsl {w:World} {base tb:Nat} {vt vv vm:Value} {vs:List VarA} {gs:List MG} {F:Nat->Prop} (h:PT w base tb vt vs gs F vv vm) (hl:Links gs) {i:Nat} (hi:i<gs.length):DSl w gs[i].vw (inl gs i):=by
 have ho:w.ownsRow base 164 1 gs[i].vw gs[i].wi.length (gs[i].wi.map ptrV):=h.mem.own _ _ (pt_at2 hi);have hwi:gs[i].wi=(inner gs i).map (·.blk):=by
  have h1:=(hl i gs[i].key (by simp [hi])).wi;have h2:gs[i].key.wi=gs[i].wi:=rfl;rw [<- h2,h1,inside,inner,List.filter_map,List.map_map];rfl
 have hlen:gs[i].wi.length=(inl gs i).length:=by rw [hwi,inl,List.length_map,List.length_map]
 obtain ⟨a,c,hv,_,_⟩:=row_shape ho;refine ⟨a,c,by rw [hv,hlen],fun k hk=>?_⟩;obtain ⟨g,cap,hv2,_,_,_,_,hcc⟩:=row_open ho (by omega);rw [hv] at hv2
 cases hv2
 have hki:k<(inner gs i).length:=by simpa [inl] using hk
 have e1:(inl gs i)[k]=((inner gs i)[k].blk,(inner gs i)[k].a.dflt):=by simp [inl]
 obtain ⟨j,hj,hje⟩:=List.getElem_of_mem ((List.mem_filter.1 (List.getElem_mem hki)).1:(inner gs i)[k]∈gs);refine ⟨g,rfl,?_,?_⟩
 ·refine (hcc k (by omega)).trans ?_
  rw [e1];simp only [hwi,List.map_map,List.getElem?_map,List.getElem?_eq_getElem hki];rfl
 ·rw [e1,<- hje]
  exact (h.modeCells hj).1 4 (by omega)
theorem inl_len (gs:List MG) (i:Nat):(inl gs i).length=(inner gs i).length:=by simp [inl]
theorem inl_dears (gs:List MG) (i:Nat):((inl gs i).filter (·.2)).length=dears gs i:=by
 rw [inl,List.filter_map,List.length_map];rfl
theorem countDefaults_any (w:World) (sv:Value) (l:List (Nat×Bool)) (h:DSl w sv l) (hl:l.length<=10000) :
  Calls Tryz.prog 161 #[sv] w fun e w'=>e=.returned (.int .i64 (l.filter (·.2)).length)/\w'=w:=by
 obtain ⟨a,cap,rfl,hc⟩:=h;have HC:=hide hc;clear hc;go_enter Tryz.func161,Tryz.ntmps161;go_wp2
 go_loop [3,5,8] (fun v3 _ v8=>∃ k:Nat,k<=l.length/\v8=.int .i64 k/\v3=.int .i64 ((l.take k).filter (·.2)).length) (fun _ _ v8=>l.length-(intOf v8).toNat)
 case atStart=>exact ⟨0,by omega,rfl,rfl⟩
 case round =>
  obtain ⟨k,hk,rfl,rfl⟩:=hrel
  by_cases hlt:k<l.length
  ·obtain ⟨g,rfl,x0,x1⟩:=HC.out k hlt
   have hki:(k:Int)<l.length:=by omega
   have hk0:(0:Int)<=k:=by omega
   have hle:((l.take k).filter (·.2)).length<=k:=Nat.le_trans (List.length_filter_le _ _) (List.length_take_le _ _);have hts:l.take (k+1)=l.take k++[l[k]]:=by rw [List.take_add_one,List.getElem?_eq_getElem hlt];rfl
   have HTS:=hide hts;clear hts;generalize l[k]=p at *
   cases hp:p.2 with
   | true =>
    rw [hp] at x1;have HN:=hide (show ((l.take (k+1)).filter (·.2)).length=((l.take k).filter (·.2)).length+1 by rw [HTS.out,List.filter_append];simp [hp]);clear hp;generalize ((l.take k).filter (·.2)).length=n at *;go_wp2
    go_round
    case rel=>exact ⟨k+1,by omega,by go_num,by rw [HN.out];go_num⟩
    case measure=>simp [intOf];omega
   | false =>
    rw [hp] at x1;have HN:=hide (show ((l.take (k+1)).filter (·.2)).length=((l.take k).filter (·.2)).length by rw [HTS.out,List.filter_append];simp [hp]);clear hp;generalize ((l.take k).filter (·.2)).length=n at *;go_wp2
    go_round
    case rel=>exact ⟨k+1,by omega,by go_num,by rw [HN.out]⟩
    case measure=>simp [intOf];omega
  ·have hki:¬ (k:Int)<l.length:=by omega
   have HN:=hide (show (l.take k).filter (·.2)=l.filter (·.2) by rw [List.take_of_length_le (by omega)]);go_wp2;go_ret;exact ⟨by rw [HN.out];rfl,rfl⟩
theorem tree_step (gs:List MG) (i:Nat) (s:CS) (h:i<gs.length):ckTree gs i (gs.drop i) s=ckTree gs (i+1) (gs.drop (i+1)) (s.ref (decide (0<(inner gs i).length) && (decide (dears gs i≠1))) 5 gs[i].a.name.line):=by
 rw [List.drop_eq_getElem_cons h];rfl
theorem checkTree_any (w:World) (c tb base:Nat) (vt vv vm:Value) (vs:List VarA) (gs:List MG) (s:CS) (va:Value) (h:CI w c tb s va) (hT:PT w base tb vt vs gs (fun k=>k<c) vv vm) (hL:Links gs) (hgl:gs.length<=3001) :
  Calls Tryz.prog 108 #[.pointer (some ⟨c,0,none⟩)] w fun e w'=>CkR w c tb va (ckTree gs 0 gs s) e w':=by
 have H0:=hide h;have HT0:=hide hT;have HL:=hide hL;obtain ⟨avm,cvm,hvm,hcvm,_⟩:=row_shape (hT.mem.own 2 _ rfl);simp only at hvm hcvm;subst hvm;obtain ⟨_,_,x2,_,_,htl,htc⟩:=hT.cells;have x0:w.cell? ⟨c,0,none⟩=some (.pointer (some ⟨tb,0,none⟩)):=Lib.cell_of_heap h.box 0;clear h hT hL;go_enter Tryz.func108,Tryz.ntmps108;go_wp2_with fail;clear x0 x2
 go_loopg [12] (gs.length) (fun k v12 wr=>∃ (i:Nat) (s1:CS),i+k=gs.length/\v12=.int .i64 i/\Kp (CF c va) w wr/\CI wr c tb s1 va/\ckTree gs i (gs.drop i) s1=ckTree gs 0 gs s)
 case atStart=>exact ⟨0,s,by omega,rfl,Kp.refl _ _,H0.out,rfl⟩
 case round =>
  obtain ⟨i,s1,hi,rfl,hk,hci,hF⟩:=hrel;have HK:=hide hk;have HCI:=hide hci;have HF:=hide hF;clear hk hci hF
  by_cases hlt:i<gs.length
  ·have hli:(i:Int)<gs.length:=by omega
   have hi0:(0:Int)<=i:=by omega
   have HTr:=hide (HT0.out.belowC (H0.out.toBelow HK.out));obtain ⟨gm,capm,_,e,hgm,hgc⟩:=HTr.out.msl.resolve_left (fun h=>by omega)
   cases e
   obtain ⟨g0,_,hbl⟩:=hgc i hlt;have hmc:=(HTr.out.modeCells hlt).1;have hbc:=(HTr.out.modeCells hlt).2.2.2.2;have hds:=fun X (hX:PT X base tb vt vs gs (fun k=>k<c) vv (.slice (some ⟨gm,0,none⟩) gs.length cvm))=>hX.dsl HL.out hlt
   have HST:=hide (tree_step gs i s1 hlt);have hil:(inl gs i).length<=10000:=by rw [inl_len];exact Nat.le_trans (List.length_filter_le _ _) (by omega)
   have HIL:=hide (inl_len gs i);have HID:=hide (inl_dears gs i);generalize hm:gs[i]=m at *;generalize inl gs i=l at *;have HDS:=hide hds;obtain ⟨al,cl,hvw,_⟩:=HDS.out wr HTr.out;have m0:wr.cell? ⟨m.blk,0,none⟩=some (.int .i64 (kindA m.a.name.k)):=hmc 0 (by omega);have m1:wr.cell? ⟨m.blk,1,none⟩=some (.string m.a.name.s):=hmc 1 (by omega);have m2:wr.cell? ⟨m.blk,2,none⟩=some (.int .i64 m.a.name.n):=hmc 2 (by omega);have m3:wr.cell? ⟨m.blk,3,none⟩=some (.int .i64 m.a.name.line):=hmc 3 (by omega);have m8:wr.cell? ⟨m.blk,8,none⟩=some m.vw:=hmc 8 (by omega);rw [hvw] at m8;have HVW:=hide hvw;have hcr:=HCI.out.lt;have nmc:¬ m.blk=c:=by omega
   clear hvw hgc hm hmc hds;go_wp2_with fail;clear g0
   by_cases hn:0<l.length
   ·have hni:(0:Int)<l.length:=by omega
    have HB:=hide (show s1.ref (((((l.filter (·.2)).length:Nat):Int) != 1)) 5 m.a.name.line=s1.ref (decide (0<(inner gs i).length) && decide (dears gs i≠1)) 5 m.a.name.line by
     rw [<- HIL.out,<- HID.out,decide_eq_true hn];congr 1
     rw [Bool.eq_iff_iff];simp;omega)
    have CK:Hid (∀ Y,PT Y base tb vt vs gs (fun k=>k<c) vv (.slice (some ⟨gm,0,none⟩) gs.length cvm)->Calls Tryz.prog 161 #[.slice al l.length cl] Y fun e w'=>e=.returned (.int .i64 (l.filter (·.2)).length)/\w'=Y):=hide (fun Y hY=>by
     have:=countDefaults_any Y m.vw l (HDS.out Y hY) hil;rw [HVW.out] at this
     exact this)
    generalize (l.filter (·.2)).length=cd at *
    go_region_held3 (fun Y=>Y.cell? ⟨m.blk,0,none⟩=some (.int .i64 (kindA m.a.name.k))/\Y.cell? ⟨m.blk,1,none⟩=some (.string m.a.name.s)/\Y.cell? ⟨m.blk,2,none⟩=some (.int .i64 m.a.name.n)/\Y.cell? ⟨m.blk,3,none⟩=some (.int .i64 m.a.name.line)/\Y.cell? ⟨m.blk,8,none⟩=some (.slice al l.length cl)) (first | go_keep | (exact ⟨by with_reducible assumption,by with_reducible assumption,by with_reducible assumption,by with_reducible assumption,by with_reducible assumption⟩))
     (first
      | (go_at_call 161;refine (CK.out _ ?_).mono ?_;exact HTr.out.below ⟨rfl,rfl,rfl,Nat.le_refl _,fun _ _=>rfl⟩;rintro e w2 ⟨rfl,rfl⟩)
      | (go_at_call 156;refine (refuse_any _ c tb (s1.rows:Int) va s1.cl _ 5 m.a.name ?_).mono ?_;exact HCI.out.box;intro e w3 hr3;obtain rfl:=hr3.ret;have p0:=(hr3.kept.cell (o:=0) hbl nmc).trans m0;have p1:=(hr3.kept.cell (o:=1) hbl nmc).trans m1;have p2:=(hr3.kept.cell (o:=2) hbl nmc).trans m2;have p3:=(hr3.kept.cell (o:=3) hbl nmc).trans m3;have p8:=(hr3.kept.cell (o:=8) hbl nmc).trans m8))
    have HC3:=hide (CI.ref (show CI wr.drew c tb s1 va from ⟨HCI.out.box,HCI.out.own⟩) hr3).1;have HK3:=hide (HK.out.drew.trans hr3.kept (fun _ e=>.inl (.inl e)));clear hr3 m0 m1 m2 m3 m8 p0 p1 p2 p3 p8 CK;go_wp2_with fail
    go_roundg (gs.length-(i+1))
    case measure=>omega
    case rel=>exact ⟨i+1,s1.ref (decide (0<(inner gs i).length) && decide (dears gs i≠1)) 5 m.a.name.line,by omega,by go_num,HK3.out,by rw [<- HB.out];exact HC3.out,by rw [<- HF.out,HST.out]⟩
   ·have hn0:l.length=0:=by omega
    rw [hn0] at m8;have HB:=hide (show s1.ref false 5 m.a.name.line=s1.ref (decide (0<(inner gs i).length) && decide (dears gs i≠1)) 5 m.a.name.line by rw [<- HIL.out,decide_eq_false hn];rfl);clear hn0;refine wp_region_held_drew (S:=fun Y=>Y.cell? ⟨m.blk,0,none⟩=some (.int .i64 (kindA m.a.name.k))/\Y.cell? ⟨m.blk,1,none⟩=some (.string m.a.name.s)/\Y.cell? ⟨m.blk,2,none⟩=some (.int .i64 m.a.name.n)/\Y.cell? ⟨m.blk,3,none⟩=some (.int .i64 m.a.name.line)/\Y.cell? ⟨m.blk,8,none⟩=some (.slice al 0 cl)) (by kernel_rfl) ⟨m0,m1,m2,m3,m8⟩ (fun hHeld=>?_);refine tkR 0 rfl ?_ ?_ hHeld ?_;rotate_left
    ·intro w hSw;(try dsimp only at hSw);go_simp;(try with_reducible rfl)
    (try simp only [Act.put,qA,qB,qC,qD,qE])
    refine tkR 1 rfl ?_ ?_ hHeld ?_;rotate_left
    ·intro w hSw;(try dsimp only at hSw);go_simp;(try with_reducible rfl)
    (try simp only [Act.put,qA,qB,qC,qD,qE,qF])
    refine tkR 2 rfl ?_ ?_ hHeld ?_;rotate_left
    ·intro w hSw;(try dsimp only at hSw);go_simp;(try with_reducible rfl)
    (try simp only [Act.put,qA,qB,qC,qD,qE,qF])
    refine tkR 3 rfl ?_ ?_ hHeld ?_;rotate_left
    ·intro w hSw;(try dsimp only at hSw);go_simp;(try with_reducible rfl)
    (try simp only [Act.put,qA,qB,qC,qD,qE,qF])
    refine tkR 4 rfl ?_ ?_ hHeld ?_;rotate_left
    ·intro w hSw;(try dsimp only at hSw);go_simp;(try with_reducible rfl)
    (try simp only [Act.put,qA,qB,qC,qD,qE,qF])
    refine tkR 5 rfl ?_ ?_ hHeld ?_;rotate_left
    ·intro w hSw;(try dsimp only at hSw);go_simp;(try with_reducible rfl)
    (try simp only [Act.put,qA,qB,qC,qD,qE,qF])
    refine tkR 6 rfl ?_ ?_ hHeld ?_;rotate_left
    ·intro w hSw;(try dsimp only at hSw);go_simp;(try with_reducible rfl)
    (try simp only [Act.put,qA,qB,qC,qD,qE,qF])
    refine tkR 7 rfl ?_ ?_ hHeld ?_;rotate_left
    ·intro w hSw;(try dsimp only at hSw);go_simp;(try with_reducible rfl)
    (try simp only [Act.put,qA,qB,qC,qD,qE,qF])
    refine skR 8 rfl hHeld ?_
    (try simp only [Act.put,qA,qB,qC,qD,qE,qF])
    refine skR 9 rfl hHeld ?_
    (try simp only [Act.put,qA,qB,qC,qD,qE,qF])
    refine skR 10 rfl hHeld ?_
    (try simp only [Act.put,qA,qB,qC,qD,qE,qF])
    refine skR 11 rfl hHeld ?_
    (try simp only [Act.put,qA,qB,qC,qD,qE,qF])
    refine skR 12 rfl hHeld ?_
    (try simp only [Act.put,qA,qB,qC,qD,qE,qF])
    refine skR 13 rfl hHeld ?_
    (try simp only [Act.put,qA,qB,qC,qD,qE,qF])
    refine tkR 14 rfl ?_ ?_ hHeld ?_;rotate_left
    ·intro w hSw;(try dsimp only at hSw);go_simp;(try with_reducible rfl)
    (try simp only [Act.put,qA,qB,qC,qD,qE,qF])
    refine tkR 15 rfl ?_ ?_ hHeld ?_;rotate_left
    ·intro w hSw;(try dsimp only at hSw);go_simp;(try with_reducible rfl)
    (try simp only [Act.put,qA,qB,qC,qD,qE,qF])
    refine tkR 16 rfl ?_ ?_ hHeld ?_;rotate_left
    ·intro w hSw;(try dsimp only at hSw);go_simp;(try with_reducible rfl)
    (try simp only [Act.put,qA,qB,qC,qD,qE,qF])
    refine tkR 17 rfl ?_ ?_ hHeld ?_;rotate_left
    ·intro w hSw;(try dsimp only at hSw);go_simp;(try with_reducible rfl)
    (try simp only [Act.put,qA,qB,qC,qD,qE,qF])
    refine tkR 18 rfl ?_ ?_ hHeld ?_;rotate_left
    ·intro w hSw;(try dsimp only at hSw);go_simp;(try with_reducible rfl)
    (try simp only [Act.put,qA,qB,qC,qD,qE,qF])
    refine wpAnyH_ready (rs:=[19]) (by kernel_rfl) (by simp) ?_;refine AllReadyH.cons rfl (fun K hK=>?_) AllReadyH.nil
    go_simp
    refine (refuse_any _ c tb (s1.rows:Int) va s1.cl _ 5 m.a.name ?_).mono ?_
    ·exact HCI.out.box
    intro e w3 hr3;obtain rfl:=hr3.ret;have HC3:=hide (CI.ref (show CI wr.drew c tb s1 va from ⟨HCI.out.box,HCI.out.own⟩) hr3).1;have HK3:=hide (HK.out.drew.trans hr3.kept (fun _ e=>.inl (.inl e)));refine hK.out _ _ ⟨(hr3.kept.cell hbl nmc).trans m0,(hr3.kept.cell hbl nmc).trans m1,(hr3.kept.cell hbl nmc).trans m2,(hr3.kept.cell hbl nmc).trans m3,(hr3.kept.cell hbl nmc).trans m8⟩ (fun _=>?_);clear hK K hr3
    (try simp only [Act.put,qA,qB,qC,qD,qE,qF])
    refine wpAnyH_done (by kernel_rfl) ?_ _;go_wp2_with fail
    go_roundg (gs.length-(i+1))
    case measure=>omega
    case rel=>exact ⟨i+1,s1.ref (decide (0<(inner gs i).length) && decide (dears gs i≠1)) 5 m.a.name.line,by omega,by go_num,HK3.out,by rw [<- HB.out];exact HC3.out,by rw [<- HF.out,HST.out]⟩
  ·have hli:¬ (i:Int)<gs.length:=by omega
   have HE:=hide (show s1=ckTree gs 0 gs s by rw [<- HF.out,List.drop_of_length_le (by omega)];rfl);go_wp2_with fail;go_end0;exact ⟨rfl,HK.out,va,by rw [<- HE.out];exact HCI.out,fun _ e=>.inl e⟩
end
section
open Go.RowKit
theorem PT.lt {w:World} {base tb:Nat} {vt vv vm:Value} {vs:List VarA} {gs:List MG} {F:Nat->Prop} (h:PT w base tb vt vs gs F vv vm):PT w base tb vt vs gs (fun k=>k<w.heap.size) vv vm :=
 ⟨h.mem,fun _ ⟨_,_,hr,he⟩=>(h.mem.lt hr he).2,h.low⟩
theorem ckMode_len (vs:List VarA) (gs:List MG) (i:Nat) (m:MG) (s:CS):m.a.rows.length<=(ckMode vs gs i m s).rows:=by
 unfold ckMode;rw [fold_rows];omega
theorem ckModes_len (vs:List VarA) (gs:List MG) (l:List MG):∀ (i:Nat) (s:CS) (m:MG),m∈l->m.a.rows.length<=(ckModes vs gs i l s).rows:=by
 induction l with
 | nil=>intro i s m h;simp at h
 | cons x r ih =>
  intro i s m h;rcases List.mem_cons.1 h with rfl | h
  ·exact Nat.le_trans (ckMode_len vs gs i m s) (ckModes_rows vs gs r (i+1) _)
  ·exact ih (i+1) _ m h
theorem ckModes_step (vs:List VarA) (gs:List MG) (i:Nat) (s:CS) (h:i<gs.length):ckModes vs gs i (gs.drop i) s=ckModes vs gs (i+1) (gs.drop (i+1)) (ckMode vs gs i gs[i] s):=by
 rw [List.drop_eq_getElem_cons h];rfl
theorem CI.start {w:World} {c tb:Nat} (hb:w.heap[c]? = some (.cells (chkC tb 0 (.slice none 0 0) 0 0) 206 (0,0))):CI w c tb ⟨0,[],(0,0)⟩ (.slice none 0 0) :=
 ⟨hb,⟨rfl,.inl ⟨rfl,rfl⟩⟩⟩
theorem check_any (w:World) (base tb:Nat) (vt vv vm:Value) (vs:List VarA) (gs:List MG) (F:Nat->Prop) (hT:PT w base tb vt vs gs F vv vm) (hL:Links gs) (hvl:vs.length<=3001) (hgl:gs.length<=3001)
  (hat:(ckModes vs gs 0 gs (ckVars vs 0 vs ⟨0,[],(0,0)⟩)).atoms.length<=10000) (hro:(ckModes vs gs 0 gs (ckVars vs 0 vs ⟨0,[],(0,0)⟩)).rows<=10000) :
  Calls Tryz.prog 72 #[.pointer (some ⟨tb,0,none⟩)] w fun e w'=>e=.returned (.agg (faultC (ckAll vs gs).cl.1 (ckAll vs gs).cl.2))/\Below w.heap.size w w':=by
 have HL:=hide hL;have HRL:=hide (show ∀ m∈gs,m.a.rows.length<=10000 from fun m hm=>Nat.le_trans (ckModes_len vs gs gs 0 _ m hm) hro);have HALL:=hide (show ckAll vs gs=ckTree gs 0 gs (ckTargets gs gs (ckModes vs gs 0 gs (ckVars vs 0 vs ⟨0,[],(0,0)⟩))) from rfl);generalize hSM:ckModes vs gs 0 gs (ckVars vs 0 vs ⟨0,[],(0,0)⟩)=SM at *;have HSM:=hide hSM;have hB1:Below w.heap.size w (w.alloc (.cells (faultC 0 0) 34)):=(Below.refl _ _).alloc (Nat.le_refl _) _;have hB2:Below w.heap.size w ((w.alloc (.cells (faultC 0 0) 34)).alloc (.cells (chkC tb 0 (.slice none 0 0) 0 0) 206)):=hB1.alloc (by simp) _;have hW2:((w.alloc (.cells (faultC 0 0) 34)).alloc (.cells (chkC tb 0 (.slice none 0 0) 0 0) 206)).heap[w.heap.size+1]? = some (.cells (chkC tb 0 (.slice none 0 0) 0 0) 206 (0,0)):=by
  have:=heap_alloc_new (w.alloc (.cells (faultC 0 0) 34)) (.cells (chkC tb 0 (.slice none 0 0) 0 0) 206);simpa using this
 have hW1:((w.alloc (.cells (faultC 0 0) 34)).alloc (.cells (chkC tb 0 (.slice none 0 0) 0 0) 206)).heap[w.heap.size]? = some (.cells (faultC 0 0) 34 (0,0)) :=
  (((Below.refl (w.heap.size+1) (w.alloc (.cells (faultC 0 0) 34))).alloc (by simp) _).block w.heap.size (by omega)).trans (heap_alloc_new w _)
 have hsz:((w.alloc (.cells (faultC 0 0) 34)).alloc (.cells (chkC tb 0 (.slice none 0 0) 0 0) 206)).heap.size=w.heap.size+2:=by simp
 have hPT:=(hT.lt.mono (fun k (hk:k<w.heap.size)=>(show k<w.heap.size+1 by omega))).below hB2;obtain ⟨avm,cvm,hvm,_,_⟩:=row_shape (hT.mem.own 2 _ rfl);simp only at hvm;subst hvm;clear hT hL hB1 hSM;go_enter Tryz.func72,Tryz.ntmps72;go_wp2_with fail;rw [show (#[Value.int .i64 0,.int .i64 0,.string ⟨#[]⟩,.slice none 0 0,.slice none 0 0] : Array Value)=faultC 0 0 from rfl];rw [show (#[Value.pointer (some ⟨tb,0,none⟩),.int .i64 0,.slice none 0 0,.int .i64 0,.int .i64 0,.string ⟨#[]⟩,.slice none 0 0,.slice none 0 0] : Array Value)=chkC tb 0 (.slice none 0 0) 0 0 from rfl];generalize ((w.alloc (.cells (faultC 0 0) 34)).alloc (.cells (chkC tb 0 (.slice none 0 0) 0 0) 206))=W at *;have HC0:=hide (CI.start hW2);have HT0:=hide hPT;have HB0:=hide hB2;have HW1:=hide hW1;have HSZ:=hide hsz
 have KB:Hid (∀ X,Kp (CF (w.heap.size+1) (.slice none 0 0)) W X->PT X base tb vt vs gs (fun k=>k<w.heap.size+1) vv (.slice avm gs.length cvm)/\X.heap[w.heap.size]? = some (.cells (faultC 0 0) 34 (0,0))/\Below w.heap.size w X):=hide (fun X hX=>by
  have h1:Below (w.heap.size+1) W X:=HC0.out.toBelow hX
  exact ⟨HT0.out.belowC h1,(h1.block w.heap.size (by omega)).trans HW1.out,HB0.out.trans (h1.mono (by omega))⟩)
 clear hW2 hPT hB2 hW1 hsz;refine (checkVars_any W (w.heap.size+1) tb base vt vv _ vs gs _ _ HC0.out HT0.out hvl).mono ?_;intro e w1 hr1;obtain rfl:=hr1.ret;obtain ⟨va1,hc1,hv1⟩:=hr1.ci;have HK1:=hide hr1.kept;have HC1:=hide hc1;have HV1:=hide hv1;generalize ckVars vs 0 vs ⟨0,[],(0,0)⟩=s1 at *;clear hr1 hc1 hv1;have HT1:=hide (KB.out w1 HK1.out).1;obtain ⟨_,_,v2,_,_,htl1,_⟩:=HT1.out.cells;go_wp2_with fail;clear v2
 go_loopg [14] (gs.length) (fun k v14 wr=>∃ (i:Nat) (s:CS) (va:Value),i+k=gs.length/\v14=.int .i64 i/\Kp (CF (w.heap.size+1) (.slice none 0 0)) W wr/\CI wr (w.heap.size+1) tb s va/\(∀ q,va.ownBlock=some q->(Value.slice none 0 0).ownBlock=some q\/W.heap.size<=q)/\ckModes vs gs i (gs.drop i) s=SM)
 case atStart=>exact ⟨0,s1,va1,by omega,rfl,HK1.out,HC1.out,HV1.out,HSM.out⟩
 case round =>
  obtain ⟨i,s,va,hi,rfl,hk,hci,hvo,hF⟩:=hrel;have HK:=hide hk;have HCI:=hide hci;have HVO:=hide hvo;have HF:=hide hF;have HTr:=hide (KB.out wr hk).1;clear hk hci hvo hF HK1 HC1 HV1 HT1
  by_cases hlt:i<gs.length
  ·have hli:(i:Int)<gs.length:=by omega
   have hi0:(0:Int)<=i:=by omega
   obtain ⟨gm,capm,_,e,_,hgc⟩:=HTr.out.msl.resolve_left (fun h=>by omega)
   cases e
   obtain ⟨g0,_,_⟩:=hgc i hlt;have HST:=hide ((ckModes_step vs gs i s hlt).symm.trans HF.out);have hl1:(ckMode vs gs i gs[i] s).atoms.length<=10000:=by have h1:=ckModes_atoms vs gs (gs.drop (i+1)) (i+1) (ckMode vs gs i gs[i] s);rw [HST.out] at h1;omega
   have hl2:(ckMode vs gs i gs[i] s).rows<=10000:=by have h1:=ckModes_rows vs gs (gs.drop (i+1)) (i+1) (ckMode vs gs i gs[i] s);rw [HST.out] at h1;omega
   have CM:=hide (checkMode_any wr (w.heap.size+1) tb base vt vv _ vs gs s va i hlt HCI.out HTr.out hvl hgl hl1 hl2);generalize gs[i]=m at *;generalize ckMode vs gs i m s=s2 at *;clear hgc;go_wp2_with fail;refine CM.out.mono ?_;intro e w2 hr2;obtain rfl:=hr2.ret;have hr3:=CkR.trans HK.out HVO.out hr2;obtain ⟨va2,hc2,hv2⟩:=hr3.ci;have HK2:=hide hr3.kept;have HC2:=hide hc2;have HV2:=hide hv2;clear hr2 hr3 hc2 hv2 g0;go_wp2_with fail
   go_roundg (gs.length-(i+1))
   case measure=>omega
   case rel=>exact ⟨i+1,s2,va2,by omega,by go_num,HK2.out,HC2.out,HV2.out,HST.out⟩
  ·have hli:¬ (i:Int)<gs.length:=by omega
   obtain rfl:s=SM:=by have:=HF.out;rw [List.drop_of_length_le (by omega)] at this;exact this
   go_wp2_with fail;refine (checkTargets_any wr (w.heap.size+1) tb base vt vv _ vs gs s va HCI.out HTr.out hgl HRL.out).mono ?_;intro e w2 hr2;obtain rfl:=hr2.ret;have hr3:=CkR.trans HK.out HVO.out hr2;obtain ⟨va2,hc2,hv2⟩:=hr3.ci;have HK2:=hide hr3.kept;have HC2:=hide hc2;have HV2:=hide hv2;have HT2:=hide (KB.out w2 hr3.kept).1;generalize ckTargets gs gs s=s2 at *;clear hr2 hr3 hc2 hv2;go_wp2_with fail;refine (checkTree_any w2 (w.heap.size+1) tb base vt vv _ vs gs s2 va2 HC2.out HT2.out HL.out hgl).mono ?_;intro e w3 hr3;obtain rfl:=hr3.ret;have hr4:=CkR.trans HK2.out HV2.out hr3;obtain ⟨va3,hc3,hv3⟩:=hr4.ci;have HK3:=hide hr4.kept;have HC3:=hide hc3;have HB3:=hide (KB.out w3 hr4.kept).2;rw [<- HALL.out] at HC3;generalize hsa:ckAll vs gs=sa at *;have HSA:=hide hsa;clear hsa;clear hr3 hr4 hc3 hv3;have x3:w3.cell? ⟨w.heap.size+1,3,none⟩=some (.int .i64 sa.cl.1):=Lib.cell_of_heap HC3.out.box 3;have x4:w3.cell? ⟨w.heap.size+1,4,none⟩=some (.int .i64 sa.cl.2):=Lib.cell_of_heap HC3.out.box 4;have x5:w3.cell? ⟨w.heap.size+1,5,none⟩=some (.string ⟨#[]⟩):=Lib.cell_of_heap HC3.out.box 5;have x6:w3.cell? ⟨w.heap.size+1,6,none⟩=some (.slice none 0 0):=Lib.cell_of_heap HC3.out.box 6;have x7:w3.cell? ⟨w.heap.size+1,7,none⟩=some (.slice none 0 0):=Lib.cell_of_heap HC3.out.box 7;have hf1:=HB3.out.1;have y0:w3.cell? ⟨w.heap.size,0,none⟩=some (.int .i64 0):=Lib.cell_of_heap hf1 0;have z0:w3.frozen? ⟨w.heap.size,0,none⟩=false:=Lib.frozen_of_heap hf1 0;have y1:w3.cell? ⟨w.heap.size,1,none⟩=some (.int .i64 0):=Lib.cell_of_heap hf1 1;have z1:w3.frozen? ⟨w.heap.size,1,none⟩=false:=Lib.frozen_of_heap hf1 1;have y2:w3.cell? ⟨w.heap.size,2,none⟩=some (.string ⟨#[]⟩):=Lib.cell_of_heap hf1 2;have z2:w3.frozen? ⟨w.heap.size,2,none⟩=false:=Lib.frozen_of_heap hf1 2;have y3:w3.cell? ⟨w.heap.size,3,none⟩=some (.slice none 0 0):=Lib.cell_of_heap hf1 3;have z3:w3.frozen? ⟨w.heap.size,3,none⟩=false:=Lib.frozen_of_heap hf1 3;have y4:w3.cell? ⟨w.heap.size,4,none⟩=some (.slice none 0 0):=Lib.cell_of_heap hf1 4;have z4:w3.frozen? ⟨w.heap.size,4,none⟩=false:=Lib.frozen_of_heap hf1 4;clear hf1;go_wp2_with fail;refine bodyPost_ret (v:=.agg #[.int .i64 sa.cl.1,.int .i64 sa.cl.2,.string ⟨#[]⟩,.slice none 0 0,.slice none 0 0]) (by simp [results,Tryz.results72,go_sem, *]) rfl ?_;exact ⟨by rw [HSA.out];rfl,fset_below HB3.out.2⟩
end
end Go.Proofs.YtdjaiolfdbamcaaGreatDoor
