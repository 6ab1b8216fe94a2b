/- The walk of the checker's checkGuard. -/
import Derived.Test.YtdjaiolfdbamcaaGreatDoorZWChk7
import Derived.Deep.LoopGhost
set_option maxRecDepth 20000
set_option maxHeartbeats 4000000
namespace Go.Proofs.YtdjaiolfdbamcaaGreatDoor
section
open Go.RowKit
theorem Tryz.taOr (W:World) (v:Value):(Instr.typeAssert (.iface 300 v) 230 300 true).run Tryz.prog W=.ok (.tuple #[v,.bool true]) W:=by kernel_rfl
theorem Tryz.taAndOr (W:World) (v:Value):(Instr.typeAssert (.iface 301 v) 230 300 true).run Tryz.prog W=.ok (.tuple #[.agg #[.nilIface,.nilIface],.bool false]) W:=by kernel_rfl
theorem Tryz.taAnd (W:World) (v:Value):(Instr.typeAssert (.iface 301 v) 230 301 true).run Tryz.prog W=.ok (.tuple #[v,.bool true]) W:=by kernel_rfl
theorem Tryz.taNotOr (W:World) (v:Value):(Instr.typeAssert (.iface 303 v) 230 300 true).run Tryz.prog W=.ok (.tuple #[.agg #[.nilIface,.nilIface],.bool false]) W:=by kernel_rfl
theorem Tryz.taNotAnd (W:World) (v:Value):(Instr.typeAssert (.iface 303 v) 230 301 true).run Tryz.prog W=.ok (.tuple #[.agg #[.nilIface,.nilIface],.bool false]) W:=by kernel_rfl
theorem Tryz.taNot (W:World) (v:Value):(Instr.typeAssert (.iface 303 v) 230 303 true).run Tryz.prog W=.ok (.tuple #[v,.bool true]) W:=by kernel_rfl
theorem Tryz.taGroupOr (W:World) (v:Value):(Instr.typeAssert (.iface 305 v) 230 300 true).run Tryz.prog W=.ok (.tuple #[.agg #[.nilIface,.nilIface],.bool false]) W:=by kernel_rfl
theorem Tryz.taGroupAnd (W:World) (v:Value):(Instr.typeAssert (.iface 305 v) 230 301 true).run Tryz.prog W=.ok (.tuple #[.agg #[.nilIface,.nilIface],.bool false]) W:=by kernel_rfl
theorem Tryz.taGroupNot (W:World) (v:Value):(Instr.typeAssert (.iface 305 v) 230 303 true).run Tryz.prog W=.ok (.tuple #[.agg #[.nilIface],.bool false]) W:=by kernel_rfl
theorem Tryz.taGroup (W:World) (v:Value):(Instr.typeAssert (.iface 305 v) 230 305 true).run Tryz.prog W=.ok (.tuple #[v,.bool true]) W:=by kernel_rfl
theorem Tryz.taAtomOr (W:World) (v:Value):(Instr.typeAssert (.iface 307 v) 230 300 true).run Tryz.prog W=.ok (.tuple #[.agg #[.nilIface,.nilIface],.bool false]) W:=by kernel_rfl
theorem Tryz.taAtomAnd (W:World) (v:Value):(Instr.typeAssert (.iface 307 v) 230 301 true).run Tryz.prog W=.ok (.tuple #[.agg #[.nilIface,.nilIface],.bool false]) W:=by kernel_rfl
theorem Tryz.taAtomNot (W:World) (v:Value):(Instr.typeAssert (.iface 307 v) 230 303 true).run Tryz.prog W=.ok (.tuple #[.agg #[.nilIface],.bool false]) W:=by kernel_rfl
theorem Tryz.taAtomGroup (W:World) (v:Value):(Instr.typeAssert (.iface 307 v) 230 305 true).run Tryz.prog W=.ok (.tuple #[.agg #[.int .i64 0,.string ⟨#[]⟩,.int .i64 0,.int .i64 0,.nilIface],.bool false]) W:=by kernel_rfl
theorem Tryz.taAtom (W:World) (v:Value):(Instr.typeAssert (.iface 307 v) 230 307 true).run Tryz.prog W=.ok (.tuple #[v,.bool true]) W:=by kernel_rfl
theorem Tryz.taTrueOr (W:World) (v:Value):(Instr.typeAssert (.iface 370 v) 230 300 true).run Tryz.prog W=.ok (.tuple #[.agg #[.nilIface,.nilIface],.bool false]) W:=by kernel_rfl
theorem Tryz.taTrueAnd (W:World) (v:Value):(Instr.typeAssert (.iface 370 v) 230 301 true).run Tryz.prog W=.ok (.tuple #[.agg #[.nilIface,.nilIface],.bool false]) W:=by kernel_rfl
theorem Tryz.taTrueNot (W:World) (v:Value):(Instr.typeAssert (.iface 370 v) 230 303 true).run Tryz.prog W=.ok (.tuple #[.agg #[.nilIface],.bool false]) W:=by kernel_rfl
theorem Tryz.taTrueGroup (W:World) (v:Value):(Instr.typeAssert (.iface 370 v) 230 305 true).run Tryz.prog W=.ok (.tuple #[.agg #[.int .i64 0,.string ⟨#[]⟩,.int .i64 0,.int .i64 0,.nilIface],.bool false]) W:=by kernel_rfl
theorem Tryz.taTrueAtom (W:World) (v:Value):(Instr.typeAssert (.iface 370 v) 230 307 true).run Tryz.prog W=.ok (.tuple #[.agg #[.bool false,.int .i64 0,.string ⟨#[]⟩,.int .i64 0,.int .i64 0,.int .i64 0,.string ⟨#[]⟩,.int .i64 0,.int .i64 0,.int .i64 0,.string ⟨#[]⟩,.int .i64 0,.int .i64 0],.bool false]) W:=by kernel_rfl
theorem addAtom_len (s:CS) (k:AK):s.atoms.length<=(s.addAtom k).atoms.length:=by unfold CS.addAtom;split <;> simp
theorem ckG_mono (vs:List VarA) (g:Hx.G):∀ d s,s.atoms.length<=(ckG vs g d s).atoms.length:=by
 induction g with
 | or l r h1 h2=>intro d s;exact Nat.le_trans (h1 d s) (h2 d _)
 | and l r h1 h2=>intro d s;exact Nat.le_trans (h1 d s) (h2 d _)
 | not g h=>intro d s;exact h d s
 | group t g h=>intro d s;exact h (d+1) (s.ref _ 1 t.line)
 | tru=>intro d s;exact Nat.le_refl _
 | atom w n o i ok=>intro d s;exact addAtom_len s (atomKey w n o i)
theorem gval_iface (g:Hx.G):∃ T x,gval g=.iface T x:=by cases g <;> exact ⟨_,_,rfl⟩
theorem CI.notNew {w:World} {c tb:Nat} {s:CS} {va:Value} (h:CI w c tb s va):¬ CF c va w.heap.size:=by
 rintro (e | e)
 ·have:=h.lt;omega
 ·have:=(h.own.lt _ e).2;omega
theorem dec6 (d:Nat):decide ((6:Int)<=(d:Int))=decide (6<=d):=by rw [Bool.eq_iff_iff];simp;omega
theorem checkGuard_any (c tb base:Nat) (vt vv vm:Value) (vs:List VarA) (gs:List MG) (hvl:vs.length<=3001) (g:Hx.G):∀ (w:World) (s:CS) (va:Value) (d:Nat),CI w c tb s va->PT w base tb vt vs gs (fun k=>k<c) vv vm->d+g.deep<=10000->(ckG vs g d s).atoms.length<=10000 ->
  Calls Tryz.prog 160 #[.pointer (some ⟨c,0,none⟩),gval g,.int .i64 d] w fun e w'=>CkR w c tb va (ckG vs g d s) e w':=by
 induction g with
 | or l r ihl ihr =>
  intro w s va d h hT hd hlen;obtain ⟨Tl,xl,hgl⟩:=gval_iface l;obtain ⟨Tr,xr,hgr⟩:=gval_iface r;rw [show gval (.or l r)=.iface 300 (.agg #[.iface Tl xl,.iface Tr xr]) by rw [<- hgl,<- hgr];rfl];rw [hgl] at ihl;rw [hgr] at ihr;have HL:=hide ihl;have HR:=hide ihr;have hl1:(ckG vs l d s).atoms.length<=10000:=Nat.le_trans (ckG_mono vs r d _) hlen;have hl2:(ckG vs r d (ckG vs l d s)).atoms.length<=10000:=hlen;have hdl:d+l.deep<=10000:=by simp only [Hx.G.deep] at hd;omega
  have hdr:d+r.deep<=10000:=by simp only [Hx.G.deep] at hd;omega
  have hnn:=h.notNew;have hB:Below w.heap.size w (w.alloc (.cells #[.iface Tl xl,.iface Tr xr] 300)):=(Below.refl _ _).alloc (Nat.le_refl _) _;have HBX:=hide (heap_alloc_new w (.cells #[.iface Tl xl,.iface Tr xr] 300));have HCI:=hide (h.below hB);have HT:=hide (hT.below hB);have HKB:Hid (Kp (CF c va) w (w.alloc (.cells #[.iface Tl xl,.iface Tr xr] 300))):=hide (Kp.ofBelow hB);have H0:=hide h;have HT0:=hide hT;clear hgl hgr ihl ihr h hT hB hlen;have ta0:=Tryz.taOr;go_enter Tryz.func160,Tryz.ntmps160;go_wp2_with fail;refine (HL.out _ s va d HCI.out HT.out hdl hl1).mono ?_;intro e w1 hr1;obtain rfl:=hr1.ret;have hbx1:=(hr1.kept.block w.heap.size (by simp) hnn).trans HBX.out;have x1:w1.cell? ⟨w.heap.size,1,none⟩=some (.iface Tr xr):=Lib.cell_of_heap hbx1 1;obtain ⟨va1,hc1,hv1⟩:=hr1.ci;have HC1:=hide hc1;have HK1:=hide (HKB.out.trans hr1.kept (fun _ e=>.inl e));have HT1:=hide (HT0.out.belowC (H0.out.toBelow HK1.out));have HV1:Hid (∀ k,va1.ownBlock=some k->va.ownBlock=some k\/w.heap.size<=k):=hide (fun k e=>(hv1 k e).imp id (fun h=>Nat.le_trans (by simp) h));clear hr1 hbx1 hc1 hv1;go_wp2_with fail;refine (HR.out w1 (ckG vs l d s) va1 d HC1.out HT1.out hdr hl2).mono ?_;intro e w2 hr2;obtain rfl:=hr2.ret;have HR2:=hide (CkR.trans HK1.out HV1.out hr2);clear hr2;go_wp2_with fail;go_end0;exact HR2.out
 | and l r ihl ihr =>
  intro w s va d h hT hd hlen;obtain ⟨Tl,xl,hgl⟩:=gval_iface l;obtain ⟨Tr,xr,hgr⟩:=gval_iface r;rw [show gval (.and l r)=.iface 301 (.agg #[.iface Tl xl,.iface Tr xr]) by rw [<- hgl,<- hgr];rfl];rw [hgl] at ihl;rw [hgr] at ihr;have HL:=hide ihl;have HR:=hide ihr;have hl1:(ckG vs l d s).atoms.length<=10000:=Nat.le_trans (ckG_mono vs r d _) hlen;have hl2:(ckG vs r d (ckG vs l d s)).atoms.length<=10000:=hlen;have hdl:d+l.deep<=10000:=by simp only [Hx.G.deep] at hd;omega
  have hdr:d+r.deep<=10000:=by simp only [Hx.G.deep] at hd;omega
  have hnn:=h.notNew;have hB:Below w.heap.size w (w.alloc (.cells #[.iface Tl xl,.iface Tr xr] 301)):=(Below.refl _ _).alloc (Nat.le_refl _) _;have HBX:=hide (heap_alloc_new w (.cells #[.iface Tl xl,.iface Tr xr] 301));have HCI:=hide (h.below hB);have HT:=hide (hT.below hB);have HKB:Hid (Kp (CF c va) w (w.alloc (.cells #[.iface Tl xl,.iface Tr xr] 301))):=hide (Kp.ofBelow hB);have H0:=hide h;have HT0:=hide hT;clear hgl hgr ihl ihr h hT hB hlen;have ta0:=Tryz.taAndOr;have ta1:=Tryz.taAnd;go_enter Tryz.func160,Tryz.ntmps160;go_wp2_with fail;refine (HL.out _ s va d HCI.out HT.out hdl hl1).mono ?_;intro e w1 hr1;obtain rfl:=hr1.ret;have hbx1:=(hr1.kept.block w.heap.size (by simp) hnn).trans HBX.out;have x1:w1.cell? ⟨w.heap.size,1,none⟩=some (.iface Tr xr):=Lib.cell_of_heap hbx1 1;obtain ⟨va1,hc1,hv1⟩:=hr1.ci;have HC1:=hide hc1;have HK1:=hide (HKB.out.trans hr1.kept (fun _ e=>.inl e));have HT1:=hide (HT0.out.belowC (H0.out.toBelow HK1.out));have HV1:Hid (∀ k,va1.ownBlock=some k->va.ownBlock=some k\/w.heap.size<=k):=hide (fun k e=>(hv1 k e).imp id (fun h=>Nat.le_trans (by simp) h));clear hr1 hbx1 hc1 hv1;go_wp2_with fail;refine (HR.out w1 (ckG vs l d s) va1 d HC1.out HT1.out hdr hl2).mono ?_;intro e w2 hr2;obtain rfl:=hr2.ret;have HR2:=hide (CkR.trans HK1.out HV1.out hr2);clear hr2;go_wp2_with fail;go_end0;exact HR2.out
 | not g ih =>
  intro w s va d h hT hd hlen;obtain ⟨Tl,xl,hgl⟩:=gval_iface g;rw [show gval (.not g)=.iface 303 (.agg #[.iface Tl xl]) by rw [<- hgl];rfl];rw [hgl] at ih;have HL:=hide ih;have hB:Below w.heap.size w (w.alloc (.cells #[.iface Tl xl] 303)):=(Below.refl _ _).alloc (Nat.le_refl _) _;have HCI:=hide (h.below hB);have HT:=hide (hT.below hB);have HKB:Hid (Kp (CF c va) w (w.alloc (.cells #[.iface Tl xl] 303))):=hide (Kp.ofBelow hB);clear hgl ih h hT hB;have ta0:=Tryz.taNotOr;have ta1:=Tryz.taNotAnd;have ta2:=Tryz.taNot;go_enter Tryz.func160,Tryz.ntmps160;go_wp2_with fail;refine (HL.out _ s va d HCI.out HT.out hd hlen).mono ?_;intro e w1 hr1;obtain rfl:=hr1.ret;have HR1:=hide (CkR.trans HKB.out (fun k e=>.inl e) hr1);clear hr1;go_wp2_with fail;go_end0;exact HR1.out
 | group t g ih =>
  intro w s va d h hT hd hlen;obtain ⟨Tl,xl,hgl⟩:=gval_iface g;rw [show gval (.group t g)=.iface 305 (.agg #[.int .i64 (kindA t.k),.string t.s,.int .i64 t.n,.int .i64 t.line,.iface Tl xl]) by rw [<- hgl];rfl];rw [hgl] at ih;have HL:=hide ih;have hd1:d+1+g.deep<=10000:=by simp only [Hx.G.deep] at hd;omega
  have hdi:(d:Int)<=10000:=by omega
  have hnn:=h.notNew;have hcl:=h.lt;have hB:Below w.heap.size w (w.alloc (.cells #[.int .i64 (kindA t.k),.string t.s,.int .i64 t.n,.int .i64 t.line,.iface Tl xl] 305)):=(Below.refl _ _).alloc (Nat.le_refl _) _;have HBX:=hide (heap_alloc_new w (.cells #[.int .i64 (kindA t.k),.string t.s,.int .i64 t.n,.int .i64 t.line,.iface Tl xl] 305));have HCI:=hide (h.below hB);have HT:=hide (hT.below hB);have HKB:Hid (Kp (CF c va) w (w.alloc (.cells #[.int .i64 (kindA t.k),.string t.s,.int .i64 t.n,.int .i64 t.line,.iface Tl xl] 305))):=hide (Kp.ofBelow hB);have H0:=hide h;have HT0:=hide hT;have hlen':(ckG vs g (d+1) (s.ref (decide ((6:Int)<=(d:Int))) 1 t.line)).atoms.length<=10000:=by rw [dec6];exact hlen
  have HE:=hide (show ckG vs (.group t g) d s=ckG vs g (d+1) (s.ref (decide ((6:Int)<=(d:Int))) 1 t.line) by rw [dec6];rfl);rw [HE.out];clear hgl ih h hT hB hlen;have ta0:=Tryz.taGroupOr;have ta1:=Tryz.taGroupAnd;have ta2:=Tryz.taGroupNot;have ta3:=Tryz.taGroup;go_enter Tryz.func160,Tryz.ntmps160;go_wp2_with fail;refine (refuse_any _ c tb (s.rows:Int) va s.cl _ 1 t HCI.out.box).mono ?_;intro e w1 hr1;obtain rfl:=hr1.ret;have hbx1:=(hr1.kept.block w.heap.size (by simp) (fun e=>by omega)).trans HBX.out;have x1:w1.cell? ⟨w.heap.size,4,none⟩=some (.iface Tl xl):=Lib.cell_of_heap hbx1 4;have HC1:=hide (HCI.out.ref hr1);have HK1:=hide (HKB.out.trans hr1.kept (fun _ e=>.inl (.inl e)));have HT1:=hide (HT0.out.belowC (H0.out.toBelow HK1.out));clear hr1 hbx1;go_wp2_with fail;rw [show ((d:Int)+1)=((d+1:Nat):Int) by omega];refine (HL.out w1 _ va (d+1) HC1.out.1 HT1.out hd1 hlen').mono ?_;intro e w2 hr2;obtain rfl:=hr2.ret;have HR2:=hide (CkR.trans HK1.out (fun k e=>.inl e) hr2);clear hr2;go_wp2_with fail;go_end0;exact HR2.out
 | tru =>
  intro w s va d h hT hd hlen;rw [show gval .tru=.iface 370 (.agg #[]) from rfl];have H0:=hide h;clear h hT;have ta0:=Tryz.taTrueOr;have ta1:=Tryz.taTrueAnd;have ta2:=Tryz.taTrueNot;have ta3:=Tryz.taTrueGroup;have ta4:=Tryz.taTrueAtom;go_enter Tryz.func160,Tryz.ntmps160;go_wp2_with fail;go_end0;exact ⟨rfl,Kp.refl _ _,va,H0.out,fun _ e=>.inl e⟩
 | atom was n o i ok =>
  intro w s va d h hT hd hlen;rw [show gval (.atom was n o i ok)=.iface 307 (.agg #[.bool was.isSome,.int .i64 (kindA n.k),.string n.s,.int .i64 n.n,.int .i64 n.line,.int .i64 (kindA o.k),.string o.s,.int .i64 o.n,.int .i64 o.line,.int .i64 (kindA i.k),.string i.s,.int .i64 i.n,.int .i64 i.line]) from rfl];have hB:Below w.heap.size w (w.alloc (.cells #[.bool was.isSome,.int .i64 (kindA n.k),.string n.s,.int .i64 n.n,.int .i64 n.line,.int .i64 (kindA o.k),.string o.s,.int .i64 o.n,.int .i64 o.line,.int .i64 (kindA i.k),.string i.s,.int .i64 i.n,.int .i64 i.line] 307)):=(Below.refl _ _).alloc (Nat.le_refl _) _;have HL:=hide (checkAtom_any _ c tb base vt vv vm vs gs s va was n o i (h.below hB) (hT.below hB) hvl hlen);have HKB:Hid (Kp (CF c va) w _):=hide (Kp.ofBelow hB);clear h hT hB;have ta0:=Tryz.taAtomOr;have ta1:=Tryz.taAtomAnd;have ta2:=Tryz.taAtomNot;have ta3:=Tryz.taAtomGroup;have ta4:=Tryz.taAtom;go_enter Tryz.func160,Tryz.ntmps160;go_wp2_with fail;refine HL.out.mono ?_;intro e w1 hr1;obtain rfl:=hr1.ret;have HR1:=hide (CkR.trans HKB.out (fun k e=>.inl e) hr1);clear hr1;go_wp2_with fail;go_end0;exact HR1.out
end
section
open Go.RowKit
attribute [local go_sem ↓] Go.wp_at_zero Go.wp_at_succ
theorem VSl.front {w:World} {a:Option Addr} {m i c:Nat} {vs:List VarA} (h:VSl w (.slice a m c) m vs) (hi:i<=m) (h0:0<m):VSl w (.slice a i c) i vs:=by
 rcases h with ⟨_,e⟩ | ⟨g,cap,hml,e,hg,hc⟩
 ·omega
 ·cases e
  exact .inr ⟨g,_,Nat.le_trans hi hml,rfl,fun h=>hg (by omega),fun k hk=>hc k (by omega)⟩
theorem dec3 (d:Nat):decide ((3:Int)<=(d:Int))=decide (3<=d):=by rw [Bool.eq_iff_iff];simp;omega
theorem ckVars_step (vs:List VarA) (i:Nat) (s:CS) (h:i<vs.length):ckVars vs i (vs.drop i) s=ckVars vs (i+1) (vs.drop (i+1)) (ckVar vs i vs[i] s):=by
 rw [List.drop_eq_getElem_cons h];rfl
theorem checkVars_any (w:World) (c tb base:Nat) (vt vv vm:Value) (vs:List VarA) (gs:List MG) (s:CS) (va:Value) (h:CI w c tb s va) (hT:PT w base tb vt vs gs (fun k=>k<c) vv vm) (hvl:vs.length<=3001) :
  Calls Tryz.prog 105 #[.pointer (some ⟨c,0,none⟩)] w fun e w'=>CkR w c tb va (ckVars vs 0 vs s) e w':=by
 have H0:=hide h;have HT0:=hide hT;obtain ⟨vav,cvv,hvv,_,_⟩:=row_shape (hT.mem.own 1 _ rfl);simp only at hvv;subst hvv;have x0:w.cell? ⟨c,0,none⟩=some (.pointer (some ⟨tb,0,none⟩)):=Lib.cell_of_heap h.box 0;obtain ⟨_,x1,_,_,_,htl,htc⟩:=hT.cells;have HVS:=hide hT.vsl;have hcl:=h.lt;clear h hT;go_enter Tryz.func105,Tryz.ntmps105;go_wp2_with fail;clear x0 x1
 go_loopg [12] (vs.length) (fun k v12 wr=>∃ (i:Nat) (s1:CS),i+k=vs.length/\v12=.int .i64 i/\Kp (CF c va) w wr/\CI wr c tb s1 va/\ckVars vs i (vs.drop i) s1=ckVars vs 0 vs s)
 case atStart=>exact ⟨0,s,by omega,rfl,Kp.refl _ _,H0.out,rfl⟩
 case round =>
  obtain ⟨i,s1,hi,rfl,hk,hci,hF⟩:=hrel;have HK:=hide hk;have HCI:=hide hci;have HF:=hide hF;clear hk hci hF
  by_cases hlt:i<vs.length
  ·have hli:(i:Int)<vs.length:=by omega
   have hi0:(0:Int)<=i:=by omega
   have HTr:=hide (HT0.out.belowC (H0.out.toBelow HK.out));have hsr:=HK.out.size;obtain ⟨gv,capv,_,e,hgl,hcc⟩:=HTr.out.vsl.resolve_left (fun h=>by omega)
   cases e
   have hgl':=hgl (by omega);have hcc':=hcc i hlt;obtain ⟨v,hv⟩ : ∃ v,v=vs[i]:=⟨_,rfl⟩;rw [<- hv] at hcc';have z0:wr.cell? ⟨gv,i*12,none⟩=some (.int .i64 (kindA v.name.k)):=hcc' 0 (by omega);have z1:wr.cell? ⟨gv,i*12+1,none⟩=some (.string v.name.s):=hcc' 1 (by omega);have z2:wr.cell? ⟨gv,i*12+2,none⟩=some (.int .i64 v.name.n):=hcc' 2 (by omega);have z3:wr.cell? ⟨gv,i*12+3,none⟩=some (.int .i64 v.name.line):=hcc' 3 (by omega);have z4:wr.cell? ⟨gv,i*12+4,none⟩=some (.int .i64 (kindA v.first.k)):=hcc' 4 (by omega);have z5:wr.cell? ⟨gv,i*12+5,none⟩=some (.string v.first.s):=hcc' 5 (by omega);have z6:wr.cell? ⟨gv,i*12+6,none⟩=some (.int .i64 v.first.n):=hcc' 6 (by omega);have z7:wr.cell? ⟨gv,i*12+7,none⟩=some (.int .i64 v.first.line):=hcc' 7 (by omega);have z8:wr.cell? ⟨gv,i*12+8,none⟩=some (.int .i64 (kindA v.last.k)):=hcc' 8 (by omega);have z9:wr.cell? ⟨gv,i*12+9,none⟩=some (.string v.last.s):=hcc' 9 (by omega);have z10:wr.cell? ⟨gv,i*12+10,none⟩=some (.int .i64 v.last.n):=hcc' 10 (by omega);have z11:wr.cell? ⟨gv,i*12+11,none⟩=some (.int .i64 v.last.line):=hcc' 11 (by omega);have HST:=hide (show ckVars vs (i+1) (vs.drop (i+1)) (ckVar vs i v s1)=ckVars vs 0 vs s by rw [<- HF.out,ckVars_step vs i s1 hlt,<- hv]);have HE5:=hide (show ckVar vs i v s1=((((s1.ref (decide ((3:Int)<=(i:Int))) 1 v.name.line).ref ((vs.take i).any (sameV v.name.s)) 3 v.name.line).ref (badB v.first.n) 4 v.first.line).ref (badB v.last.n) 4 v.last.line).ref (decide (v.last.n<v.first.n)) 4 v.last.line by rw [dec3];rfl);have hB1:Below wr.heap.size wr (wr.alloc (.cells #[.int .i64 (kindA v.name.k),.string v.name.s,.int .i64 v.name.n,.int .i64 v.name.line,.int .i64 (kindA v.first.k),.string v.first.s,.int .i64 v.first.n,.int .i64 v.first.line,.int .i64 (kindA v.last.k),.string v.last.s,.int .i64 v.last.n,.int .i64 v.last.line] 166)):=(Below.refl _ _).alloc (Nat.le_refl _) _;have HBX:=hide (heap_alloc_new wr (.cells #[.int .i64 (kindA v.name.k),.string v.name.s,.int .i64 v.name.n,.int .i64 v.name.line,.int .i64 (kindA v.first.k),.string v.first.s,.int .i64 v.first.n,.int .i64 v.first.line,.int .i64 (kindA v.last.k),.string v.last.s,.int .i64 v.last.n,.int .i64 v.last.line] 166));have HCB:=hide (HCI.out.below hB1);have HKB:Hid (Kp (CF c va) wr _):=hide (Kp.ofBelow hB1);have hcr:=HCI.out.lt;have hnc:¬ wr.heap.size=c:=by omega
   have hic:(i:Int)<=cvv:=by omega
   clear hcc hcc' hgl hB1 hv;go_wp2_with fail;refine (refuse_any _ c tb (s1.rows:Int) va s1.cl _ 1 v.name HCB.out.box).mono ?_;intro e w1 hr1;obtain rfl:=hr1.ret;have HC1:=hide (HCB.out.ref hr1).1;have HK1:=hide (HKB.out.trans hr1.kept (fun _ e=>.inl (.inl e)));have HB1:=hide ((hr1.kept.block wr.heap.size (by simp) hnc).trans HBX.out);have HT1:=hide (HTr.out.belowC (HCI.out.toBelow HK1.out));have hl1:wr.heap.size<w1.heap.size:=Nat.lt_of_lt_of_le (by simp) hr1.kept.size;have hc1:c<w1.heap.size:=by omega
   generalize s1.ref (decide ((3:Int)<=(i:Int))) 1 v.name.line=s2 at *;clear hr1 z0 z1 z2 z3 z4 z5 z6 z7 z8 z9 z10 z11 HBX HCB;obtain ⟨a0,a1,a2,a3,a4,a5,a6,a7,a8,a9,a10,a11⟩:=cells12 HB1.out;clear a4 a5 a6 a7 a8 a9 a10 a11;obtain ⟨_,v1,_,_,_,htl1,_⟩:=HT1.out.cells;have y0:w1.cell? ⟨c,0,none⟩=some (.pointer (some ⟨tb,0,none⟩)):=Lib.cell_of_heap HC1.out.box 0;have ntc:¬ tb=c:=by omega
   have CK:Hid (∀ Y,Below w1.heap.size w1 Y->Calls Tryz.prog 157 #[.slice (some ⟨gv,0,none⟩) i cvv,.string v.name.s] Y fun e w'=>e=.returned (.bool ((vs.take i).any (sameV v.name.s)))/\Below Y.heap.size Y w'):=hide (fun Y hY =>
    hasVar_any Y (.slice (some ⟨gv,0,none⟩) i cvv) i vs v.name.s ((HT1.out.below hY).vsl.front (Nat.le_of_lt hlt) (by omega)) (by omega))
   generalize (vs.take i).any (sameV v.name.s)=bv at *;go_wp2_with fail
   go_region_held3 (fun Y=>Y.cell? ⟨c,0,none⟩=some (.pointer (some ⟨tb,0,none⟩))/\Y.cell? ⟨tb,1,none⟩=some (.slice (some ⟨gv,0,none⟩) vs.length cvv)/\Y.cell? ⟨wr.heap.size,0,none⟩=some (.int .i64 (kindA v.name.k))/\Y.cell? ⟨wr.heap.size,1,none⟩=some (.string v.name.s)/\Y.cell? ⟨wr.heap.size,2,none⟩=some (.int .i64 v.name.n)/\Y.cell? ⟨wr.heap.size,3,none⟩=some (.int .i64 v.name.line)) (first | go_keep | (exact ⟨by with_reducible assumption,by with_reducible assumption,by with_reducible assumption,by with_reducible assumption,by with_reducible assumption,by with_reducible assumption⟩))
    (first
     | (go_at_call 157;refine (CK.out _ ?_).mono ?_;exact ⟨rfl,rfl,rfl,Nat.le_refl _,fun _ _=>rfl⟩;rintro e w2 ⟨rfl,hb2⟩;have q0:=(hb2.cell (p:=⟨c,0,none⟩) hc1).trans y0;have q1:=(hb2.cell (p:=⟨tb,1,none⟩) htl1).trans v1;have q2:=(hb2.cell (p:=⟨wr.heap.size,0,none⟩) hl1).trans a0;have q3:=(hb2.cell (p:=⟨wr.heap.size,1,none⟩) hl1).trans a1;have q4:=(hb2.cell (p:=⟨wr.heap.size,2,none⟩) hl1).trans a2;have q5:=(hb2.cell (p:=⟨wr.heap.size,3,none⟩) hl1).trans a3;have hl2:=Nat.lt_of_lt_of_le hl1 hb2.size;have htl2:=Nat.lt_of_lt_of_le htl1 hb2.size)
     | (go_at_call 156;refine (refuse_any _ c tb (s2.rows:Int) va s2.cl _ 3 v.name ?_).mono ?_;exact (hb2.block c hc1).trans HC1.out.box;intro e w3 hr3;obtain rfl:=hr3.ret;have p0:w3.cell? ⟨c,0,none⟩=some (.pointer (some ⟨tb,0,none⟩)):=Lib.cell_of_heap hr3.box 0;have p1:=(hr3.kept.cell (o:=1) htl2 ntc).trans q1;have p2:=(hr3.kept.cell (o:=0) hl2 hnc).trans q2;have p3:=(hr3.kept.cell (o:=1) hl2 hnc).trans q3;have p4:=(hr3.kept.cell (o:=2) hl2 hnc).trans q4;have p5:=(hr3.kept.cell (o:=3) hl2 hnc).trans q5))
   have hb2':Below w1.heap.size w1 w2:=⟨hb2.os,hb2.tape,hb2.output,hb2.size,hb2.block⟩;have HC3:=hide ((HC1.out.below hb2').ref hr3).1;have HK3:=hide ((HK1.out.below hb2').trans hr3.kept (fun _ e=>.inl (.inl e)));have HB3:=hide ((hr3.kept.block wr.heap.size hl2 hnc).trans ((hb2.block wr.heap.size hl1).trans HB1.out));have hl3:wr.heap.size<w3.heap.size:=Nat.lt_of_lt_of_le hl2 hr3.kept.size;generalize s2.ref bv 3 v.name.line=s3 at *;clear hb2 hb2' hr3 y0 v1 a0 a1 a2 a3 q0 q1 q2 q3 q4 q5 p0 p1 p2 p3 p4 p5 CK HK1 HB1 HC1;obtain ⟨a0,a1,a2,a3,a4,a5,a6,a7,a8,a9,a10,a11⟩:=cells12 HB3.out;clear a0 a1 a2 a3 a8 a9 a10 a11;go_wp2_with fail;refine (checkBound_any w3 c tb _ _ _ v.first HC3.out.box).mono ?_;intro e w4 hr4;obtain rfl:=hr4.ret;have HC4:=hide (HC3.out.ref hr4).1;have HK4:=hide (HK3.out.trans hr4.kept (fun _ e=>.inl (.inl e)));have HB4:=hide ((hr4.kept.block wr.heap.size hl3 hnc).trans HB3.out);have hl4:wr.heap.size<w4.heap.size:=Nat.lt_of_lt_of_le hl3 hr4.kept.size;generalize s3.ref (badB v.first.n) 4 v.first.line=s4 at *;clear hr4 a4 a5 a6 a7 HK3 HB3 HC3;obtain ⟨a0,a1,a2,a3,a4,a5,a6,a7,a8,a9,a10,a11⟩:=cells12 HB4.out;clear a0 a1 a2 a3 a4 a5 a6 a7;go_wp2_with fail;refine (checkBound_any w4 c tb _ _ _ v.last HC4.out.box).mono ?_;intro e w5 hr5;obtain rfl:=hr5.ret;have HC5:=hide (HC4.out.ref hr5).1;have HK5:=hide (HK4.out.trans hr5.kept (fun _ e=>.inl (.inl e)));have HB5:=hide ((hr5.kept.block wr.heap.size hl4 hnc).trans HB4.out);generalize s4.ref (badB v.last.n) 4 v.last.line=s5 at *;clear hr5 a8 a9 a10 a11 HK4 HB4 HC4;obtain ⟨a0,a1,a2,a3,a4,a5,a6,a7,a8,a9,a10,a11⟩:=cells12 HB5.out;clear a0 a1 a2 a3 a4 a5 a7;go_wp2_with fail;refine (refuse_any w5 c tb (s5.rows:Int) va s5.cl _ 4 v.last HC5.out.box).mono ?_;intro e w6 hr6;obtain rfl:=hr6.ret;have HC6:=hide (HC5.out.ref hr6).1;have HK6:=hide (HK5.out.trans hr6.kept (fun _ e=>.inl (.inl e)));generalize s5.ref (decide (v.last.n<v.first.n)) 4 v.last.line=s6 at *;clear hr6 a6 a8 a9 a10 a11 HK5 HB5 HC5;go_wp2_with fail
   go_roundg (vs.length-(i+1))
   case measure=>omega
   case rel=>exact ⟨i+1,s6,by omega,by go_num,HK.out.trans HK6.out (fun _ e=>.inl e),HC6.out,by rw [<- HE5.out];exact HST.out⟩
  ·have hli:¬ (i:Int)<vs.length:=by omega
   have HE:=hide (show s1=ckVars vs 0 vs s by rw [<- HF.out,List.drop_of_length_le (by omega)];rfl);go_wp2_with fail;go_end0;exact ⟨rfl,HK.out,va,by rw [<- HE.out];exact HCI.out,fun _ e=>.inl e⟩
end
section
open Go.RowKit
theorem PT.msl {w:World} {base tb:Nat} {vt vv vm:Value} {vs:List VarA} {gs:List MG} {F:Nat->Prop} (h:PT w base tb vt vs gs F vv vm):MSl w vm gs.length gs:=by
 have ho:w.ownsRow base 164 1 vm gs.length (gs.map fun m=>ptrV m.blk):=h.mem.own 2 _ rfl
 by_cases h0:0<gs.length
 ·obtain ⟨g,cap,hv,_,hl,_,_,hcc⟩:=row_open ho h0
  exact .inr ⟨g,cap,Nat.le_refl _,hv,fun _=>hl,fun i hi=>⟨(hcc i (by omega)).trans (by simp [hi,ptrV]),(h.modeCells hi).1 1 (by omega),(h.modeCells hi).2.2.2.1⟩⟩
 ·have e:gs.length=0:=by omega
  rcases ho.2 with ⟨h1,_⟩ | ⟨g,cap,cur,h1,_⟩
  ·exact .inl ⟨h1,e⟩
  ·exact .inr ⟨g,cap,Nat.le_refl _,h1,fun h=>absurd h h0,fun i hi=>absurd hi (by omega)⟩
theorem MSl.front {w:World} {a:Option Addr} {m i c:Nat} {gs:List MG} (h:MSl w (.slice a m c) m gs) (hi:i<=m) (h0:0<m):MSl w (.slice a i c) i gs:=by
 rcases h with ⟨_,e⟩ | ⟨g,cap,hml,e,hg,hc⟩
 ·omega
 ·cases e
  exact .inr ⟨g,_,Nat.le_trans hi hml,rfl,fun h=>hg (by omega),fun k hk=>hc k (by omega)⟩
theorem ckG_rows (vs:List VarA) (g:Hx.G):∀ d s,(ckG vs g d s).rows=s.rows:=by
 induction g with
 | or l r h1 h2=>intro d s;exact (h2 d _).trans (h1 d s)
 | and l r h1 h2=>intro d s;exact (h2 d _).trans (h1 d s)
 | not g h=>intro d s;exact h d s
 | group t g h=>intro d s;exact h (d+1) (s.ref _ 1 t.line)
 | tru=>intro d s;rfl
 | atom w n o i ok=>intro d s;simp only [ckG,ckAtom,CS.ref];unfold CS.addAtom;split <;> rfl
theorem ckRow_rows (vs:List VarA) (s:CS) (r:Hx.RowA):(ckRow vs s r).rows=s.rows+1:=ckG_rows vs r.g 0 _
theorem ckRow_atoms (vs:List VarA) (s:CS) (r:Hx.RowA):s.atoms.length<=(ckRow vs s r).atoms.length:=ckG_mono vs r.g 0 ({ s with rows:=s.rows+1 }.ref (decide (24<s.rows+1)) 1 r.wh.line)
theorem fold_rows (vs:List VarA) (l:List Hx.RowA):∀ s:CS,(l.foldl (ckRow vs) s).rows=s.rows+l.length:=by
 induction l with
 | nil=>intro s;rfl
 | cons r l ih=>intro s;rw [List.foldl_cons,ih,ckRow_rows,List.length_cons];omega
theorem fold_atoms (vs:List VarA) (l:List Hx.RowA):∀ s:CS,s.atoms.length<=(l.foldl (ckRow vs) s).atoms.length:=by
 induction l with
 | nil=>intro s;exact Nat.le_refl _
 | cons r l ih=>intro s;exact Nat.le_trans (ckRow_atoms vs s r) (ih _)
theorem ckMode_rows (vs:List VarA) (gs:List MG) (i:Nat) (m:MG) (s:CS):s.rows<=(ckMode vs gs i m s).rows:=by
 unfold ckMode;rw [fold_rows];exact Nat.le_add_right _ _
theorem ckMode_atoms (vs:List VarA) (gs:List MG) (i:Nat) (m:MG) (s:CS):s.atoms.length<=(ckMode vs gs i m s).atoms.length :=
 fold_atoms vs m.a.rows ((s.ref _ _ _).ref _ _ _)
theorem ckModes_rows (vs:List VarA) (gs:List MG) (l:List MG):∀ (i:Nat) (s:CS),s.rows<=(ckModes vs gs i l s).rows:=by
 induction l with
 | nil=>intro i s;exact Nat.le_refl _
 | cons m r ih=>intro i s;exact Nat.le_trans (ckMode_rows vs gs i m s) (ih (i+1) _)
theorem ckModes_atoms (vs:List VarA) (gs:List MG) (l:List MG):∀ (i:Nat) (s:CS),s.atoms.length<=(ckModes vs gs i l s).atoms.length:=by
 induction l with
 | nil=>intro i s;exact Nat.le_refl _
 | cons m r ih=>intro i s;exact Nat.le_trans (ckMode_atoms vs gs i m s) (ih (i+1) _)
theorem CI.setRows {w:World} {c tb:Nat} {s:CS} {va:Value} (h:CI w c tb s va) (n:Nat):CI (w.setCell ⟨c,1,none⟩ (.int .i64 n)) c tb { s with rows:=n } va :=
 ⟨set_heap h.box,((Kp.refl (fun k=>k=c) w).setCell (p:=⟨c,1,none⟩) (.inl rfl) _).own h.own (fun k e hk=>by have:=(h.own.lt k e).1;omega)⟩
theorem PT.rowCells {w:World} {base tb:Nat} {vt vv vm:Value} {vs:List VarA} {gs:List MG} {F:Nat->Prop} (h:PT w base tb vt vs gs F vv vm) {i:Nat} (hi:i<gs.length) :
  ∃ ar cr,gs[i].vr=.slice ar gs[i].a.rows.length cr/\∀ j (hj:j<gs[i].a.rows.length),∃ gr,ar=some ⟨gr,0,none⟩/\gr<w.heap.size/\∀ k,k<10->w.cell? ⟨gr,j*10+k,none⟩=(rowC gs[i].a.rows[j])[k]? := by
 have ho:w.ownsRow base 232 10 gs[i].vr gs[i].a.rows.length (gs[i].a.rows.flatMap rowC):=h.mem.own _ _ (pt_at1 hi);obtain ⟨ar,cr,hv,_,_⟩:=row_shape ho;refine ⟨ar,cr,hv,fun j hj=>?_⟩;obtain ⟨g,cap,hv2,_,hl,_,_,hcc⟩:=row_open ho (by omega);rw [hv] at hv2
 cases hv2
 exact ⟨g,rfl,hl,fun k hk=>(hcc (j*10+k) (by omega)).trans (flatC rowC 10 gs[i].a.rows (fun r=>by cases hd:r.dest <;> simp [rowC,destC,hd]) j k hj hk)⟩
theorem dec12 (i d:Nat):(decide ((12:Int)<=(i:Int)) || decide ((6:Int)<=(d:Int)))=(decide (12<=i) || decide (6<=d)):=by
 rw [Bool.eq_iff_iff];simp;omega
end
end Go.Proofs.YtdjaiolfdbamcaaGreatDoor
