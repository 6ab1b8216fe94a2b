/- Walks of the table's Question. -/
import Derived.Test.YtdjaiolfdbamcaaGreatDoorZWCT1
set_option maxRecDepth 20000
set_option maxHeartbeats 4000000
namespace Go.Proofs.YtdjaiolfdbamcaaGreatDoor
variable {X w w' w2:World}{B R base g i j tb wb:Nat}{a b c d lv vm vt vv x0 x1 x2 x3:Value}{T:TypeId}{F:Nat->Prop}{vs:List az}{gs:List MG}
section
open Go.RowKit
attribute [local go_sem↓] Go.wp_at_zero Go.wp_at_succ
def gW(was:Bool)(nm op num:Hx.Tok):List Value:=.bool was::(lz nm++lz op++lz num)
theorem yo(w:World)(va:az)(nb:Nat)(n:ByteArray)(hn:w.cell? ⟨nb,2,none⟩=some (.string n)):
  Calls Tryz.prog 239 #[.agg (fp va).toArray,.pointer (some ⟨nb,0,none⟩)] w λe w'=>e=.returned (.bool (bK n va))/\Below w.heap.size w w':=by
 have qf:nb<w.heap.size:=World.block_lt_of_cell? w ⟨nb,2,none⟩ hn;rw[show(fp va).toArray=#[.int .i64 (ao va.name.k),.string va.name.s,.int .i64 va.name.n,.int .i64 va.name.line,.int .i64 (ao va.first.k),.string va.first.s,.int .i64 va.first.n,.int .i64 va.first.line,.int .i64 (ao va.last.k),.string va.last.s,.int .i64 va.last.n,.int .i64 va.last.line]from rfl,bK];go_enter Tryz.func239,Tryz.ntmps239;go_wp2_with fail;go_ret;exact⟨rfl,(Below.refl _ _).alloc (Nat.le_refl _) _⟩
theorem Iv(o:List UInt8):((o==[61,61])=true/\(o==[33,61])=false/\(o==[60,61])=false/\(o==[62])=false/\(o==[62,61])=false)\/((o==[61,61])=false/\(o==[33,61])=true/\(o==[60,61])=false/\(o==[62])=false/\(o==[62,61])=false)\/
  ((o==[61,61])=false/\(o==[33,61])=false/\(o==[60,61])=true/\(o==[62])=false/\(o==[62,61])=false)\/((o==[61,61])=false/\(o==[33,61])=false/\(o==[60,61])=false/\(o==[62])=true/\(o==[62,61])=false)\/
  ((o==[61,61])=false/\(o==[33,61])=false/\(o==[60,61])=false/\(o==[62])=false/\(o==[62,61])=true)\/((o==[61,61])=false/\(o==[33,61])=false/\(o==[60,61])=false/\(o==[62])=false/\(o==[62,61])=false):=by
 by_cases h1:o=[61,61]
 all_goals grind
def fq(w:World)(g:Nat)(c0 c1 c2 c3:Value):World:=(((w.setCell ⟨g,0,none⟩ c0).setCell ⟨g,1,none⟩ c1).setCell ⟨g,2,none⟩ c2).setCell ⟨g,3,none⟩ c3
theorem Nv(h:w.heap[g]?=some (.cells #[x0,x1,x2,x3] T (0,0))):(fq w g a b c d).heap[g]?=some (.cells #[a,b,c,d] T (0,0)):=
 aE (o:=3) (aE (o:=2) (aE (o:=1) (aE (o:=0) h)))
theorem adF{a:World}(h:Kp F a w)(hp:F g\/a.heap.size<=g)(c0 c1 c2 c3:Value):Kp F a (fq w g c0 c1 c2 c3):=
 (((h.setCell (p:=⟨g,0,none⟩) hp c0).setCell (p:=⟨g,1,none⟩) hp c1).setCell (p:=⟨g,2,none⟩) hp c2).setCell (p:=⟨g,3,none⟩) hp c3
theorem aaD{Q:Nat}(hB:Below B w w2)(hR:w2.heap[R]?=some (.cells #[x0,x1,x2,x3] T (0,0)))(hk:Kp (λk=>k=Q) w2 X)(hRQ:R≠Q)(hBR:B<=R)(hBQ:B<=Q)(hs:B<=w2.heap.size):
  (fq X R a b c d).heap[R]?=some (.cells #[a,b,c,d] T (0,0))/\Below B w (fq X R a b c d):=by
 have hl:=(Array.getElem?_eq_some_iff.1 hR).1;refine⟨Nv ((hk.block R hl hRQ).trans hR),hB.trans ((adF (hk.mono (λk _ e=>by omega)) (.inl hBR) a b c d).toBelow (λ_ h=>h) hs)⟩
theorem TL{P:Program}{fn:Func}{K:Ending->World->Prop}{t:Act}{Q:Nat}(hB:Below B w w2)(hR:w2.heap[R]?=some (.cells #[x0,x1,x2,x3] T (0,0)))(hk:Kp (λk=>k=Q) w2 X)(hRQ:R≠Q)(hBR:B<=R)(hBQ:B<=Q)(hs:B<=w2.heap.size)(hd:t.defers=[])
  (hr:∀Y:World,Y.cell? ⟨R,0,none⟩=some a->Y.cell? ⟨R,1,none⟩=some b->Y.cell? ⟨R,2,none⟩=some c->Y.cell? ⟨R,3,none⟩=some d->(results fn t.tmps).run P Y=.ok (.agg #[a,b,c,d]) Y) (hK:∀Y,Below B w Y->K (.returned (.agg #[a,b,c,d])) Y):
  bodyPost P fn K .ret t ((((X.setCell ⟨R,0,none⟩ a).setCell ⟨R,1,none⟩ b).setCell ⟨R,2,none⟩ c).setCell ⟨R,3,none⟩ d):=by
 obtain⟨hY,DY⟩:=aaD (a:=a) (b:=b) (c:=c) (d:=d) hB hR hk hRQ hBR hBQ hs;exact bodyPost_ret (hr _ (Lib.cell_of_heap hY 0) (Lib.cell_of_heap hY 1) (Lib.cell_of_heap hY 2) (Lib.cell_of_heap hY 3)) hd (hK _ DY)
theorem Iw(w:World)(a b c:Array Value)(T1 T2 T3:TypeId):(((w.alloc (.cells a T1)).alloc (.cells b T2)).alloc (.cells c T3)).heap.size=w.heap.size+3/\(((w.alloc (.cells a T1)).alloc (.cells b T2)).alloc (.cells c T3)).heap[w.heap.size]?=some (.cells a T1 (0,0))/\
  (((w.alloc (.cells a T1)).alloc (.cells b T2)).alloc (.cells c T3)).heap[w.heap.size+1]?=some (.cells b T2 (0,0))/\(((w.alloc (.cells a T1)).alloc (.cells b T2)).alloc (.cells c T3)).heap[w.heap.size+1+1]?=some (.cells c T3 (0,0))/\Below w.heap.size w (((w.alloc (.cells a T1)).alloc (.cells b T2)).alloc (.cells c T3)):=by
 have h3:=heap_alloc_new ((w.alloc (.cells a T1)).alloc (.cells b T2)) (.cells c T3);have h2:=heap_alloc_new (w.alloc (.cells a T1)) (.cells b T2);have h1:=heap_alloc_new w (.cells a T1);have B2:Below (w.alloc (.cells a T1)).heap.size (w.alloc (.cells a T1)) ((w.alloc (.cells a T1)).alloc (.cells b T2)):=(Below.refl _ _).alloc (Nat.le_refl _) _;have B3:Below ((w.alloc (.cells a T1)).alloc (.cells b T2)).heap.size ((w.alloc (.cells a T1)).alloc (.cells b T2)) (((w.alloc (.cells a T1)).alloc (.cells b T2)).alloc (.cells c T3)):=(Below.refl _ _).alloc (Nat.le_refl _) _;refine⟨by simp,?_,?_,by simp_all,(((Below.refl _ _).alloc (Nat.le_refl _) _).alloc (by simp) _).alloc (by grind) _⟩
 ·exact((B3.block _ (by grind)).trans (B2.block _ (by simp))).trans h1
 ·exact(B3.block _ (by simp)).trans (by simp_all)
theorem sK(w:World)(base tb:Nat)(vt vv vm:Value)(vs:List az)(gs:List MG)(F:Nat->Prop)(hT:PT w base tb vt vs gs F vv vm)(kz:vs.length<=3001)(was:Bool)(nm op num:Hx.Tok)(nO:vs.any (bK nm.s)=true)(vZ:-9999<=num.n/\num.n<=9999):
  Calls Tryz.prog 214 #[.pointer (some ⟨tb,0,none⟩),.agg (gW was nm op num).toArray] w λe w'=>e=.returned (qV (Cx.nQ vs was nm op num).which (Cx.nQ vs was nm op num).same (Cx.nQ vs was nm op num).num (Cx.nQ vs was nm op num).bF)/\Below w.heap.size w w':=by
 obtain⟨av,cv,nR,_,_⟩:=aj (hT.mem.own 1 _ rfl);simp only at nR;subst nR;have HT:=ae hT;obtain⟨_,x1,_,_,_,Ev,_⟩:=hT.cells;obtain⟨hk,oT⟩:=lY vs (bK nm.s) (λk=>vs.getD k ⟨nm,nm,nm⟩|>bK nm.s) (λk hk=>by simp[hk]) nO;have hvi:Cx.dY vs nm.s=vs.findIdx (bK nm.s):=rfl;have hq:Cx.nQ vs was nm op num=⟨vs.findIdx (bK nm.s)+(if was then 0 else vs.length),Cx.fx op.s [61,61]||Cx.fx op.s [33,61],(if Cx.fx op.s [60,61]||Cx.fx op.s [62]then num.n+1 else num.n),Cx.fx op.s [33,61]||Cx.fx op.s [62,61]||Cx.fx op.s [62]⟩:=rfl;rw[hq];clear hq hvi;simp only;obtain⟨hz,hA,hR,hQ,hB⟩:=Iw w (gW was nm op num).toArray #[.int .i64 0,.bool false,.int .i64 0,.bool false] #[.int .i64 0,.bool false,.int .i64 num.n,.bool false] 307 314 314;obtain⟨W,hW⟩:∃W,W=((w.alloc (.cells (gW was nm op num).toArray 307)).alloc (.cells #[.int .i64 0,.bool false,.int .i64 0,.bool false] 314)).alloc (.cells #[.int .i64 0,.bool false,.int .i64 num.n,.bool false] 314):=⟨_,rfl⟩;rw[<-hW]at hz hA hR hQ hB
 have CK:Hid (Calls Tryz.prog 224 #[.slice av vs.length cv,.func (.func 239) #[] #[.pointer (some ⟨w.heap.size,0,none⟩)]] W λe w'=>e=.returned (.int .i64 (vs.findIdx (bK nm.s):Nat))/\Below W.heap.size W w'):=ae (by
  obtain⟨gv,aj0,_,e,ck,hcc⟩:=(HT.out.below hB).vsl.resolve_left (λh=>by omega)
  cases e
  have Lq:=ck (by omega)
  have:=wu (.pointer (some ⟨w.heap.size,0,none⟩)) (λk=>vs.getD k ⟨nm,nm,nm⟩|>bK nm.s) vs W gv cv (λ_=>Lq) (λk hk=>hcc k hk) kz (λk hk Y hY=>by
   have e2:vs.getD k ⟨nm,nm,nm⟩=vs[k]:=by simp[hk]
   rw[e2]
   exact yo Y _ _ _ ((hY.cell (show w.heap.size<W.heap.size by omega)).trans (Lib.cell_of_heap hA 2)))
  refine this.mono ?_
  grind)
 have HA:=ae hA;have HR:=ae hR;have HQ:=ae hQ;have HB:=ae hB;have y1:=(hB.cell Ev).trans x1;have pJ:=ae y1;generalize vs.findIdx (bK nm.s)=k0 at*;unfold Cx.fx;generalize hsm:(op.s.toList==[61,61]||op.s.toList==[33,61])=sm;generalize Nk:(if(op.s.toList==[60,61]||op.s.toList==[62])=true then num.n+1 else num.n)=nn;generalize htn:(op.s.toList==[33,61]||op.s.toList==[62,61]||op.s.toList==[62])=tn;generalize hwh:k0+(if was=true then 0 else vs.length)=wh;have HSM:=ae hsm;have Kb:=ae Nk;have Xh:=ae htn;have HWH:=ae hwh;clear hsm Nk htn hwh;clear hA hR hQ oT nO hT hB x1;unfold gW lz at hW;simp only [List.cons_append,List.nil_append]at hW;rw[show(gW was nm op num).toArray=#[.bool was,.int .i64 (ao nm.k),.string nm.s,.int .i64 nm.n,.int .i64 nm.line,.int .i64 (ao op.k),.string op.s,.int .i64 op.n,.int .i64 op.line,.int .i64 (ao num.k),.string num.s,.int .i64 num.n,.int .i64 num.line]from rfl];go_enter Tryz.func214,Tryz.ntmps214;go_upto_region 2 with(fail);rw[<-hW];clear hW;go_wp2_with fail;refine CK.out.mono ?_;rintro e w2 ⟨rfl,aT⟩;have jT:=aT.size;have QU:=ae ((aT.block w.heap.size (by omega)).trans HA.out);have mR:=ae ((aT.block (w.heap.size+1) (by omega)).trans HR.out);have HQ2:=ae ((aT.block (w.heap.size+1+1) (by omega)).trans HQ.out);have dH:=ae (HB.out.trans (aT.mono (by omega)));have x1:=(aT.cell (show tb<W.heap.size by omega)).trans pJ.out;have htw:¬tb=w.heap.size+1+1:=by omega
 obtain⟨a0,-,-,-,-,-,a6⟩:=ajw QU.out;obtain⟨q0,q1,q2,q3⟩:=nE HQ2.out;have g0:=λj=>Lib.frozen_of_heap HQ2.out j
 obtain⟨r0,r1,r2,r3⟩:=nE mR.out;have h0:=λj=>Lib.frozen_of_heap mR.out j
 clear aT;have fL:(k0:Int)<vs.length:=by omega
 have QT:=vZ.1;have MW:=vZ.2
 cases was with
 |true=>
  have D2:=((Kp.refl (λk=>k=w.heap.size+1+1) w2).setCell (p:=⟨w.heap.size+1+1,0,none⟩) (.inl rfl) (.int .i64 (k0)));have HQ3:Hid (((w2.setCell ⟨w.heap.size+1+1,0,none⟩ (.int .i64 (k0)))).heap[w.heap.size+1+1]?=some (.cells #[.int .i64 (k0),.bool false,.int .i64 num.n,.bool false] 314 (0,0))):=ae (aE HQ2.out);have F9:=ae ((D2.block (w.heap.size) (by omega) (by omega)).trans QU.out);have RY:=ae ((D2.block (w.heap.size+1) (by omega) (by omega)).trans mR.out);have ji:=ae (dH.out.trans (D2.toBelow (λk e=>by omega) (by omega)));have oS:=D2.size;clear D2;go_upto_region 5 with(fail);show Code.wp _ _ _ _ ((w2.setCell ⟨w.heap.size+1+1,0,none⟩ (.int .i64 (k0:Int))));clear q0 q1 q2 q3 g0 r0 r1 r2 r3 h0 a0 a6 x1;generalize (w2.setCell ⟨w.heap.size+1+1,0,none⟩ (.int .i64 (k0:Int)))=w3 at*;have a6:=R3 F9.out;obtain⟨q0,q1,q2,q3⟩:=nE HQ3.out;have g0:=λj=>Lib.frozen_of_heap HQ3.out j
  obtain⟨r0,r1,r2,r3⟩:=nE RY.out;have h0:=λj=>Lib.frozen_of_heap RY.out j
  rcases Iv op.s.toList with⟨e1,e2,e3,e4,e5⟩|⟨e1,e2,e3,e4,e5⟩|⟨e1,e2,e3,e4,e5⟩|⟨e1,e2,e3,e4,e5⟩|⟨e1,e2,e3,e4,e5⟩|⟨e1,e2,e3,e4,e5⟩
  all_goals
   go_wp2_with fail;refine TL (Q:=w.heap.size+1+1) ji.out RY.out ?_ (by omega) (by omega) (by omega) (by omega) rfl (λY y0 y1 y2 y3=>by simp[results,Tryz.results214,go_sem,y0,y1,y2,y3]) (λY DY=>⟨?_,DY⟩)
   ·repeat(refine Kp.setCell ?_ ?_ _;rotate_left;exact .inl rfl)
    exact Kp.refl _ _
   ·rw[<-HSM.out,<-Kb.out,<-Xh.out,<-HWH.out,e1,e2,e3,e4,e5]
    rfl
 |false=>
  have D2:=(((Kp.refl (λk=>k=w.heap.size+1+1) w2).setCell (p:=⟨w.heap.size+1+1,0,none⟩) (.inl rfl) (.int .i64 (k0))).setCell (p:=⟨w.heap.size+1+1,0,none⟩) (.inl rfl) (.int .i64 ((k0)+(vs.length)))).drew;have HQ3:Hid ((((w2.setCell ⟨w.heap.size+1+1,0,none⟩ (.int .i64 (k0))).setCell ⟨w.heap.size+1+1,0,none⟩ (.int .i64 ((k0)+(vs.length)))).drew).heap[w.heap.size+1+1]?=some (.cells #[.int .i64 ((k0)+(vs.length)),.bool false,.int .i64 num.n,.bool false] 314 (0,0))):=ae (aE (aE HQ2.out));have F9:=ae ((D2.block (w.heap.size) (by omega) (by omega)).trans QU.out);have RY:=ae ((D2.block (w.heap.size+1) (by omega) (by omega)).trans mR.out);have ji:=ae (dH.out.trans (D2.toBelow (λk e=>by omega) (by omega)));have oS:=D2.size;clear D2;go_upto_region 4 with(fail)
  go_region
  go_upto_region 5 with(fail);show Code.wp _ _ _ _ (((w2.setCell ⟨w.heap.size+1+1,0,none⟩ (.int .i64 (k0:Int))).setCell ⟨w.heap.size+1+1,0,none⟩ (.int .i64 ((k0:Int)+(vs.length:Int)))).drew);clear q0 q1 q2 q3 g0 r0 r1 r2 r3 h0 a0 a6 x1;generalize ((w2.setCell ⟨w.heap.size+1+1,0,none⟩ (.int .i64 (k0:Int))).setCell ⟨w.heap.size+1+1,0,none⟩ (.int .i64 ((k0:Int)+(vs.length:Int)))).drew=w3 at*;have a6:=R3 F9.out;obtain⟨q0,q1,q2,q3⟩:=nE HQ3.out;have g0:=λj=>Lib.frozen_of_heap HQ3.out j
  obtain⟨r0,r1,r2,r3⟩:=nE RY.out;have h0:=λj=>Lib.frozen_of_heap RY.out j
  rcases Iv op.s.toList with⟨e1,e2,e3,e4,e5⟩|⟨e1,e2,e3,e4,e5⟩|⟨e1,e2,e3,e4,e5⟩|⟨e1,e2,e3,e4,e5⟩|⟨e1,e2,e3,e4,e5⟩|⟨e1,e2,e3,e4,e5⟩
  all_goals
   go_wp2_with fail;refine TL (Q:=w.heap.size+1+1) ji.out RY.out ?_ (by omega) (by omega) (by omega) (by omega) rfl (λY y0 y1 y2 y3=>by simp[results,Tryz.results214,go_sem,y0,y1,y2,y3]) (λY DY=>⟨?_,DY⟩)
   ·repeat(refine Kp.setCell ?_ ?_ _;rotate_left;exact .inl rfl)
    exact Kp.refl _ _
   ·rw[<-HSM.out,<-Kb.out,<-Xh.out,<-HWH.out,e1,e2,e3,e4,e5]
    rfl
theorem Tryz.infoModeA:(Tryz.prog.info? 171).map (λi=>i.size)=some 9:=by kernel_rfl
theorem Tryz.modeInfo:∃j,Tryz.prog.info? 171=some j/\j.size≠0:=by
 have h:=Tryz.infoModeA
 cases hj:Tryz.prog.info? 171<;>grind
theorem Tryz.ptrEq{W:World}{a b:Nat}(ha:∃c t,W.heap[a]?=some (.cells c t (0,0)))(hb:∃c t,W.heap[b]?=some (.cells c t (0,0))):(binOp .eql 164 (.pointer (some ⟨a,0,none⟩)) (.pointer (some ⟨b,0,none⟩))).run Tryz.prog W=.ok (.bool (b==a)) W:=by
 obtain⟨j,hj,hz⟩:=Tryz.modeInfo
 by_cases e:a=b
 all_goals grind[run_eql_ptr_other,Tryz.underlying164,run_eql_ptr_same]
theorem Lr(b:Nat)(bs:List Nat)(w:World)(g cap:Nat)(hc:∀i (hi:i<bs.length),w.cell? ⟨g,i,none⟩=some (.pointer (some ⟨bs[i],0,none⟩)))(hn:bs.length<=3001)(jX:∃c t,w.heap[b]?=some (.cells c t (0,0)))(R4:∀i (hi:i<bs.length),∃c t,w.heap[bs[i]]?=some (.cells c t (0,0))):
  Calls Tryz.prog 119 #[.slice (some ⟨g,0,none⟩) bs.length cap,.pointer (some ⟨b,0,none⟩)] w λe w'=>∃r:Int,e=.returned (.int .i64 r)/\pK (λk=>bs.getD k 0==b) bs.length r/\Below w.heap.size w w':=by
 have HC:=ae hc;have HBS:=ae R4;clear hc R4;go_enter Tryz.func119,Tryz.ntmps119;go_wp2_with fail
 go_loopw [8] (λv8 wr=>∃k:Nat,k<=bs.length/\v8=.int .i64 k/\Below w.heap.size w wr/\∀j,j<k->(bs.getD j 0==b)=false) (λv8 _=>bs.length-(intOf v8).toNat)
 case atStart=>exact⟨0,by omega,rfl,Below.refl _ _,λj hj=>absurd hj (by omega)⟩
 case round=>
  obtain⟨k,hk,rfl,hb,ha⟩:=hrel;have HA:=ae ha;have HB:=ae hb;have hsz:=hb.size;clear ha
  by_cases hlt:k<bs.length
  ·have rM:(k:Int)<bs.length:=by omega
   have jf:(0:Int)<=k:=by omega
   have ck:g<w.heap.size:=World.block_lt_of_cell? w ⟨g,k,none⟩ (HC.out k hlt);have x0:=(hb.cell ck).trans (HC.out k hlt);have zi:bs.getD k 0=bs[k]:=by simp[hlt]
   have TN:=ae zi;have Nw:(binOp .eql 164 (.pointer (some ⟨b,0,none⟩)) (.pointer (some ⟨bs[k],0,none⟩))).run Tryz.prog wr=.ok (.bool (bs[k]==b)) wr:=by
    obtain⟨c1,t1,h1⟩:=jX;obtain⟨c2,t2,h2⟩:=HBS.out k hlt;exact Tryz.ptrEq ⟨c1,t1,(hb.block b (Array.getElem?_eq_some_iff.1 h1).1).trans h1⟩ ⟨c2,t2,(hb.block _ (Array.getElem?_eq_some_iff.1 h2).1).trans h2⟩
   clear hb zi;generalize bs[k]=bk at*
   cases hq:(bk==b)with
   |true=>
    have HQ:=ae hq;rw[hq]at Nw;clear hq;go_wp2_with fail;go_ret;exact⟨k,rfl,.inl ⟨k,hlt,rfl,by show(bs.getD k 0==b)=true;rw[TN.out];exact HQ.out,HA.out⟩,HB.out⟩
   |false=>
    have HQ:=ae hq;rw[hq]at Nw;clear hq;go_wp2_with fail
    go_roundw
    case rel=>exact⟨k+1,by omega,by go_num,HB.out,nw HA.out (by rw[TN.out];exact HQ.out)⟩
    case measure=>grind[intOf]
  ·obtain rfl:k=bs.length:=by omega
   go_wp2_with fail;go_ret;exact⟨-1,rfl,.inr ⟨rfl,HA.out⟩,HB.out⟩
def apL(w:World)(c:Nat)(lv:Value)(gs:List MG):Prop:=
 ∃gl cap,lv=.slice (some ⟨gl,0,none⟩) (Cx.leaves (gs.map (·.a))).length cap/\gl<c/\∀i (hi:i<(Cx.leaves (gs.map (·.a))).length),w.cell? ⟨gl,i,none⟩=some (.pointer (some ⟨bl gs (Cx.leaves (gs.map (·.a)))[i],0,none⟩))
structure sg(vs:List az)(gs:List MG):Prop where
 kt:Links gs
 vars:vs.length<=3
 af:gs.length<=12
 some:0<gs.length
 dflt:ju (gs.map (·.a))
structure Ix(w:World)(c wb tb base:Nat)(vt vv vm lv:Value)(vs:List az)(gs:List MG):Prop where
 pt:PT w base tb vt vs gs (λk=>k<c) vv vm
 box:w.heap[wb]?=some (.cells #[.pointer (some ⟨tb,0,none⟩),lv] 162 (0,0))
 lv:apL w c lv gs
 lt:wb<c
 le:c<=w.heap.size
theorem Ix.kept{c:Nat}{G:Nat->Prop}(h:Ix w c wb tb base vt vv vm lv vs gs)(hk:Kp G w w')(hG:∀k,G k->c<=k):Ix w' c wb tb base vt vv vm lv vs gs:=by
 refine⟨h.pt.kept hk (λk hF hg=>by grind),(hk.block wb (Array.getElem?_eq_some_iff.1 h.box).1 (λhg=>by have:=hG _ hg;have:=h.lt;omega)).trans h.box,?_,h.lt,Nat.le_trans h.le hk.size⟩;obtain⟨gl,cap,e,hl,hc⟩:=h.lv;exact⟨gl,cap,e,hl,λi hi=>(hk.cell (by have:=h.le;omega) (λhg=>by grind)).trans (hc i hi)⟩
theorem Ix.below{c:Nat}(h:Ix w c wb tb base vt vv vm lv vs gs)(hb:Below w.heap.size w w'):Ix w' c wb tb base vt vv vm lv vs gs:=
 h.kept (Kp.aK (F:=λk=>w.heap.size<=k) hb) (λ_ hk=>Nat.le_trans h.le hk)
theorem Ix.aj2{c e size n m:Nat}{v v':Value}{xs ys:List Value}(h:Ix w c wb tb base vt vv vm lv vs gs)(ho:w.ownsRow c e size v n xs)(hg:Gr c w w' e size v v' m ys):Ix w' c wb tb base vt vv vm lv vs gs:=
 h.kept hg.kept (λk hk=>(ho.lt k hk).1)
theorem PT.adG(h:PT w base tb vt vs gs F vv vm)(hi:i<gs.length):∃c t,w.heap[bl gs i]?=some (.cells c t (0,0)):=by
 rw[kU hi];exact⟨_,_,dr.Nx h.mem (oU hi)⟩
theorem PT.aj3(h:PT w base tb vt vs gs F vv vm)(hi:i<gs.length)(hj:j<gs.length)(e:bl gs i=bl gs j):i=j:=by
 rw[kU hi,kU hj]at e
 by_cases Kd:i=j
 ·exact Kd
 ·rcases h.mem.apart (i*3+3) (j*3+3) _ _ (by omega) (oU hi) (oU hj)with h1|h1
  all_goals grind[absurd,MG.r0,Rw.box,Value.ownBlock]
theorem uc(h:sg vs gs):∀(n i:Nat),gs.length-i=n->i<gs.length->Cx.enter (gs.map (·.a)) i∈Cx.leaves (gs.map (·.a)):=by
 intro n
 induction n using Nat.strongRecOn with
 |_ n ih=>
  intro i hn hi
  cases hq:Cx.eW (gs.map (·.a)) i with
  |true=>
   grind[Cx.leaves,Cx.dR,yp]
  |false=>
   rw[yq h.kt h.dflt hi hq];have:=mJ h.kt (sL h.dflt (by grind) hq)
   grind
theorem lH(h:j∈Cx.leaves (gs.map (·.a))):j<gs.length:=by
 grind[Cx.leaves,Cx.dR]
theorem sM(w:World)(c wb tb base:Nat)(vt vv vm lv:Value)(vs:List az)(gs:List MG)(h:Ix w c wb tb base vt vv vm lv vs gs)(cR:sg vs gs)(i:Nat)(hi:i<gs.length):
  Calls Tryz.prog 80 #[.pointer (some ⟨wb,0,none⟩),dz (bl gs i)] w λe w'=>e=.returned (.int .i64 (Cx.numberOf (gs.map (·.a)) i))/\Below w.heap.size w w':=by
 have hm:=uc cR _ i rfl hi;have hel:=lH hm;have Oh:=ae (λW (hW)=>Pn W base tb vt vv vm vs gs _ (h.pt.below hW) cR.kt (by have:=cR.af;omega) cR.dflt i hi);obtain⟨gl,cap,rfl,aj5,lP⟩:=h.lv;have x1:=fS h.box;have FW:=Nat.lt_of_lt_of_le h.lt h.le;have ck:=Nat.lt_of_lt_of_le aj5 h.le;have Kw:(Cx.leaves (gs.map (·.a))).length<=12:=by have:=gN (gs.map (·.a)) (gs.map (·.a)).length;have:=cR.af;unfold Cx.leaves;simp at*;omega
 have CK:Hid (∀Y,Below w.heap.size w Y->Calls Tryz.prog 119 #[.slice (some ⟨gl,0,none⟩) (Cx.leaves (gs.map (·.a))).length cap,.pointer (some ⟨bl gs (Cx.enter (gs.map (·.a)) i),0,none⟩)] Y λe w'=>e=.returned (.int .i64 (Cx.numberOf (gs.map (·.a)) i))/\Below Y.heap.size Y w'):=ae (λY hY=>by
  have hlen:((Cx.leaves (gs.map (·.a))).map (bl gs)).length=(Cx.leaves (gs.map (·.a))).length:=by simp
  have hT:=h.pt.below hY
  have:=Lr (bl gs (Cx.enter (gs.map (·.a)) i)) ((Cx.leaves (gs.map (·.a))).map (bl gs)) Y gl cap (λk hk=>by
   rw[hlen]at hk;rw[List.getElem_map];exact(hY.cell ck).trans (lP k hk)) (by omega) (hT.adG hel) (λk hk=>by
   rw[hlen]at hk;rw[List.getElem_map];exact hT.adG (lH (List.getElem_mem hk)))
  rw[hlen]at this;refine this.mono ?_;rintro e w' ⟨r,rfl,hr,zj⟩
  obtain⟨_,hf⟩:=lY (Cx.leaves (gs.map (·.a))) (λj=>j==Cx.enter (gs.map (·.a)) i) (λk=>((Cx.leaves (gs.map (·.a))).map (bl gs)).getD k 0==bl gs (Cx.enter (gs.map (·.a)) i)) (λk hk=>by
   have e2:((Cx.leaves (gs.map (·.a))).map (bl gs)).getD k 0=bl gs (Cx.leaves (gs.map (·.a)))[k]:=by simp[hk]
   rw[e2,Bool.eq_iff_iff];simp only [beq_iff_eq]
   exact⟨λe=>hT.aj3 (lH (List.getElem_mem hk)) hel e,λe=>by rw[e]⟩) (List.any_eq_true.2 ⟨_,hm,by simp⟩)
  rw[hf r hr]
  exact⟨rfl,zj⟩)
 clear h lP;unfold dz at*;generalize Cx.numberOf (gs.map (·.a)) i=nr at*;generalize (Cx.leaves (gs.map (·.a))).length=nl at*;generalize bl gs (Cx.enter (gs.map (·.a)) i)=be at*;go_enter Tryz.func80,Tryz.ntmps80;go_wp2_with fail
 go_region_held3 (λY=>Y.cell? ⟨wb,1,none⟩=some (.slice (some ⟨gl,0,none⟩) nl cap)) (first|go_keep|(with_reducible assumption))
  (first
   |(go_at_call 120;refine(Oh.out _ ?_).mono ?_;exact⟨rfl,rfl,rfl,Nat.le_refl _,λ_ _=>rfl⟩;rintro e w2 ⟨rfl,aT⟩;have z1:=(aT.cell FW).trans x1)
   |(go_at_call 119;refine(CK.out _ ?_).mono ?_;exact⟨aT.os,aT.tape,aT.output,aT.size,aT.block⟩;rintro e w3 ⟨rfl,eC⟩;have z3:=(eC.cell (Nat.lt_of_lt_of_le FW aT.size)).trans z1))
 have ji:=ae ((show Below w.heap.size w w2 from⟨aT.os,aT.tape,aT.output,aT.size,aT.block⟩).trans (eC.mono aT.size));clear aT eC z1 z3 x1;go_wp2_with fail;go_ret;exact⟨rfl,ji.out⟩
def Ke(vs:List az):Hx.G->Prop
 | .or l r=>Ke vs l/\Ke vs r
 | .and l r=>Ke vs l/\Ke vs r
 | .not g=>Ke vs g
 | .group _ g=>Ke vs g
 | .gZ=>True
 | .atom _ nm _ _ _=>vs.any (bK nm.s)=true
theorem wv(c wb tb base:Nat)(vt vv vm lv:Value)(vs:List az)(gs:List MG)(cR:sg vs gs)(g:Hx.G):∀(w:World)(v:Value)(n:Nat)(xs:List Value),Ix w c wb tb base vt vv vm lv vs gs->Ke vs g->w.ownsRow c 5 1 v n xs->n+(Cx.aY vs g).length<=80000->
  Calls Tryz.prog 171 #[.pointer (some ⟨wb,0,none⟩),v,eH g] w λe w'=>∃v',e=.returned v'/\Gr c w w' 5 1 v v' (n+(Cx.aY vs g).length) (xs++(Cx.aY vs g).map Cx.bV):=by
 induction g with
 |or l r qi qj=>
  intro w v n xs h hg ho hn;obtain⟨Tl,xl,ck⟩:=bI l;obtain⟨Tr,xr,mK⟩:=bI r;rw[show eH (.or l r)=.iface 300 (.agg #[.iface Tl xl,.iface Tr xr]) by rw[<-ck,<-mK];rfl];rw[ck]at qi;rw[mK]at qj;have HL:=ae qi;have HR:=ae qj;have uv:=ae hg.1;have zl:=ae hg.2;have fz:(Cx.aY vs (.or l r))=Cx.aY vs l++Cx.aY vs r++[4]:=rfl;rw[fz]at hn|-;clear qi qj hg ck mK fz;have Iy:=Tryz.taOr;obtain⟨av,cv,rfl,_,_⟩:=aj ho;have xi:=λk hk=>(ho.lt k hk).2
  have hle:=h.le;have HB:Hid (Below w.heap.size w (w.alloc (.cells #[.iface Tl xl,.iface Tr xr] 300))):=ae (ag _ _);have hz:(w.alloc (.cells #[.iface Tl xl,.iface Tr xr] 300)).heap.size=w.heap.size+1:=by simp
  have rE:=ae (heap_alloc_new w (.cells #[.iface Tl xl,.iface Tr xr] 300));obtain⟨X,hX⟩:∃X,X=w.alloc (.cells #[.iface Tl xl,.iface Tr xr] 300):=⟨_,rfl⟩;rw[<-hX]at HB hz rE
  have tW:Hid (∀Y,Below X.heap.size X Y->Calls Tryz.prog 171 #[.pointer (some ⟨wb,0,none⟩),.slice av n cv,.iface Tl xl] Y λe w'=>∃v',e=.returned v'/\Gr c Y w' 5 1 (.slice av n cv) v' (n+(Cx.aY vs l).length) (xs++(Cx.aY vs l).map Cx.bV)):=ae (λY hY=>
   HL.out Y _ n xs (h.below (HB.out.trans (hY.mono (by omega)))) uv.out (ah ho (HB.out.trans (hY.mono (by omega)))) (by grind))
  have GF:Hid (∀(w1:World)(v1:Value)(Y0:World),Below X.heap.size X Y0->Gr c Y0 w1 5 1 (.slice av n cv) v1 (n+(Cx.aY vs l).length) (xs++(Cx.aY vs l).map Cx.bV)->∀Y,Below w1.heap.size w1 Y->Calls Tryz.prog 171 #[.pointer (some ⟨wb,0,none⟩),v1,.iface Tr xr] Y λe w'=>∃v',e=.returned v'/\Gr c Y w' 5 1 v1 v' (n+(Cx.aY vs l).length+(Cx.aY vs r).length) (xs++(Cx.aY vs l).map Cx.bV++(Cx.aY vs r).map Cx.bV)):=ae (λw1 v1 Y0 h0 h1 Y hY=>
   HR.out Y v1 _ _ (((h.below (HB.out.trans (h0.mono (by omega)))).aj2 (ah ho (HB.out.trans (h0.mono (by omega)))) h1).below hY) zl.out (ah h1.own hY) (by grind))
  have qN:w.heap.size<X.heap.size:=by omega
  obtain⟨x0,x1⟩:=iQ rE.out;have hvX:∀k,(Value.slice av n cv).ownBlock=some k->k<X.heap.size:=λk hk=>by grind
  have iq:n+(Cx.aY vs l).length+(Cx.aY vs r).length+1<=maxLen:=by simp at hn;unfold maxLen;omega
  have qP:(n+(Cx.aY vs l).length+(Cx.aY vs r).length+1)*1<=140737488355328:=by simp at hn;omega
  have Xu:c<=X.heap.size:=by omega
  obtain⟨i0,dl,eu,dA,eg⟩:=info_parts Tryz.infoByte;clear h ho hn HL HR uv zl;go_enter Tryz.func171,Tryz.ntmps171;go_upto_region 4 with(fail);rw[<-hX];clear hX
  go_region_held3 (λY=>Y.cell? ⟨w.heap.size,0,none⟩=some (.iface Tl xl)/\Y.cell? ⟨w.heap.size,1,none⟩=some (.iface Tr xr)) (first|go_keep|(exact⟨by with_reducible assumption,by with_reducible assumption⟩))
   (first
    |(go_at_call 171;refine(GF.out _ _ _ ?_ gh _ ?_).mono ?_;(first|with_reducible exact bm _|grind[cZ]);(first|with_reducible exact Below.refl _ _|grind[ag]);rintro e w2 ⟨v2,rfl,iC⟩;obtain⟨lQ,oR,aT⟩:=m9 iC (by first|with_reducible exact Below.refl _ _|grind[ag]) bH nG;have z0:=(lQ 0).trans y0;have z1:=(lQ 1).trans y1)
    |(go_at_call 171;refine(tW.out _ ?_).mono ?_;(first|with_reducible exact bm _|grind[cZ]);rintro e w1 ⟨v1,rfl,gh⟩;obtain⟨iH,nG,bH⟩:=m9 gh (by first|with_reducible exact bm _|grind[cZ]) qN (λk hk=>Nat.ne_of_lt (xi k hk));have y0:=(iH 0).trans x0;have y1:=(iH 1).trans x1)
    |(refine aD rfl _ _ 64 rfl c 5 i0 _ 1 1 Tryz.underlying64 dl eu dA eg rfl (by decide) _ _ _ rfl (ah iC.own (ag _ _)) ⟨_,0,none⟩ 1 1 [.int .u8 4] rfl rfl (aF _ _ rfl [.int .u8 4] _) (eI rfl) iq qP (Nat.le_trans Xu (Nat.le_trans gh.kept.size (Nat.le_trans iC.kept.size (ag _ _).size))) ?_;intro v3 w3 aJ ax bu;obtain⟨sN,lA⟩:=pD (bm _) gh (Below.refl _ _) iC (ag _ _) aJ ax bu qN xi;have u0:=(lA 0).trans x0;have u1:=(lA 1).trans x1;clear aJ ax bu)
    |(refine aD rfl _ _ 64 rfl c 5 i0 _ 1 1 Tryz.underlying64 dl eu dA eg rfl (by decide) _ _ _ rfl iC.own ⟨_,0,none⟩ 1 1 [.int .u8 4] rfl rfl (se gh iC) (eI rfl) iq qP (Nat.le_trans Xu (Nat.le_trans gh.kept.size (Nat.le_trans (ag _ _).size iC.kept.size))) ?_;intro v3 w3 aJ ax bu;obtain⟨sN,lA⟩:=pD (bm _) gh (ag _ _) iC (Below.refl _ _) aJ ax bu qN xi;have u0:=(lA 0).trans x0;have u1:=(lA 1).trans x1;clear aJ ax bu)
    |(refine aD rfl _ _ 64 rfl c 5 i0 _ 1 1 Tryz.underlying64 dl eu dA eg rfl (by decide) _ _ _ rfl iC.own ⟨_,0,none⟩ 1 1 [.int .u8 4] rfl rfl (xK hz.symm gh iC hvX) (eI rfl) iq qP (Nat.le_trans Xu (Nat.le_trans (cZ _ _).size (Nat.le_trans gh.kept.size iC.kept.size))) ?_;intro v3 w3 aJ ax bu;obtain⟨sN,lA⟩:=pD (cZ _ _) gh (Below.refl _ _) iC (Below.refl _ _) aJ ax bu qN xi;have u0:=(lA 0).trans x0;have u1:=(lA 1).trans x1;clear aJ ax bu))
  all_goals
   have Iz:Hid (Gr c w w3 5 1 (.slice av n cv) v3 (n+(Cx.aY vs l++Cx.aY vs r++[4]).length) (xs++(Cx.aY vs l++Cx.aY vs r++[4]).map Cx.bV)):=ae (by
    have:=sN.after HB.out;rw[M8,M9]
    exact this)
   clear gh iC sN iH lQ lA nG oR bH aT y0 y1 z0 z1 u0 u1 x0 x1 rE;go_wp2_with fail;go_ret;exact⟨_,rfl,Iz.out⟩
 |and l r qi qj=>
  intro w v n xs h hg ho hn;obtain⟨Tl,xl,ck⟩:=bI l;obtain⟨Tr,xr,mK⟩:=bI r;rw[show eH (.and l r)=.iface 301 (.agg #[.iface Tl xl,.iface Tr xr]) by rw[<-ck,<-mK];rfl];rw[ck]at qi;rw[mK]at qj;have HL:=ae qi;have HR:=ae qj;have uv:=ae hg.1;have zl:=ae hg.2;have fz:(Cx.aY vs (.and l r))=Cx.aY vs l++Cx.aY vs r++[3]:=rfl;rw[fz]at hn|-;clear qi qj hg ck mK fz;have Iy:=Tryz.taAndOr;have Ny:=Tryz.taAnd;obtain⟨av,cv,rfl,_,_⟩:=aj ho;have xi:=λk hk=>(ho.lt k hk).2
  have hle:=h.le;have HB:Hid (Below w.heap.size w (w.alloc (.cells #[.iface Tl xl,.iface Tr xr] 301))):=ae (ag _ _);have hz:(w.alloc (.cells #[.iface Tl xl,.iface Tr xr] 301)).heap.size=w.heap.size+1:=by simp
  have rE:=ae (heap_alloc_new w (.cells #[.iface Tl xl,.iface Tr xr] 301));obtain⟨X,hX⟩:∃X,X=w.alloc (.cells #[.iface Tl xl,.iface Tr xr] 301):=⟨_,rfl⟩;rw[<-hX]at HB hz rE
  have tW:Hid (∀Y,Below X.heap.size X Y->Calls Tryz.prog 171 #[.pointer (some ⟨wb,0,none⟩),.slice av n cv,.iface Tl xl] Y λe w'=>∃v',e=.returned v'/\Gr c Y w' 5 1 (.slice av n cv) v' (n+(Cx.aY vs l).length) (xs++(Cx.aY vs l).map Cx.bV)):=ae (λY hY=>
   HL.out Y _ n xs (h.below (HB.out.trans (hY.mono (by omega)))) uv.out (ah ho (HB.out.trans (hY.mono (by omega)))) (by grind))
  have GF:Hid (∀(w1:World)(v1:Value)(Y0:World),Below X.heap.size X Y0->Gr c Y0 w1 5 1 (.slice av n cv) v1 (n+(Cx.aY vs l).length) (xs++(Cx.aY vs l).map Cx.bV)->∀Y,Below w1.heap.size w1 Y->Calls Tryz.prog 171 #[.pointer (some ⟨wb,0,none⟩),v1,.iface Tr xr] Y λe w'=>∃v',e=.returned v'/\Gr c Y w' 5 1 v1 v' (n+(Cx.aY vs l).length+(Cx.aY vs r).length) (xs++(Cx.aY vs l).map Cx.bV++(Cx.aY vs r).map Cx.bV)):=ae (λw1 v1 Y0 h0 h1 Y hY=>
   HR.out Y v1 _ _ (((h.below (HB.out.trans (h0.mono (by omega)))).aj2 (ah ho (HB.out.trans (h0.mono (by omega)))) h1).below hY) zl.out (ah h1.own hY) (by grind))
  have qN:w.heap.size<X.heap.size:=by omega
  obtain⟨x0,x1⟩:=iQ rE.out;have hvX:∀k,(Value.slice av n cv).ownBlock=some k->k<X.heap.size:=λk hk=>by grind
  have iq:n+(Cx.aY vs l).length+(Cx.aY vs r).length+1<=maxLen:=by simp at hn;unfold maxLen;omega
  have qP:(n+(Cx.aY vs l).length+(Cx.aY vs r).length+1)*1<=140737488355328:=by simp at hn;omega
  have Xu:c<=X.heap.size:=by omega
  obtain⟨i0,dl,eu,dA,eg⟩:=info_parts Tryz.infoByte;clear h ho hn HL HR uv zl;go_enter Tryz.func171,Tryz.ntmps171;go_upto_region 7 with(fail);rw[<-hX];clear hX
  go_region_held3 (λY=>Y.cell? ⟨w.heap.size,0,none⟩=some (.iface Tl xl)/\Y.cell? ⟨w.heap.size,1,none⟩=some (.iface Tr xr)) (first|go_keep|(exact⟨by with_reducible assumption,by with_reducible assumption⟩))
   (first
    |(go_at_call 171;refine(GF.out _ _ _ ?_ gh _ ?_).mono ?_;(first|with_reducible exact bm _|grind[cZ]);(first|with_reducible exact Below.refl _ _|grind[ag]);rintro e w2 ⟨v2,rfl,iC⟩;obtain⟨lQ,oR,aT⟩:=m9 iC (by first|with_reducible exact Below.refl _ _|grind[ag]) bH nG;have z0:=(lQ 0).trans y0;have z1:=(lQ 1).trans y1)
    |(go_at_call 171;refine(tW.out _ ?_).mono ?_;(first|with_reducible exact bm _|grind[cZ]);rintro e w1 ⟨v1,rfl,gh⟩;obtain⟨iH,nG,bH⟩:=m9 gh (by first|with_reducible exact bm _|grind[cZ]) qN (λk hk=>Nat.ne_of_lt (xi k hk));have y0:=(iH 0).trans x0;have y1:=(iH 1).trans x1)
    |(refine aD rfl _ _ 64 rfl c 5 i0 _ 1 1 Tryz.underlying64 dl eu dA eg rfl (by decide) _ _ _ rfl (ah iC.own (ag _ _)) ⟨_,0,none⟩ 1 1 [.int .u8 3] rfl rfl (aF _ _ rfl [.int .u8 3] _) (eI rfl) iq qP (Nat.le_trans Xu (Nat.le_trans gh.kept.size (Nat.le_trans iC.kept.size (ag _ _).size))) ?_;intro v3 w3 aJ ax bu;obtain⟨sN,lA⟩:=pD (bm _) gh (Below.refl _ _) iC (ag _ _) aJ ax bu qN xi;have u0:=(lA 0).trans x0;have u1:=(lA 1).trans x1;clear aJ ax bu)
    |(refine aD rfl _ _ 64 rfl c 5 i0 _ 1 1 Tryz.underlying64 dl eu dA eg rfl (by decide) _ _ _ rfl iC.own ⟨_,0,none⟩ 1 1 [.int .u8 3] rfl rfl (se gh iC) (eI rfl) iq qP (Nat.le_trans Xu (Nat.le_trans gh.kept.size (Nat.le_trans (ag _ _).size iC.kept.size))) ?_;intro v3 w3 aJ ax bu;obtain⟨sN,lA⟩:=pD (bm _) gh (ag _ _) iC (Below.refl _ _) aJ ax bu qN xi;have u0:=(lA 0).trans x0;have u1:=(lA 1).trans x1;clear aJ ax bu)
    |(refine aD rfl _ _ 64 rfl c 5 i0 _ 1 1 Tryz.underlying64 dl eu dA eg rfl (by decide) _ _ _ rfl iC.own ⟨_,0,none⟩ 1 1 [.int .u8 3] rfl rfl (xK hz.symm gh iC hvX) (eI rfl) iq qP (Nat.le_trans Xu (Nat.le_trans (cZ _ _).size (Nat.le_trans gh.kept.size iC.kept.size))) ?_;intro v3 w3 aJ ax bu;obtain⟨sN,lA⟩:=pD (cZ _ _) gh (Below.refl _ _) iC (Below.refl _ _) aJ ax bu qN xi;have u0:=(lA 0).trans x0;have u1:=(lA 1).trans x1;clear aJ ax bu))
  all_goals
   have Iz:Hid (Gr c w w3 5 1 (.slice av n cv) v3 (n+(Cx.aY vs l++Cx.aY vs r++[3]).length) (xs++(Cx.aY vs l++Cx.aY vs r++[3]).map Cx.bV)):=ae (by
    have:=sN.after HB.out;rw[M8,M9]
    exact this)
   clear gh iC sN iH lQ lA nG oR bH aT y0 y1 z0 z1 u0 u1 x0 x1 rE;go_wp2_with fail;go_ret;exact⟨_,rfl,Iz.out⟩
 |not g ih=>
  intro w v n xs h hg ho hn;obtain⟨Tl,xl,ck⟩:=bI g;rw[show eH (.not g)=.iface 303 (.agg #[.iface Tl xl]) by rw[<-ck];rfl];rw[ck]at ih;have fz:(Cx.aY vs (.not g))=Cx.aY vs g++[5]:=rfl;rw[fz]at hn|-;have Iy:=Tryz.taNotOr;have Ny:=Tryz.taNotAnd;have TQ:=Tryz.taNot;have HB:Hid (Below w.heap.size w (w.alloc (.cells #[.iface Tl xl] 303))):=ae (ag _ _);have CK:=ae (ih _ v n xs (h.below HB.out) hg (ah ho HB.out) (by grind));have hle:=h.le;have hlen:n+(Cx.aY vs g).length<=80000:=by simp at hn;omega
  obtain⟨i0,dl,eu,dA,eg⟩:=info_parts Tryz.infoByte;clear h ho hg ih hn ck fz;go_enter Tryz.func171,Tryz.ntmps171;go_wp2_with fail;refine CK.out.mono ?_;rintro e w1 ⟨v1,rfl,gh⟩;have uv:=ae (gh.after HB.out);have gI:=uv.out.kept.size;obtain⟨a1,c1,rfl,_,_⟩:=aj gh.own;clear gh CK;go_wp2_with (at_builtin;refine wpList_append_own_at _ rfl _ _ 64 rfl c 5 i0 _ 1 1 Tryz.underlying64 dl eu dA eg rfl (by decide) _ (n+(Cx.aY vs g).length) _ rfl (ah uv.out.own (ag _ _)) ⟨w1.heap.size,0,none⟩ 1 1 [.int .u8 5] rfl rfl (aF _ _ rfl [_] _) (eI rfl) ?c3 ?c4 ?c5 ?_)
  case c3=>grind[maxLen]
  case c4=>omega
  case c5=>simp;omega
  intro v9 w9 aJ ax _ bu
  have ZW:Hid (Gr c w w9 5 1 v v9 (n+(Cx.aY vs g++[5]).length) (xs++(Cx.aY vs g++[5]).map Cx.bV)):=ae (by
   rw[ZX,ZY]
   exact uv.out.trans (eF (by rw[List.append_assoc];exact aJ) ax (by omega)))
  clear aJ ax bu;go_wp2_with fail;go_ret;exact⟨_,rfl,ZW.out⟩
 |group t g ih=>
  intro w v n xs h hg ho hn;obtain⟨Tl,xl,ck⟩:=bI g;rw[show eH (.group t g)=.iface 305 (.agg #[.int .i64 (ao t.k),.string t.s,.int .i64 t.n,.int .i64 t.line,.iface Tl xl]) by rw[<-ck];rfl];rw[ck]at ih;have fz:(Cx.aY vs (.group t g))=Cx.aY vs g:=rfl;rw[fz]at hn|-;have Iy:=Tryz.taGroupOr;have Ny:=Tryz.taGroupAnd;have TQ:=Tryz.taGroupNot;have ta3:=Tryz.taGroup;have HB:Hid (Below w.heap.size w (w.alloc (.cells #[.int .i64 (ao t.k),.string t.s,.int .i64 t.n,.int .i64 t.line,.iface Tl xl] 305))):=ae (ag _ _);have CK:=ae (ih _ v n xs (h.below HB.out) hg (ah ho HB.out) hn);clear h ho hg ih hn ck fz;go_enter Tryz.func171,Tryz.ntmps171;go_wp2_with fail;refine CK.out.mono ?_;rintro e w1 ⟨v1,rfl,gh⟩;have uv:=ae (gh.after HB.out);obtain⟨a1,c1,rfl,_,_⟩:=aj gh.own;clear gh CK;go_wp2_with fail;go_ret;exact⟨_,rfl,uv.out⟩
 |gZ=>
  intro w v n xs h _ ho hn;rw[show eH .gZ=.iface 370 (.agg #[])from rfl];have fz:(Cx.aY vs .gZ)=[6]:=rfl;rw[fz]at hn|-;have Iy:=Tryz.taTrueOr;have Ny:=Tryz.taTrueAnd;have TQ:=Tryz.taTrueNot;have ta3:=Tryz.taTrueGroup;have ta4:=Tryz.taTrueAtom;obtain⟨i0,dl,eu,dA,eg⟩:=info_parts Tryz.infoByte;have hle:=h.le;have HO:=ae ho;have hn':n<=80000:=by simp at hn;omega
  obtain⟨av,cv,rfl,_,_⟩:=aj ho;clear h ho hn fz;go_enter Tryz.func171,Tryz.ntmps171;go_wp2_with (at_builtin;refine wpList_append_own_at _ rfl _ _ 64 rfl c 5 i0 _ 1 1 Tryz.underlying64 dl eu dA eg rfl (by decide) _ n _ rfl (ah HO.out (ag _ _)) ⟨w.heap.size,0,none⟩ 1 1 [.int .u8 6] rfl rfl (aF _ _ rfl [_] _) (eI rfl) ?c3 ?c4 ?c5 ?_)
  case c3=>grind[maxLen]
  case c4=>omega
  case c5=>simp;omega
  intro v9 w9 aJ ax _ bu;have ZW:Hid (Gr c w w9 5 1 (.slice av n cv) v9 (n+1) (xs++[.int .u8 6])):=ae (eF aJ ax (by omega));clear aJ ax bu;go_wp2_with fail;go_ret;exact⟨_,rfl,ZW.out⟩
 |atom wz nz oz iz ok=>
  intro w v n xs h hg ho hn;have Iy:=Tryz.taAtomOr;have Ny:=Tryz.taAtomAnd;have TQ:=Tryz.taAtomNot;have ta3:=Tryz.taAtomGroup;have ta4:=Tryz.taAtom;have fz:(Cx.aY vs (.atom wz nz oz iz ok))=(Cx.nQ vs wz.isSome nz oz iz).code:=rfl;rw[fz]at hn|-;have FW:=Nat.lt_of_lt_of_le h.lt h.le;have vZ:=(ok.QX.2 ok.num).2;have HB:Hid (Below w.heap.size w (w.alloc (.cells (gW wz.isSome nz oz iz).toArray 307))):=ae (ag _ _);have hz:(w.alloc (.cells (gW wz.isSome nz oz iz).toArray 307)).heap.size=w.heap.size+1:=by simp
  have rE:=ae (heap_alloc_new w (.cells (gW wz.isSome nz oz iz).toArray 307));obtain⟨X,hX⟩:∃X,X=w.alloc (.cells (gW wz.isSome nz oz iz).toArray 307):=⟨_,rfl⟩;rw[<-hX]at HB hz rE;obtain⟨q,hq⟩:∃q,q=Cx.nQ vs wz.isSome nz oz iz:=⟨_,rfl⟩;rw[<-hq]at hn|-
  have tW:Hid (∀Y,Below X.heap.size X Y->Calls Tryz.prog 214 #[.pointer (some ⟨tb,0,none⟩),.agg (gW wz.isSome nz oz iz).toArray] Y λe w'=>e=.returned (qV q.which q.same q.num q.bF)/\Below Y.heap.size Y w'):=ae (λY hY=>by
   rw[hq]
   exact sK Y base tb vt vv vm vs gs _ (h.pt.below (HB.out.trans (hY.mono (by omega)))) (by have:=cR.vars;omega) wz.isSome nz oz iz hg vZ)
  have GF:Hid (∀Y,Below X.heap.size X Y->Calls Tryz.prog 213 #[v,qV q.which q.same q.num q.bF] Y λe w'=>∃v',e=.returned v'/\Gr c Y w' 5 1 v v' (n+q.code.length) (xs++q.code.map Cx.bV)):=ae (λY hY=>
   qX Y c n v xs q.which q.same q.num q.bF (ah ho (HB.out.trans (hY.mono (by omega)))) (Nat.le_trans h.le (Nat.le_trans HB.out.size (by have:=hY.size;omega))) (by omega))
  have xi:=λk hk=>(ho.lt k hk).2
  have hvc:=λk hk=>(ho.lt k hk).1
  have DV:=h.lt;have qN:w.heap.size<X.heap.size:=by omega
  have hwX:wb<X.heap.size:=by omega
  have xw:X.cell? ⟨wb,0,none⟩=some (.pointer (some ⟨tb,0,none⟩)):=(HB.out.cell FW).trans (Lib.cell_of_heap h.box 0);obtain⟨y0,y1,y2,y3,y4,y5,y6,y7,y8,y9,Xv,y11,y12⟩:=iw rE.out;obtain⟨av,cv,rfl,_,_⟩:=aj ho;clear h ho hg hn fz hq;rw[show eH (.atom wz nz oz iz ok)=.iface 307 (.agg #[.bool wz.isSome,.int .i64 (ao nz.k),.string nz.s,.int .i64 nz.n,.int .i64 nz.line,.int .i64 (ao oz.k),.string oz.s,.int .i64 oz.n,.int .i64 oz.line,.int .i64 (ao iz.k),.string iz.s,.int .i64 iz.n,.int .i64 iz.line])from rfl];rw[show(gW wz.isSome nz oz iz).toArray=#[.bool wz.isSome,.int .i64 (ao nz.k),.string nz.s,.int .i64 nz.n,.int .i64 nz.line,.int .i64 (ao oz.k),.string oz.s,.int .i64 oz.n,.int .i64 oz.line,.int .i64 (ao iz.k),.string iz.s,.int .i64 iz.n,.int .i64 iz.line]from rfl]at hX tW;generalize wz.isSome=ws at*;go_enter Tryz.func171,Tryz.ntmps171;go_upto_region 16 with(fail);rw[<-hX];clear hX;unfold qV at tW GF
  go_region_held3 (λY=>Y.cell? ⟨wb,0,none⟩=some (.pointer (some ⟨tb,0,none⟩))/\Y.cell? ⟨w.heap.size,0,none⟩=some (.bool ws)/\Y.cell? ⟨w.heap.size,1,none⟩=some (.int .i64 (ao nz.k))/\Y.cell? ⟨w.heap.size,2,none⟩=some (.string nz.s)/\Y.cell? ⟨w.heap.size,3,none⟩=some (.int .i64 nz.n)/\Y.cell? ⟨w.heap.size,4,none⟩=some (.int .i64 nz.line)/\Y.cell? ⟨w.heap.size,5,none⟩=some (.int .i64 (ao oz.k))/\Y.cell? ⟨w.heap.size,6,none⟩=some (.string oz.s)/\Y.cell? ⟨w.heap.size,7,none⟩=some (.int .i64 oz.n)/\Y.cell? ⟨w.heap.size,8,none⟩=some (.int .i64 oz.line)/\Y.cell? ⟨w.heap.size,9,none⟩=some (.int .i64 (ao iz.k))/\Y.cell? ⟨w.heap.size,10,none⟩=some (.string iz.s)/\Y.cell? ⟨w.heap.size,11,none⟩=some (.int .i64 iz.n)/\Y.cell? ⟨w.heap.size,12,none⟩=some (.int .i64 iz.line))
   (first|go_keep|(exact⟨mh.trans xw,(iB 0).trans y0,(iB 1).trans y1,(iB 2).trans y2,(iB 3).trans y3,(iB 4).trans y4,(iB 5).trans y5,(iB 6).trans y6,(iB 7).trans y7,(iB 8).trans y8,(iB 9).trans y9,(iB 10).trans Xv,(iB 11).trans y11,(iB 12).trans y12⟩)|(exact⟨lh.trans xw,(ep 0).trans y0,(ep 1).trans y1,(ep 2).trans y2,(ep 3).trans y3,(ep 4).trans y4,(ep 5).trans y5,(ep 6).trans y6,(ep 7).trans y7,(ep 8).trans y8,(ep 9).trans y9,(ep 10).trans Xv,(ep 11).trans y11,(ep 12).trans y12⟩))
   (first
    |(go_at_call 214;refine(tW.out _ ?_).mono ?_;(grind[bm]);rintro e w1 ⟨rfl,bH⟩;have gf:=(bm X).trans (bH.mono (bm X).size);have ep:=λo=>gf.cell (p:=⟨w.heap.size,o,none⟩) qN;have lh:=gf.cell (p:=⟨wb,0,none⟩) hwX)
    |(go_at_call 213;refine(GF.out _ gf).mono ?_;rintro e w2 ⟨v2,rfl,iC⟩;obtain⟨iB,_,_⟩:=m9 iC gf qN (λk hk=>Nat.ne_of_lt (xi k hk));obtain⟨hww,_,_⟩:=m9 iC gf hwX (λk hk=>Nat.ne_of_gt (Nat.lt_of_lt_of_le DV (hvc k hk)));have mh:=hww 0))
  have HG:=ae ((iC.after gf).after HB.out);clear iC gf bH ep iB hww lh mh xw y0 y1 y2 y3 y4 y5 y6 y7 y8 y9 Xv y11 y12 rE;go_wp2_with fail;go_ret;exact⟨_,rfl,HG.out⟩
