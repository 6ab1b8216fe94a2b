/- The walk of the checker's checkMode. -/
import Derived.Test.YtdjaiolfdbamcaaGreatDoorZWChk12
set_option maxRecDepth 20000
set_option maxHeartbeats 8000000
namespace Go.Proofs.YtdjaiolfdbamcaaGreatDoor
variable {w:World}{base tb:Nat}{vm vt vv:Value}{vs:List az}{gs:List MG}{F:Nat->Prop}
section
open Go.RowKit
attribute [local go_sem↓] Go.wp_at_zero Go.wp_at_succ
theorem zU(w:World)(c tb base:Nat)(vt vv vm:Value)(vs:List az)(gs:List MG)(s:CS)(va:Value)(i:Nat)(hi:i<gs.length)(h:CI w c tb s va)(hT:PT w base tb vt vs gs (λk=>k<c) vv vm)(kz:vs.length<=3001)(ck:gs.length<=3001)(hlen:(dK vs gs i gs[i] s).atoms.length<=10000)(hrw:(dK vs gs i gs[i] s).rows<=10000):
  Calls Tryz.prog 106 #[.pointer (some ⟨c,0,none⟩),.int .i64 i,.pointer (some ⟨gs[i].bZ,0,none⟩)] w λe w'=>Fq w c tb va (dK vs gs i gs[i] s) e w':=by
 have H0:=ae h;have tj:=ae hT;obtain⟨avm,Gd,nP,UR,_⟩:=aj (hT.mem.own 2 _ rfl);simp only at nP UR;subst nP;obtain⟨rI,_,_,eS,Xg⟩:=hT.bG hi;have Xy:=ae (λX (hX:PT X base tb vt vs gs (λk=>k<c) vv (.slice avm gs.length Gd))=>(hX.bG hi).1);have T9:=ae (λX (hX:PT X base tb vt vs gs (λk=>k<c) vv (.slice avm gs.length Gd))=>hX.dS hi);generalize hm:gs[i]=m at*;have lP:=h.lt;have m0:w.cell? ⟨m.bZ,0,none⟩=some (.int .i64 (ao m.a.name.k)):=rI 0 (by omega);have m1:w.cell? ⟨m.bZ,1,none⟩=some (.string m.a.name.s):=rI 1 (by omega);have m2:w.cell? ⟨m.bZ,2,none⟩=some (.int .i64 m.a.name.n):=rI 2 (by omega);have m3:w.cell? ⟨m.bZ,3,none⟩=some (.int .i64 m.a.name.line):=rI 3 (by omega);have m5:w.cell? ⟨m.bZ,5,none⟩=some (.int .i64 m.a.depth):=rI 5 (by omega);have tH:=ae (show s.ref (decide ((12)<=(i:Int))||decide ((6)<=(m.a.depth:Int))) 1 m.a.name.line=s.ref (decide (12<=i)||decide (6<=m.a.depth)) 1 m.a.name.line by rw[ad9]);have Ec:¬m.bZ=c:=by omega
 clear h hT rI hm;go_enter Tryz.func106,Tryz.ntmps106;go_upto_region 0 with(fail)
 go_cut []from 8 to 22 (λwx=>Kp (CF c va) w wx/\CI wx c tb (s.ref (decide (12<=i)||decide (6<=m.a.depth)) 1 m.a.name.line) va)
 case first=>
  by_cases h12:12<=i
  ·have ali:(12:Int)<=i:=by omega
   have HB:=ae (show s.ref true 1 m.a.name.line=s.ref (decide (12<=i)||decide (6<=m.a.depth)) 1 m.a.name.line by simp[h12])
   first|go_region_with (go_at_call 156;refine(cN _ c tb (s.rows) va s.cl _ 1 m.a.name ?_).mono ?_;exact H0.out.box;intro e w1 dw;obtain rfl:=dw.ret)|fail
   all_goals
    have ot:=ae (CI.ref (show CI w.drew c tb s va from⟨H0.out.box,H0.out.own⟩) dw).1;have jW:=ae ((Kp.refl (CF c va) w).drew.trans dw.kept (λ_ e=>.inl (.inl e)));clear dw;go_wp2_with fail;go_meet
    case rel=>exact⟨jW.out,by rw[<-HB.out];exact ot.out⟩
  ·have ali:¬(12:Int)<=i:=by omega
   have HB:=ae (show s.ref (decide ((6)<=(m.a.depth:Int))) 1 m.a.name.line=s.ref (decide (12<=i)||decide (6<=m.a.depth)) 1 m.a.name.line by rw[<-ad9,decide_eq_false ali];rfl)
   go_region_held3 (λY=>Y.cell? ⟨m.bZ,0,none⟩=some (.int .i64 (ao m.a.name.k))/\Y.cell? ⟨m.bZ,1,none⟩=some (.string m.a.name.s)/\Y.cell? ⟨m.bZ,2,none⟩=some (.int .i64 m.a.name.n)/\Y.cell? ⟨m.bZ,3,none⟩=some (.int .i64 m.a.name.line)/\Y.cell? ⟨m.bZ,5,none⟩=some (.int .i64 m.a.depth)) (first|go_keep|(exact⟨by with_reducible assumption,by with_reducible assumption,by with_reducible assumption,by with_reducible assumption,by with_reducible assumption⟩))
    ((go_at_call 156;refine(cN _ c tb (s.rows) va s.cl _ 1 m.a.name ?_).mono ?_;exact H0.out.box;intro e w1 dw;obtain rfl:=dw.ret;have z0:=(dw.kept.cell eS Ec).trans m0;have z1:=(dw.kept.cell eS Ec).trans m1;have z2:=(dw.kept.cell eS Ec).trans m2;have z3:=(dw.kept.cell eS Ec).trans m3;have z5:=(dw.kept.cell eS Ec).trans m5))
   have ot:=ae (CI.ref (show CI w.drew c tb s va from⟨H0.out.box,H0.out.own⟩) dw).1;have jW:=ae ((Kp.refl (CF c va) w).drew.trans dw.kept (λ_ e=>.inl (.inl e)));clear dw;go_wp2_with fail;go_meet
   case rel=>exact⟨jW.out,by rw[<-HB.out];exact ot.out⟩
 case rest=>
  have jW:=ae hcut.1;have ot:=ae hcut.2;have HE:=ae (show dK vs gs i m s=m.a.rows.foldl (eJ vs) ((s.ref (decide (12<=i)||decide (6<=m.a.depth)) 1 m.a.name.line).ref ((gs.take i).any (dV m.a.name.s)) 3 m.a.name.line)from rfl);have mU:=ae (tj.out.iF (H0.out.toBelow jW.out));generalize s.ref (decide (12<=i)||decide (6<=m.a.depth)) 1 m.a.name.line=s1 at*;clear hcut m0 m1 m2 m3 m5;have nW:=Nat.lt_of_lt_of_le eS jW.out.size;have iH:=ot.out.lt;have rI:=Xy.out wc mU.out;have m0:wc.cell? ⟨m.bZ,0,none⟩=some (.int .i64 (ao m.a.name.k)):=rI 0 (by omega);have m1:wc.cell? ⟨m.bZ,1,none⟩=some (.string m.a.name.s):=rI 1 (by omega);have m2:wc.cell? ⟨m.bZ,2,none⟩=some (.int .i64 m.a.name.n):=rI 2 (by omega);have m3:wc.cell? ⟨m.bZ,3,none⟩=some (.int .i64 m.a.name.line):=rI 3 (by omega);obtain⟨_,_,v2,_,_,Fu,htc⟩:=mU.out.cells;obtain⟨gm,IB,_,e,TT,_⟩:=mU.out.TU.resolve_left (λh=>by omega)
  cases e
  have y0:=dt ot.out.box;have ntc:¬tb=c:=by omega
  have N7:(i:Int)<=Gd:=by omega
  have dl:(0:Int)<=i:=by omega
  have CK:=ae (λY hY=>
   vC Y (.slice (some ⟨gm,0,none⟩) i Gd) i gs m.a.name.s ((mU.out.below hY).TU.front (Nat.le_of_lt hi) (by omega)) (by omega))
  generalize (gs.take i).any (dV m.a.name.s)=bv at*;clear rI;go_wp2_with fail
  go_region_held3 (λY=>Y.cell? ⟨c,0,none⟩=some (.pointer (some ⟨tb,0,none⟩))/\Y.cell? ⟨tb,2,none⟩=some (.slice (some ⟨gm,0,none⟩) gs.length Gd)/\Y.cell? ⟨m.bZ,0,none⟩=some (.int .i64 (ao m.a.name.k))/\Y.cell? ⟨m.bZ,1,none⟩=some (.string m.a.name.s)/\Y.cell? ⟨m.bZ,2,none⟩=some (.int .i64 m.a.name.n)/\Y.cell? ⟨m.bZ,3,none⟩=some (.int .i64 m.a.name.line)) (first|go_keep|(exact⟨by with_reducible assumption,by with_reducible assumption,by with_reducible assumption,by with_reducible assumption,by with_reducible assumption,by with_reducible assumption⟩))
   (first
    |(go_at_call 159;refine(CK.out _ ?_).mono ?_;exact⟨rfl,rfl,rfl,Nat.le_refl _,λ_ _=>rfl⟩;rintro e w2 ⟨rfl,aT⟩;have q0:=(aT.cell iH).trans y0;have q1:=(aT.cell Fu).trans v2;have q2:=(aT.cell nW).trans m0;have q3:=(aT.cell nW).trans m1;have q4:=(aT.cell nW).trans m2;have q5:=(aT.cell nW).trans m3;have kq:=Nat.lt_of_lt_of_le nW aT.size;have RN:=Nat.lt_of_lt_of_le Fu aT.size)
    |(go_at_call 156;refine(cN _ c tb (s1.rows) va s1.cl _ 3 m.a.name ?_).mono ?_;exact(aT.block c iH).trans ot.out.box;intro e w3 ft;obtain rfl:=ft.ret;have p0:=dt ft.box;have p1:=(ft.kept.cell RN ntc).trans q1;have p2:=(ft.kept.cell kq Ec).trans q2;have p3:=(ft.kept.cell kq Ec).trans q3;have p4:=(ft.kept.cell kq Ec).trans q4;have p5:=(ft.kept.cell kq Ec).trans q5))
  have uy:Below wc.heap.size wc w2:=⟨aT.os,aT.tape,aT.output,aT.size,aT.block⟩;have rN:=ae ((ot.out.below uy).ref ft).1;have kj:=ae ((jW.out.below uy).trans ft.kept (λ_ e=>.inl (.inl e)));generalize s1.ref bv 3 m.a.name.line=s2 at*;clear aT uy ft y0 v2 m0 m1 m2 m3 q0 q1 q2 q3 q4 q5 p0 p1 p2 p3 p4 p5 CK jW ot mU;have nL:=ae (tj.out.iF (H0.out.toBelow kj.out));have m7:w3.cell? ⟨m.bZ,7,none⟩=some m.vr:=Xy.out w3 nL.out 7 (by omega);obtain⟨ar,cr,Lx,_⟩:=T9.out w3 nL.out;rw[Lx]at m7;have HVR:=ae Lx;have F3:m.a.rows.length<=10000:=by have:=HE.out▸hrw;rw[pW]at this;omega
  clear Lx;go_wp2_with fail;clear m7
  go_loopg [49] (m.a.rows.length) (λk v49 wr=>∃(j:Nat)(s3:CS)(Eb:Value),j+k=m.a.rows.length/\v49=.int .i64 j/\Kp (CF c va) w wr/\CI wr c tb s3 Eb/\(∀q,Eb.ownBlock=some q->va.ownBlock=some q\/w.heap.size<=q)/\(m.a.rows.drop j).foldl (eJ vs) s3=dK vs gs i m s)
  case atStart=>exact⟨0,s2,va,by omega,rfl,kj.out,rN.out,λ_ e=>.inl e,HE.out.symm⟩
  case round=>
   obtain⟨j,s3,Eb,hj,rfl,hk,vS,hvo,hF⟩:=hrel;have HK:=ae hk;have ki:=ae vS;have HVO:=ae hvo;have HF:=ae hF;clear hk vS hvo hF kj rN nL
   by_cases hlt:j<m.a.rows.length
   ·have Q9:(j:Int)<m.a.rows.length:=by omega
    have zg:(0:Int)<=j:=by omega
    have nS:=ae (tj.out.iF (H0.out.toBelow HK.out));obtain⟨ar',cr',hv',hrr⟩:=T9.out wr nS.out;rw[HVR.out]at hv'
    cases hv'
    obtain⟨gr,rfl,mK,hcc⟩:=hrr j hlt;obtain⟨r,hr⟩:∃r,r=m.a.rows[j]:=⟨_,rfl⟩;rw[<-hr]at hcc;obtain⟨Tg,xg,hg⟩:=bI r.g;obtain⟨b5,k6,s7,n8,l9,hd⟩:∃b k s n l,oW r.dest=[.bool b,.int .i64 k,.string s,.int .i64 n,.int .i64 l]:=by cases r.dest<;>exact⟨_,_,_,_,_,rfl⟩
    simp only [fO,hg,hd]at hcc;have z0:wr.cell? ⟨gr,j*10,none⟩=some (.int .i64 (ao r.wh.k)):=hcc 0 (by omega);have z1:wr.cell? ⟨gr,j*10+1,none⟩=some (.string r.wh.s):=hcc 1 (by omega);have z2:wr.cell? ⟨gr,j*10+2,none⟩=some (.int .i64 r.wh.n):=hcc 2 (by omega);have z3:wr.cell? ⟨gr,j*10+3,none⟩=some (.int .i64 r.wh.line):=hcc 3 (by omega);have z4:wr.cell? ⟨gr,j*10+4,none⟩=some (.iface Tg xg):=hcc 4 (by omega);have z5:wr.cell? ⟨gr,j*10+5,none⟩=some (.bool b5):=hcc 5 (by omega);have z6:wr.cell? ⟨gr,j*10+6,none⟩=some (.int .i64 k6):=hcc 6 (by omega);have z7:wr.cell? ⟨gr,j*10+7,none⟩=some (.string s7):=hcc 7 (by omega);have z8:wr.cell? ⟨gr,j*10+8,none⟩=some (.int .i64 n8):=hcc 8 (by omega);have z9:wr.cell? ⟨gr,j*10+9,none⟩=some (.int .i64 l9):=hcc 9 (by omega);have lj:=ae (show(m.a.rows.drop (j+1)).foldl (eJ vs) (eJ vs s3 r)=dK vs gs i m s by rw[<-HF.out,List.drop_eq_getElem_cons hlt,List.foldl_cons,<-hr]);have hrn:s3.rows+1<=10000:=by have h1:=pW vs (m.a.rows.drop (j+1)) (eJ vs s3 r);rw[lj.out,yE]at h1;omega
    have bu:(eJ vs s3 r).atoms.length<=10000:=by have h1:=yF vs (m.a.rows.drop (j+1)) (eJ vs s3 r);rw[lj.out]at h1;omega
    have x1:=fS ki.out.box;have f1:=Lib.frozen_of_heap ki.out.box 1;have Dq:=ki.out.lt;have HG:=ae hg;clear hcc hd hg hr hrr;go_wp2_with fail;obtain⟨rn,alk⟩:∃rn,rn=s3.rows+1:=⟨_,rfl⟩;rw[show((s3.rows)+1)=(rn:Int) by omega];have alm:=ki.out.tv rn;have hB:Below (wr.setCell ⟨c,1,none⟩ (.int .i64 rn)).heap.size (wr.setCell ⟨c,1,none⟩ (.int .i64 rn)) ((wr.setCell ⟨c,1,none⟩ (.int .i64 rn)).alloc (.cells #[.int .i64 (ao r.wh.k),.string r.wh.s,.int .i64 r.wh.n,.int .i64 r.wh.line,.iface Tg xg,.bool b5,.int .i64 k6,.string s7,.int .i64 n8,.int .i64 l9] 232)):=(Below.refl _ _).alloc (Nat.le_refl _) _;have HX:=ae (alm.below hB);have HKX:Hid (Kp (CF c Eb) wr ((wr.setCell ⟨c,1,none⟩ (.int .i64 rn)).alloc (.cells #[.int .i64 (ao r.wh.k),.string r.wh.s,.int .i64 r.wh.n,.int .i64 r.wh.line,.iface Tg xg,.bool b5,.int .i64 k6,.string s7,.int .i64 n8,.int .i64 l9] 232))):=ae (((Kp.refl (CF c Eb) wr).setCell (.inl (.inl rfl)) _).alloc _);have jX:=heap_alloc_new (wr.setCell ⟨c,1,none⟩ (.int .i64 rn)) (.cells #[.int .i64 (ao r.wh.k),.string r.wh.s,.int .i64 r.wh.n,.int .i64 r.wh.line,.iface Tg xg,.bool b5,.int .i64 k6,.string s7,.int .i64 n8,.int .i64 l9] 232);have hsz:(wr.setCell ⟨c,1,none⟩ (.int .i64 rn)).heap.size=wr.heap.size:=by simp[]
    rw[hsz]at jX;have fM:=ae jX;have wP:wr.heap.size<((wr.setCell ⟨c,1,none⟩ (.int .i64 rn)).alloc (.cells #[.int .i64 (ao r.wh.k),.string r.wh.s,.int .i64 r.wh.n,.int .i64 r.wh.line,.iface Tg xg,.bool b5,.int .i64 k6,.string s7,.int .i64 n8,.int .i64 l9] 232)).heap.size:=by simp[]
    generalize hXX:(wr.setCell ⟨c,1,none⟩ (.int .i64 rn)).alloc (.cells #[.int .i64 (ao r.wh.k),.string r.wh.s,.int .i64 r.wh.n,.int .i64 r.wh.line,.iface Tg xg,.bool b5,.int .i64 k6,.string s7,.int .i64 n8,.int .i64 l9] 232)=X at*
    have Zu:=ae (show eJ vs s3 r=m6 vs r.g 0 (({s3 with rows:=rn}).ref (decide ((24)<(rn:Int))) 1 r.wh.line) by
     rw[eJ,<-alk];have e:decide ((24)<(rn:Int))=decide (24<rn):=by rw[Bool.eq_iff_iff];simp;omega
     rw[e])
    have ql:¬wr.heap.size=c:=by omega
    clear alk hXX alm hB jX hsz z0 z1 z2 z3 z4 z5 z6 z7 z8 z9 x1 f1;have y1:=fS HX.out.box;obtain⟨a0,a1,a2,a3,a4,a5,a6,a7,a8,a9⟩:=Fx fM.out;clear a4 a5 a6 a7 a8 a9
    go_region_held3 (λY=>Y.cell? ⟨c,1,none⟩=some (.int .i64 rn)/\Y.cell? ⟨wr.heap.size,0,none⟩=some (.int .i64 (ao r.wh.k))/\Y.cell? ⟨wr.heap.size,1,none⟩=some (.string r.wh.s)/\Y.cell? ⟨wr.heap.size,2,none⟩=some (.int .i64 r.wh.n)/\Y.cell? ⟨wr.heap.size,3,none⟩=some (.int .i64 r.wh.line)) (first|go_keep|(exact⟨by with_reducible assumption,by with_reducible assumption,by with_reducible assumption,by with_reducible assumption,by with_reducible assumption⟩))
     ((go_at_call 156;refine(cN _ c tb (rn) Eb s3.cl _ 1 r.wh ?_).mono ?_;exact HX.out.box;intro e w5 fP;obtain rfl:=fP.ret;have z1:=fS fP.box;have z2:=(fP.kept.cell wP ql).trans a0;have z3:=(fP.kept.cell wP ql).trans a1;have z4:=(fP.kept.cell wP ql).trans a2;have z5:=(fP.kept.cell wP ql).trans a3))
    have HC5:=ae (CI.ref (show CI X.drew c tb {s3 with rows:=rn} Eb from⟨HX.out.box,HX.out.own⟩) fP).1;have zm:=ae (HKX.out.drew.trans fP.kept (λ_ e=>.inl (.inl e)));have vT:=ae ((fP.kept.block wr.heap.size wP ql).trans fM.out);have HT5:=ae (nS.out.iF (ki.out.toBelow zm.out));have aaq:(m6 vs r.g 0 (({s3 with rows:=rn}).ref (decide ((24)<(rn:Int))) 1 r.wh.line)).atoms.length<=10000:=by rw[<-Zu.out];exact bu
    have ud:=r.deep;have CG:=yD c tb base vt vv (.slice (some ⟨gm,0,none⟩) gs.length Gd) vs gs kz r.g w5 _ Eb 0 HC5.out HT5.out (by omega) aaq;rw[HG.out]at CG;have HCG:=ae CG;clear CG fP y1 a0 a1 a2 a3 z1 z2 z3 z4 z5 aaq;have a4:=oh vT.out;go_wp2_with fail;refine HCG.out.mono ?_;intro e w6 Gc;obtain rfl:=Gc.ret;have hr7:=Fq.trans HK.out HVO.out (Fq.trans zm.out (λ_ e=>.inl e) Gc);rw[<-Zu.out]at hr7;obtain⟨va2,OA,hv7⟩:=hr7.ci;have HK7:=ae hr7.kept;have HC7:=ae OA;have HV7:=ae hv7;clear Gc hr7 OA hv7 a4;go_wp2_with fail
    go_roundg (m.a.rows.length-(j+1))
    case measure=>omega
    case rel=>exact⟨j+1,eJ vs s3 r,va2,by omega,by go_num,HK7.out,HC7.out,HV7.out,lj.out⟩
   ·have Q9:¬(j:Int)<m.a.rows.length:=by omega
    have HEE:=ae (show s3=dK vs gs i m s by rw[<-HF.out,List.drop_of_length_le (by omega)];rfl);go_wp2_with fail;go_end0;exact⟨rfl,HK.out,Eb,by rw[<-HEE.out];exact ki.out,HVO.out⟩
def DSl(w:World)(sv:Value)(l:List (Nat×Bool)):Prop:=
 ∃a cap,sv=.slice a l.length cap/\∀k (hk:k<l.length),∃g,a=some ⟨g,0,none⟩/\w.cell? ⟨g,k,none⟩=some (.pointer (some ⟨l[k].1,0,none⟩))/\w.cell? ⟨l[k].1,4,none⟩=some (.bool l[k].2)
def inl(gs:List MG)(i:Nat):List (Nat×Bool):=(inner gs i).map λg=>(g.bZ,g.a.dflt)
theorem PT.dsl(h:PT w base tb vt vs gs F vv vm)(hl:Links gs){i:Nat}(hi:i<gs.length):DSl w gs[i].vw (inl gs i):=by
 have ho:w.ownsRow base 164 1 gs[i].vw gs[i].wi.length (gs[i].wi.map dz):=h.mem.own _ _ (pd hi);have Z4:gs[i].wi=(inner gs i).map (·.bZ):=by
  have h1:=(hl i gs[i].key (by simp[hi])).wi;have h2:gs[i].key.wi=gs[i].wi:=rfl;rw[<-h2,h1,inside,inner,List.filter_map,List.map_map];rfl
 have hlen:gs[i].wi.length=(inl gs i).length:=by rw[Z4,inl,List.length_map,List.length_map]
 obtain⟨a,c,hv,_,_⟩:=aj ho;refine⟨a,c,by grind,λk hk=>?_⟩;obtain⟨g,cap,oR,_,_,_,_,hcc⟩:=aR ho (by omega);rw[hv]at oR
 cases oR
 have rM:=by simpa[inl]using hk
 have e1:(inl gs i)[k]=((inner gs i)[k].bZ,(inner gs i)[k].a.dflt):=by simp[inl]
 obtain⟨j,hj,hje⟩:=List.getElem_of_mem ((List.mem_filter.1 (List.getElem_mem rM)).1);refine⟨g,rfl,?_,?_⟩
 ·refine(hcc k (by omega)).trans ?_
  rw[e1];simp only [Z4,List.map_map,List.getElem?_map,List.getElem?_eq_getElem rM];rfl
 ·rw[e1,<-hje]
  exact(h.bG hj).1 4 (by omega)
theorem NH(gs:List MG)(i:Nat):(inl gs i).length=(inner gs i).length:=by simp[inl]
theorem P2(gs:List MG)(i:Nat):((inl gs i).filter (·.2)).length=nF gs i:=by
 rw[inl,List.filter_map,List.length_map];rfl
theorem tw(w:World)(sv:Value)(l:List (Nat×Bool))(h:DSl w sv l)(hl:l.length<=10000):
  Calls Tryz.prog 161 #[sv] w λe w'=>e=.returned (.int .i64 (l.filter (·.2)).length)/\w'=w:=by
 obtain⟨a,cap,rfl,hc⟩:=h;have HC:=ae hc;clear hc;go_enter Tryz.func161,Tryz.ntmps161;go_wp2
 go_loop [3,5,8] (λv3 _ v8=>∃k:Nat,k<=l.length/\v8=.int .i64 k/\v3=.int .i64 ((l.take k).filter (·.2)).length) (λ_ _ v8=>l.length-(intOf v8).toNat)
 case atStart=>grind
 case round=>
  obtain⟨k,hk,rfl,rfl⟩:=hrel
  by_cases hlt:k<l.length
  ·obtain⟨g,rfl,x0,x1⟩:=HC.out k hlt
   have rM:(k:Int)<l.length:=by omega
   have jf:(0:Int)<=k:=by omega
   have hle:((l.take k).filter (·.2)).length<=k:=Nat.le_trans (List.length_filter_le _ _) (List.length_take_le _ _);have Fh:l.take (k+1)=l.take k++[l[k]]:=by rw[List.take_add_one,List.getElem?_eq_getElem hlt];rfl
   have HTS:=ae Fh;clear Fh;generalize l[k]=p at*
   cases hp:p.2 with
   |true=>
    rw[hp]at x1;have HN:=ae (show((l.take (k+1)).filter (·.2)).length=((l.take k).filter (·.2)).length+1 by rw[HTS.out,List.filter_append];simp[hp]);clear hp;generalize ((l.take k).filter (·.2)).length=n at*;go_wp2
    go_round
    case rel=>exact⟨k+1,by omega,by go_num,by rw[HN.out];go_num⟩
    case measure=>grind[intOf]
   |false=>
    rw[hp]at x1;have HN:=ae (show((l.take (k+1)).filter (·.2)).length=((l.take k).filter (·.2)).length by rw[HTS.out,List.filter_append];simp[hp]);clear hp;generalize ((l.take k).filter (·.2)).length=n at*;go_wp2
    go_round
    case rel=>exact⟨k+1,by omega,by go_num,by rw[HN.out]⟩
    case measure=>grind[intOf]
  ·have rM:¬(k:Int)<l.length:=by omega
   have HN:=ae (show(l.take k).filter (·.2)=l.filter (·.2) by grind);go_wp2;go_ret;exact⟨by rw[HN.out];rfl,rfl⟩
theorem P3(gs:List MG)(i:Nat)(s:CS)(h:i<gs.length):iX gs i (gs.drop i) s=iX gs (i+1) (gs.drop (i+1)) (s.ref (decide (0<(inner gs i).length)&&(decide (nF gs i≠1))) 5 gs[i].a.name.line):=by
 rw[List.drop_eq_getElem_cons h];rfl
theorem zV(w:World)(c tb base:Nat)(vt vv vm:Value)(vs:List az)(gs:List MG)(s:CS)(va:Value)(h:CI w c tb s va)(hT:PT w base tb vt vs gs (λk=>k<c) vv vm)(hL:Links gs)(ck:gs.length<=3001):
  Calls Tryz.prog 108 #[.pointer (some ⟨c,0,none⟩)] w λe w'=>Fq w c tb va (iX gs 0 gs s) e w':=by
 have H0:=ae h;have tj:=ae hT;have HL:=ae hL;obtain⟨avm,Gd,nP,UR,_⟩:=aj (hT.mem.own 2 _ rfl);simp only at nP UR;subst nP;obtain⟨_,_,x2,_,_,Ev,htc⟩:=hT.cells;have x0:=dt h.box;clear h hT hL;go_enter Tryz.func108,Tryz.ntmps108;go_wp2_with fail;clear x0 x2
 go_loopg [12] (gs.length) (λk v12 wr=>∃(i:Nat)(s1:CS),i+k=gs.length/\v12=.int .i64 i/\Kp (CF c va) w wr/\CI wr c tb s1 va/\iX gs i (gs.drop i) s1=iX gs 0 gs s)
 case atStart=>exact⟨0,s,by omega,rfl,Kp.refl _ _,H0.out,rfl⟩
 case round=>
  obtain⟨i,s1,hi,rfl,hk,vS,hF⟩:=hrel;have HK:=ae hk;have ki:=ae vS;have HF:=ae hF;clear hk vS hF
  by_cases hlt:i<gs.length
  ·have mQ:(i:Int)<gs.length:=by omega
   have dl:(0:Int)<=i:=by omega
   have nS:=ae (tj.out.iF (H0.out.toBelow HK.out));obtain⟨gm,IB,_,e,QY,Pu⟩:=nS.out.TU.resolve_left (λh=>by omega)
   cases e
   obtain⟨g0,_,eS⟩:=Pu i hlt;have rI:=(nS.out.bG hlt).1;have Xg:=(nS.out.bG hlt).2.2.2.2;have hds:=λX (hX:PT X base tb vt vs gs (λk=>k<c) vv (.slice (some ⟨gm,0,none⟩) gs.length Gd))=>hX.dsl HL.out hlt
   have lj:=ae (P3 gs i s1 hlt);have oA:(inl gs i).length<=10000:=by rw[NH];exact Nat.le_trans (List.length_filter_le _ _) (by omega)
   have HIL:=ae (NH gs i);have HID:=ae (P2 gs i);generalize hm:gs[i]=m at*;generalize inl gs i=l at*;have HDS:=ae hds;obtain⟨al,cl,Rb,_⟩:=HDS.out wr nS.out;have m0:wr.cell? ⟨m.bZ,0,none⟩=some (.int .i64 (ao m.a.name.k)):=rI 0 (by omega);have m1:wr.cell? ⟨m.bZ,1,none⟩=some (.string m.a.name.s):=rI 1 (by omega);have m2:wr.cell? ⟨m.bZ,2,none⟩=some (.int .i64 m.a.name.n):=rI 2 (by omega);have m3:wr.cell? ⟨m.bZ,3,none⟩=some (.int .i64 m.a.name.line):=rI 3 (by omega);have m8:wr.cell? ⟨m.bZ,8,none⟩=some m.vw:=rI 8 (by omega);rw[Rb]at m8;have HVW:=ae Rb;have Dq:=ki.out.lt;have Ec:¬m.bZ=c:=by omega
   clear Rb Pu hm rI hds;go_wp2_with fail;clear g0
   by_cases hn:0<l.length
   ·have hni:(0:Int)<l.length:=by omega
    have HB:=ae (show s1.ref (((((l.filter (·.2)).length):Int) !=1)) 5 m.a.name.line=s1.ref (decide (0<(inner gs i).length)&&decide (nF gs i≠1)) 5 m.a.name.line by
     rw[<-HIL.out,<-HID.out,decide_eq_true hn];congr 1
     rw[Bool.eq_iff_iff];simp;omega)
    have CK:=ae (λY hY=>by
     have:=tw Y m.vw l (HDS.out Y hY) oA;rw[HVW.out]at this
     exact this)
    generalize (l.filter (·.2)).length=cd at*
    go_region_held3 (λY=>Y.cell? ⟨m.bZ,0,none⟩=some (.int .i64 (ao m.a.name.k))/\Y.cell? ⟨m.bZ,1,none⟩=some (.string m.a.name.s)/\Y.cell? ⟨m.bZ,2,none⟩=some (.int .i64 m.a.name.n)/\Y.cell? ⟨m.bZ,3,none⟩=some (.int .i64 m.a.name.line)/\Y.cell? ⟨m.bZ,8,none⟩=some (.slice al l.length cl)) (first|go_keep|(exact⟨by with_reducible assumption,by with_reducible assumption,by with_reducible assumption,by with_reducible assumption,by with_reducible assumption⟩))
     (first
      |(go_at_call 161;refine(CK.out _ ?_).mono ?_;exact nS.out.below ⟨rfl,rfl,rfl,Nat.le_refl _,λ_ _=>rfl⟩;rintro e w2 ⟨rfl,rfl⟩)
      |(go_at_call 156;refine(cN _ c tb (s1.rows) va s1.cl _ 5 m.a.name ?_).mono ?_;exact ki.out.box;intro e w3 ft;obtain rfl:=ft.ret;have p0:=(ft.kept.cell eS Ec).trans m0;have p1:=(ft.kept.cell eS Ec).trans m1;have p2:=(ft.kept.cell eS Ec).trans m2;have p3:=(ft.kept.cell eS Ec).trans m3;have p8:=(ft.kept.cell eS Ec).trans m8))
    have rN:=ae (CI.ref (show CI wr.drew c tb s1 va from⟨ki.out.box,ki.out.own⟩) ft).1;have kj:=ae (HK.out.drew.trans ft.kept (λ_ e=>.inl (.inl e)));clear ft m0 m1 m2 m3 m8 p0 p1 p2 p3 p8 CK;go_wp2_with fail
    go_roundg (gs.length-(i+1))
    case measure=>omega
    case rel=>exact⟨i+1,s1.ref (decide (0<(inner gs i).length)&&decide (nF gs i≠1)) 5 m.a.name.line,by omega,by go_num,kj.out,by rw[<-HB.out];exact rN.out,by rw[<-HF.out,lj.out]⟩
   ·have Ex:l.length=0:=by omega
    rw[Ex]at m8;have HB:=ae (show s1.ref false 5 m.a.name.line=s1.ref (decide (0<(inner gs i).length)&&decide (nF gs i≠1)) 5 m.a.name.line by rw[<-HIL.out,decide_eq_false hn];rfl);clear Ex;refine wp_region_held_drew (S:=λY=>Y.cell? ⟨m.bZ,0,none⟩=some (.int .i64 (ao m.a.name.k))/\Y.cell? ⟨m.bZ,1,none⟩=some (.string m.a.name.s)/\Y.cell? ⟨m.bZ,2,none⟩=some (.int .i64 m.a.name.n)/\Y.cell? ⟨m.bZ,3,none⟩=some (.int .i64 m.a.name.line)/\Y.cell? ⟨m.bZ,8,none⟩=some (.slice al 0 cl)) (by kernel_rfl) ⟨m0,m1,m2,m3,m8⟩ (λhHeld=>?_);refine wpAnyH_take (i:=0) (v:=?_) rfl (by kernel_rfl) (by kernel_rfl) (by kernel_rfl) (λ_ _ _ h=>h) (Or.inl ⟨by rfl,?_⟩) hHeld ?_;rotate_left
    ·intro w gO;(try dsimp only at gO);go_simp;(try with_reducible rfl)
    (try simp only [Act.put,qA,qB,qC,qD,qE])
    refine wpAnyH_take (i:=1) (v:=?_) rfl (by kernel_rfl) (by kernel_rfl) (by kernel_rfl) (λ_ _ _ h=>h) (Or.inl ⟨by rfl,?_⟩) hHeld ?_;rotate_left
    ·intro w gO;(try dsimp only at gO);go_simp;(try with_reducible rfl)
    (try simp only [Act.put,qA,qB,qC,qD,qE,qF])
    refine wpAnyH_take (i:=2) (v:=?_) rfl (by kernel_rfl) (by kernel_rfl) (by kernel_rfl) (λ_ _ _ h=>h) (Or.inl ⟨by rfl,?_⟩) hHeld ?_;rotate_left
    ·intro w gO;(try dsimp only at gO);go_simp;(try with_reducible rfl)
    (try simp only [Act.put,qA,qB,qC,qD,qE,qF])
    refine wpAnyH_take (i:=3) (v:=?_) rfl (by kernel_rfl) (by kernel_rfl) (by kernel_rfl) (λ_ _ _ h=>h) (Or.inl ⟨by rfl,?_⟩) hHeld ?_;rotate_left
    ·intro w gO;(try dsimp only at gO);go_simp;(try with_reducible rfl)
    (try simp only [Act.put,qA,qB,qC,qD,qE,qF])
    refine wpAnyH_take (i:=4) (v:=?_) rfl (by kernel_rfl) (by kernel_rfl) (by kernel_rfl) (λ_ _ _ h=>h) (Or.inl ⟨by rfl,?_⟩) hHeld ?_;rotate_left
    ·intro w gO;(try dsimp only at gO);go_simp;(try with_reducible rfl)
    (try simp only [Act.put,qA,qB,qC,qD,qE,qF])
    refine wpAnyH_take (i:=5) (v:=?_) rfl (by kernel_rfl) (by kernel_rfl) (by kernel_rfl) (λ_ _ _ h=>h) (Or.inl ⟨by rfl,?_⟩) hHeld ?_;rotate_left
    ·intro w gO;(try dsimp only at gO);go_simp;(try with_reducible rfl)
    (try simp only [Act.put,qA,qB,qC,qD,qE,qF])
    refine wpAnyH_take (i:=6) (v:=?_) rfl (by kernel_rfl) (by kernel_rfl) (by kernel_rfl) (λ_ _ _ h=>h) (Or.inl ⟨by rfl,?_⟩) hHeld ?_;rotate_left
    ·intro w gO;(try dsimp only at gO);go_simp;(try with_reducible rfl)
    (try simp only [Act.put,qA,qB,qC,qD,qE,qF])
    refine wpAnyH_take (i:=7) (v:=?_) rfl (by kernel_rfl) (by kernel_rfl) (by kernel_rfl) (λ_ _ _ h=>h) (Or.inl ⟨by rfl,?_⟩) hHeld ?_;rotate_left
    ·intro w gO;(try dsimp only at gO);go_simp;(try with_reducible rfl)
    (try simp only [Act.put,qA,qB,qC,qD,qE,qF])
    refine wpAnyH_take (i:=8) rfl (by kernel_rfl) (by kernel_rfl) (by kernel_rfl) (λ_ _ _ h=>h) (Or.inr ⟨by rfl,rfl⟩) hHeld ?_
    (try simp only [Act.put,qA,qB,qC,qD,qE,qF])
    refine wpAnyH_take (i:=9) rfl (by kernel_rfl) (by kernel_rfl) (by kernel_rfl) (λ_ _ _ h=>h) (Or.inr ⟨by rfl,rfl⟩) hHeld ?_
    (try simp only [Act.put,qA,qB,qC,qD,qE,qF])
    refine wpAnyH_take (i:=10) rfl (by kernel_rfl) (by kernel_rfl) (by kernel_rfl) (λ_ _ _ h=>h) (Or.inr ⟨by rfl,rfl⟩) hHeld ?_
    (try simp only [Act.put,qA,qB,qC,qD,qE,qF])
    refine wpAnyH_take (i:=11) rfl (by kernel_rfl) (by kernel_rfl) (by kernel_rfl) (λ_ _ _ h=>h) (Or.inr ⟨by rfl,rfl⟩) hHeld ?_
    (try simp only [Act.put,qA,qB,qC,qD,qE,qF])
    refine wpAnyH_take (i:=12) rfl (by kernel_rfl) (by kernel_rfl) (by kernel_rfl) (λ_ _ _ h=>h) (Or.inr ⟨by rfl,rfl⟩) hHeld ?_
    (try simp only [Act.put,qA,qB,qC,qD,qE,qF])
    refine wpAnyH_take (i:=13) rfl (by kernel_rfl) (by kernel_rfl) (by kernel_rfl) (λ_ _ _ h=>h) (Or.inr ⟨by rfl,rfl⟩) hHeld ?_
    (try simp only [Act.put,qA,qB,qC,qD,qE,qF])
    refine wpAnyH_take (i:=14) (v:=?_) rfl (by kernel_rfl) (by kernel_rfl) (by kernel_rfl) (λ_ _ _ h=>h) (Or.inl ⟨by rfl,?_⟩) hHeld ?_;rotate_left
    ·intro w gO;(try dsimp only at gO);go_simp;(try with_reducible rfl)
    (try simp only [Act.put,qA,qB,qC,qD,qE,qF])
    refine wpAnyH_take (i:=15) (v:=?_) rfl (by kernel_rfl) (by kernel_rfl) (by kernel_rfl) (λ_ _ _ h=>h) (Or.inl ⟨by rfl,?_⟩) hHeld ?_;rotate_left
    ·intro w gO;(try dsimp only at gO);go_simp;(try with_reducible rfl)
    (try simp only [Act.put,qA,qB,qC,qD,qE,qF])
    refine wpAnyH_take (i:=16) (v:=?_) rfl (by kernel_rfl) (by kernel_rfl) (by kernel_rfl) (λ_ _ _ h=>h) (Or.inl ⟨by rfl,?_⟩) hHeld ?_;rotate_left
    ·intro w gO;(try dsimp only at gO);go_simp;(try with_reducible rfl)
    (try simp only [Act.put,qA,qB,qC,qD,qE,qF])
    refine wpAnyH_take (i:=17) (v:=?_) rfl (by kernel_rfl) (by kernel_rfl) (by kernel_rfl) (λ_ _ _ h=>h) (Or.inl ⟨by rfl,?_⟩) hHeld ?_;rotate_left
    ·intro w gO;(try dsimp only at gO);go_simp;(try with_reducible rfl)
    (try simp only [Act.put,qA,qB,qC,qD,qE,qF])
    refine wpAnyH_take (i:=18) (v:=?_) rfl (by kernel_rfl) (by kernel_rfl) (by kernel_rfl) (λ_ _ _ h=>h) (Or.inl ⟨by rfl,?_⟩) hHeld ?_;rotate_left
    ·intro w gO;(try dsimp only at gO);go_simp;(try with_reducible rfl)
    (try simp only [Act.put,qA,qB,qC,qD,qE,qF])
    refine wpAnyH_ready (rs:=[19]) (by kernel_rfl) (by simp) ?_;refine AllReadyH.cons rfl (λK hK=>?_) AllReadyH.nil
    go_simp
    refine(cN _ c tb (s1.rows) va s1.cl _ 5 m.a.name ?_).mono ?_
    ·exact ki.out.box
    intro e w3 ft;obtain rfl:=ft.ret;have rN:=ae (CI.ref (show CI wr.drew c tb s1 va from⟨ki.out.box,ki.out.own⟩) ft).1;have kj:=ae (HK.out.drew.trans ft.kept (λ_ e=>.inl (.inl e)));refine hK.out _ _ ⟨(ft.kept.cell eS Ec).trans m0,(ft.kept.cell eS Ec).trans m1,(ft.kept.cell eS Ec).trans m2,(ft.kept.cell eS Ec).trans m3,(ft.kept.cell eS Ec).trans m8⟩ (λ_=>?_);clear hK K ft
    (try simp only [Act.put,qA,qB,qC,qD,qE,qF])
    refine wpAnyH_done (by kernel_rfl) ?_ _;go_wp2_with fail
    go_roundg (gs.length-(i+1))
    case measure=>omega
    case rel=>exact⟨i+1,s1.ref (decide (0<(inner gs i).length)&&decide (nF gs i≠1)) 5 m.a.name.line,by omega,by go_num,kj.out,by rw[<-HB.out];exact rN.out,by rw[<-HF.out,lj.out]⟩
  ·have mQ:¬(i:Int)<gs.length:=by omega
   have HE:=ae (show s1=iX gs 0 gs s by rw[<-HF.out,List.drop_of_length_le (by omega)];rfl);go_wp2_with fail;go_end0;exact⟨rfl,HK.out,va,by rw[<-HE.out];exact ki.out,λ_ e=>.inl e⟩
end
section
open Go.RowKit
theorem PT.lt(h:PT w base tb vt vs gs F vv vm):PT w base tb vt vs gs (λk=>k<w.heap.size) vv vm:=
 ⟨h.mem,λ_ ⟨_,_,hr,he⟩=>(h.mem.lt hr he).2,h.low⟩
theorem L4(vs:List az)(gs:List MG)(i:Nat)(m:MG)(s:CS):m.a.rows.length<=(dK vs gs i m s).rows:=by
 grind[pW,dK]
theorem Je(vs:List az)(gs:List MG)(l:List MG):∀(i:Nat)(s:CS)(m:MG),m∈l->m.a.rows.length<=(cK vs gs i l s).rows:=by
 induction l with
 |nil=>simp
 |cons x r ih=>
  intro i s m h;rcases List.mem_cons.1 h with rfl|h
  ·exact Nat.le_trans (L4 vs gs i m s) (tu vs gs r (i+1) _)
  ·exact ih (i+1) _ m h
theorem Fy(vs:List az)(gs:List MG)(i:Nat)(s:CS)(h:i<gs.length):cK vs gs i (gs.drop i) s=cK vs gs (i+1) (gs.drop (i+1)) (dK vs gs i gs[i] s):=by
 rw[List.drop_eq_getElem_cons h];rfl
theorem CI.start{c:Nat}(hb:w.heap[c]?=some (.cells (tf tb 0 (.slice none 0 0) 0 0) 206 (0,0))):CI w c tb ⟨0,[],(0,0)⟩ (.slice none 0 0):=
 ⟨hb,⟨rfl,.inl ⟨rfl,rfl⟩⟩⟩
theorem P4(w:World)(base tb:Nat)(vt vv vm:Value)(vs:List az)(gs:List MG)(F:Nat->Prop)(hT:PT w base tb vt vs gs F vv vm)(hL:Links gs)(kz:vs.length<=3001)(ck:gs.length<=3001)
  (bu:(cK vs gs 0 gs (de vs 0 vs ⟨0,[],(0,0)⟩)).atoms.length<=10000) (G6:(cK vs gs 0 gs (de vs 0 vs ⟨0,[],(0,0)⟩)).rows<=10000):
  Calls Tryz.prog 72 #[.pointer (some ⟨tb,0,none⟩)] w λe w'=>e=.returned (.agg (ay (jl vs gs).cl.1 (jl vs gs).cl.2))/\Below w.heap.size w w':=by
 have HL:=ae hL;have Oi:=ae (λm hm=>Nat.le_trans (Je vs gs gs 0 _ m hm) G6);have aqU:=ae (show jl vs gs=iX gs 0 gs (dT gs gs (cK vs gs 0 gs (de vs 0 vs ⟨0,[],(0,0)⟩)))from rfl);generalize hSM:cK vs gs 0 gs (de vs 0 vs ⟨0,[],(0,0)⟩)=SM at*;have HSM:=ae hSM;have gf:Below w.heap.size w (w.alloc (.cells (ay 0 0) 34)):=(Below.refl _ _).alloc (Nat.le_refl _) _;have kc:Below w.heap.size w ((w.alloc (.cells (ay 0 0) 34)).alloc (.cells (tf tb 0 (.slice none 0 0) 0 0) 206)):=gf.alloc (by simp) _;have QV:((w.alloc (.cells (ay 0 0) 34)).alloc (.cells (tf tb 0 (.slice none 0 0) 0 0) 206)).heap[w.heap.size+1]?=some (.cells (tf tb 0 (.slice none 0 0) 0 0) 206 (0,0)):=by
  have:=heap_alloc_new (w.alloc (.cells (ay 0 0) 34)) (.cells (tf tb 0 (.slice none 0 0) 0 0) 206);simpa using this
 have ov:((w.alloc (.cells (ay 0 0) 34)).alloc (.cells (tf tb 0 (.slice none 0 0) 0 0) 206)).heap[w.heap.size]?=some (.cells (ay 0 0) 34 (0,0)):=
  (((Below.refl (w.heap.size+1) (w.alloc (.cells (ay 0 0) 34))).alloc (by simp) _).block w.heap.size (by omega)).trans (heap_alloc_new w _)
 have hsz:((w.alloc (.cells (ay 0 0) 34)).alloc (.cells (tf tb 0 (.slice none 0 0) 0 0) 206)).heap.size=w.heap.size+2:=by simp
 have uC:=(hT.lt.mono (λk (hk)=>(show k<w.heap.size+1 by omega))).below kc;obtain⟨avm,Gd,nP,_,_⟩:=aj (hT.mem.own 2 _ rfl);simp only at nP;subst nP;clear hT hL gf hSM;go_enter Tryz.func72,Tryz.ntmps72;go_wp2_with fail;rw[show(#[Value.int .i64 0,.int .i64 0,.string ⟨#[]⟩,.slice none 0 0,.slice none 0 0])=ay 0 0 from rfl];rw[show(#[Value.pointer (some ⟨tb,0,none⟩),.int .i64 0,.slice none 0 0,.int .i64 0,.int .i64 0,.string ⟨#[]⟩,.slice none 0 0,.slice none 0 0])=tf tb 0 (.slice none 0 0) 0 0 from rfl];generalize ((w.alloc (.cells (ay 0 0) 34)).alloc (.cells (tf tb 0 (.slice none 0 0) 0 0) 206))=W at*;have HC0:=ae (CI.start QV);have tj:=ae uC;have Lp:=ae kc;have og:=ae ov;have HSZ:=ae hsz
 have KB:Hid (∀X,Kp (CF (w.heap.size+1) (.slice none 0 0)) W X->PT X base tb vt vs gs (λk=>k<w.heap.size+1) vv (.slice avm gs.length Gd)/\X.heap[w.heap.size]?=some (.cells (ay 0 0) 34 (0,0))/\Below w.heap.size w X):=ae (λX hX=>by
  have h1:=HC0.out.toBelow hX
  exact⟨tj.out.iF h1,(h1.block w.heap.size (by omega)).trans og.out,Lp.out.trans (h1.mono (by omega))⟩)
 clear QV uC kc ov hsz;refine(zS W (w.heap.size+1) tb base vt vv _ vs gs _ _ HC0.out tj.out kz).mono ?_;intro e w1 dw;obtain rfl:=dw.ret;obtain⟨Eb,iH,nG⟩:=dw.ci;have jW:=ae dw.kept;have ot:=ae iH;have HV1:=ae nG;generalize de vs 0 vs ⟨0,[],(0,0)⟩=s1 at*;clear dw iH nG;have mU:=ae (KB.out w1 jW.out).1;obtain⟨_,_,v2,_,_,Fu,_⟩:=mU.out.cells;go_wp2_with fail;clear v2
 go_loopg [14] (gs.length) (λk v14 wr=>∃(i:Nat)(s:CS)(va:Value),i+k=gs.length/\v14=.int .i64 i/\Kp (CF (w.heap.size+1) (.slice none 0 0)) W wr/\CI wr (w.heap.size+1) tb s va/\(∀q,va.ownBlock=some q->(Value.slice none 0 0).ownBlock=some q\/W.heap.size<=q)/\cK vs gs i (gs.drop i) s=SM)
 case atStart=>exact⟨0,s1,Eb,by omega,rfl,jW.out,ot.out,HV1.out,HSM.out⟩
 case round=>
  obtain⟨i,s,va,hi,rfl,hk,vS,hvo,hF⟩:=hrel;have HK:=ae hk;have ki:=ae vS;have HVO:=ae hvo;have HF:=ae hF;have nS:=ae (KB.out wr hk).1;clear hk vS hvo hF jW ot HV1 mU
  by_cases hlt:i<gs.length
  ·have mQ:(i:Int)<gs.length:=by omega
   have dl:(0:Int)<=i:=by omega
   obtain⟨gm,IB,_,e,_,Pu⟩:=nS.out.TU.resolve_left (λh=>by omega)
   cases e
   obtain⟨g0,_,_⟩:=Pu i hlt;have lj:=ae ((Fy vs gs i s hlt).symm.trans HF.out);have nW:(dK vs gs i gs[i] s).atoms.length<=10000:=by have h1:=zT vs gs (gs.drop (i+1)) (i+1) (dK vs gs i gs[i] s);rw[lj.out]at h1;omega
   have kq:(dK vs gs i gs[i] s).rows<=10000:=by have h1:=tu vs gs (gs.drop (i+1)) (i+1) (dK vs gs i gs[i] s);rw[lj.out]at h1;omega
   have CM:=ae (zU wr (w.heap.size+1) tb base vt vv _ vs gs s va i hlt ki.out nS.out kz ck nW kq);generalize gs[i]=m at*;generalize dK vs gs i m s=s2 at*;clear Pu;go_wp2_with fail;refine CM.out.mono ?_;intro e w2 fv;obtain rfl:=fv.ret;have ft:=Fq.trans HK.out HVO.out fv;obtain⟨va2,lQ,oR⟩:=ft.ci;have iG:=ae ft.kept;have MY:=ae lQ;have HV2:=ae oR;clear fv ft lQ oR g0;go_wp2_with fail
   go_roundg (gs.length-(i+1))
   case measure=>omega
   case rel=>exact⟨i+1,s2,va2,by omega,by go_num,iG.out,MY.out,HV2.out,lj.out⟩
  ·have mQ:¬(i:Int)<gs.length:=by omega
   obtain rfl:s=SM:=by have:=HF.out;rw[List.drop_of_length_le (by omega)]at this;exact this
   go_wp2_with fail;refine(uE wr (w.heap.size+1) tb base vt vv _ vs gs s va ki.out nS.out ck Oi.out).mono ?_;intro e w2 fv;obtain rfl:=fv.ret;have ft:=Fq.trans HK.out HVO.out fv;obtain⟨va2,lQ,oR⟩:=ft.ci;have iG:=ae ft.kept;have MY:=ae lQ;have HV2:=ae oR;have rP:=ae (KB.out w2 ft.kept).1;generalize dT gs gs s=s2 at*;clear fv ft lQ oR;go_wp2_with fail;refine(zV w2 (w.heap.size+1) tb base vt vv _ vs gs s2 va2 MY.out rP.out HL.out ck).mono ?_;intro e w3 ft;obtain rfl:=ft.ret;have UO:=Fq.trans iG.out HV2.out ft;obtain⟨va3,lA,ZU⟩:=UO.ci;have kj:=ae UO.kept;have rN:=ae lA;have ji:=ae (KB.out w3 UO.kept).2;rw[<-aqU.out]at rN;generalize hsa:jl vs gs=sa at*;have P5:=ae hsa;clear hsa;clear ft UO lA ZU;obtain⟨-,-,-,x3,x4,x5,x6,x7⟩:=adl rN.out.box;have vB:=ji.out.1;have y0:=dt vB;have z0:=Lib.frozen_of_heap vB 0;have y1:=fS vB;have z1:=Lib.frozen_of_heap vB 1;have y2:=jr vB;have z2:=Lib.frozen_of_heap vB 2;have y3:=rQ vB;have z3:=Lib.frozen_of_heap vB 3;have y4:=oh vB;have z4:=Lib.frozen_of_heap vB 4;clear vB;go_wp2_with fail;refine bodyPost_ret (v:=.agg #[.int .i64 sa.cl.1,.int .i64 sa.cl.2,.string ⟨#[]⟩,.slice none 0 0,.slice none 0 0]) (by simp[results,Tryz.results72,go_sem, *]) rfl ?_;exact⟨by rw[P5.out];rfl,dh ji.out.2⟩
