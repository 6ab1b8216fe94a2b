/- The walk of findOne. -/
import Derived.Test.YtdjaiolfdbamcaaGreatDoorZKWa
set_option maxRecDepth 20000
set_option maxHeartbeats 2000000
namespace Go.Proofs.YtdjaiolfdbamcaaGreatDoor
variable {W W':World}{s:Value}{l:List Int}{nm:ByteArray}{x:Int}
section
open Go.RowKit
def NR(W:World)(s:Value)(l:List Int):Prop:=
 ∃g cap,s=.slice (some ⟨g,0,none⟩) l.length cap/\l.length<=cap/\g<W.heap.size/\∀i (hi:i<l.length),W.cell? ⟨g,i,none⟩=some (.int .i64 l[i])
theorem NR.below(h:NR W s l)(hb:Below W.heap.size W W'):NR W' s l:=by
 obtain⟨g,cap,rfl,hc,hg,hr⟩:=h;exact⟨g,cap,rfl,hc,Nat.lt_of_lt_of_le hg hb.size,λi hi=>(hb.cell hg).trans (hr i hi)⟩
theorem NR.ns(h:NR W s l):NS l.length W s l:=by
 obtain⟨g,cap,rfl,_,hg,hr⟩:=h;exact⟨rfl,g,cap,rfl,hg,hr⟩
def SR(W:World)(s:Value)(l:List Int):Prop:=
 ∃g cap,s=.slice (some ⟨g,0,none⟩) l.length cap/\g<W.heap.size/\∀i (hi:i<l.length),W.cell? ⟨g,i,none⟩=some (.int .u32 l[i])
theorem SR.below(h:SR W s l)(hb:Below W.heap.size W W'):SR W' s l:=by
 obtain⟨g,cap,rfl,hg,hr⟩:=h;exact⟨g,cap,rfl,Nat.lt_of_lt_of_le hg hb.size,λi hi=>(hb.cell hg).trans (hr i hi)⟩
def PlM(W:World)(s:Value)(ps:List (ByteArray×List Int)):Prop:=
 ∃g cap,s=.slice (some ⟨g,0,none⟩) ps.length cap/\g<W.heap.size/\∀i (hi:i<ps.length),W.cell? ⟨g,i*2,none⟩=some (.string ps[i].1)/\∃v,W.cell? ⟨g,i*2+1,none⟩=some v/\SR W v ps[i].2
def ScM(W:World)(s:Value)(ss:List (List Int×Int)):Prop:=
 ∃g cap,s=.slice (some ⟨g,0,none⟩) ss.length cap/\g<W.heap.size/\∀i (hi:i<ss.length),W.cell? ⟨g,i*2+1,none⟩=some (.int .u32 ss[i].2)/\∃v,W.cell? ⟨g,i*2,none⟩=some v/\NR W v ss[i].1
theorem PlM.below{ps:List (ByteArray×List Int)}(h:PlM W s ps)(hb:Below W.heap.size W W'):PlM W' s ps:=by
 obtain⟨g,cap,rfl,hg,hr⟩:=h;refine⟨g,cap,rfl,Nat.lt_of_lt_of_le hg hb.size,λi hi=>?_⟩;obtain⟨h1,v,h2,h3⟩:=hr i hi;exact⟨(hb.cell hg).trans h1,v,(hb.cell hg).trans h2,h3.below hb⟩
theorem ScM.below{ss:List (List Int×Int)}(h:ScM W s ss)(hb:Below W.heap.size W W'):ScM W' s ss:=by
 obtain⟨g,cap,rfl,hg,hr⟩:=h;refine⟨g,cap,rfl,Nat.lt_of_lt_of_le hg hb.size,λi hi=>?_⟩;obtain⟨h1,v,h2,h3⟩:=hr i hi;exact⟨(hb.cell hg).trans h1,v,(hb.cell hg).trans h2,h3.below hb⟩
def af1(w w':World)(e:Ending)(code:Int)(r:Option (ByteArray×List Int)):Prop:=
 Below w.heap.size w w'/\match r with
 |none=>e=.returned (.agg #[.int .i64 0,.int .i64 0,.string ⟨#[]⟩,.slice none 0 0,.slice none 0 0])
 |some x=>∃v u,e=.returned (.agg #[.int .i64 code,.int .i64 0,.string x.1,v,u])/\w'.ownsRow w.heap.size 3 1 v (x.2.length/2) ((x.2.take (x.2.length/2)).map (.int .i64))/\w'.ownsRow w.heap.size 3 1 u (x.2.length/2) ((x.2.drop (x.2.length/2)).map (.int .i64))/\∀k,v.ownBlock=some k->u.ownBlock≠some k
abbrev nK:Array Value:=#[.int .i64 0,.int .i64 0,.string ⟨#[]⟩,.slice none 0 0,.slice none 0 0]
theorem aaR{code jv:Int}{rows:List Int}(h:Cx.eA rows x=jv)(hc:¬jv=code):Cx.eL code (nm,rows) (l,x)=none:=by grind[Cx.eL]
theorem Ud{code:Int}{rows:List Int}(h:Cx.eA rows x=code):Cx.eL code (nm,rows) (l,x)=some (nm,l):=by simp[Cx.eL,h]
theorem vu(w:World)(code:Int)(ps:List (ByteArray×List Int))(ss:List (List Int×Int))(sp sq:Value)(hp:PlM w sp ps)(hq:ScM w sq ss)(tS:ps.length<=100000)(D3:ss.length<=100000000)(hn:∀p∈ps,p.1.size<=1000/\p.2.length<=1000)(hm:∀s∈ss,∃h,s.1.length=2*h/\h<=1000):
  Calls Tryz.prog 78 #[.int .i64 code,sp,sq] w λe w'=>af1 w w' e code (Cx.dL code ps ss):=by
 obtain⟨gp,cp,rfl,hgp,hpr⟩:=hp;obtain⟨gq,cq,rfl,RI,hqr⟩:=hq;have HP:=ae hpr;have HQ:=ae hqr;have HN:=ae hn;have HM:=ae hm;clear hpr hqr hn hm;go_enter Tryz.func78,Tryz.ntmps78;go_wp2_with fail
 go_step3
 go_wp2_with fail
 go_step3
 go_wp2_with fail
 go_loopg [14] (ps.length) (λk v14 wr=>∃i:Nat,i+k=ps.length/\v14=.int .i64 i/\Below w.heap.size w wr/\wr.heap[w.heap.size]?=some (.cells nK 34 (0,0))/\wr.heap[w.heap.size+1]?=some (.cells nK 34 (0,0))/\((ps.drop i).findSome? λp=>ss.findSome? λs=>Cx.eL code p s)=Cx.dL code ps ss)
 case atStart=>exact⟨0,by omega,rfl,mB _ _ _,((ag (w.alloc _) _).block w.heap.size (by simp)).trans (heap_alloc_new _ _),by have:=heap_alloc_new (w.alloc (.cells nK 34)) (.cells nK 34);simp_all,rfl⟩
 case round=>
  obtain⟨i,hi,rfl,hb,hx0,ep,hf⟩:=hrel;obtain⟨wo,rfl⟩:∃wo,wo=wr:=⟨wr,rfl⟩;have HB:=ae hb;have Ps:=ae hx0;have pJ:=ae ep;have HF:=ae hf;have hsz:=hb.size;have jX:=(Array.getElem?_eq_some_iff.1 ep).1;clear hx0 ep hf
  by_cases hlt:i<ps.length
  ·have mQ:(i:Int)<ps.length:=by omega
   have dl:(0:Int)<=i:=by omega
   obtain⟨h1,vp,h2,h3⟩:=HP.out i hlt;obtain⟨g1,c1,rfl,DK,dw⟩:=h3;obtain⟨QT,MW⟩:=HN.out ps[i] (List.getElem_mem hlt);have x0:=(hb.cell hgp).trans h1;have x1:=(hb.cell hgp).trans h2
   have HI:Hid (((ps.drop i).findSome? λp=>ss.findSome? λs=>Cx.eL code p s)=match(ss.findSome? λs=>Cx.eL code ps[i] s)with|some x=>some x|none=>((ps.drop (i+1)).findSome? λp=>ss.findSome? λs=>Cx.eL code p s)):=ae (by
    cases hc:(ss.findSome? λs=>Cx.eL code ps[i] s)with
    |none=>exact Cx.qy _ ps i hlt hc
    |some x=>exact Cx.uX _ ps i hlt hc)
   have zk:=ae (λj hj=>(hb.cell DK).trans (dw j hj));have ap9:g1<wo.heap.size:=by omega
   clear hb h1 h2 dw;generalize ps[i]=pi at*;obtain⟨nm,rows⟩:=pi;simp only at*;have fM:Hid (Below wo.heap.size wo (wo.alloc (.cells #[.string nm,.slice (some ⟨g1,0,none⟩) rows.length c1] 213))):=ae (ag _ _);have HXP:=ae (heap_alloc_new wo (.cells #[.string nm,.slice (some ⟨g1,0,none⟩) rows.length c1] 213));have hXs:(wo.alloc (.cells #[.string nm,.slice (some ⟨g1,0,none⟩) rows.length c1] 213)).heap.size=wo.heap.size+1:=by simp
   obtain⟨X,hX⟩:∃X,X=wo.alloc (.cells #[.string nm,.slice (some ⟨g1,0,none⟩) rows.length c1] 213):=⟨_,rfl⟩;rw[<-hX]at fM HXP hXs;go_wp2_with fail;rw[<-hX];clear hX x0 x1
   go_loopg [20] (ss.length) (λk v20 wi=>∃j:Nat,j+k=ss.length/\v20=.int .i64 j/\Below X.heap.size X wi/\((ss.drop j).findSome? λs=>Cx.eL code (nm,rows) s)=(ss.findSome? λs=>Cx.eL code (nm,rows) s))
   case atStart=>exact⟨0,by omega,rfl,Below.refl _ _,rfl⟩
   case round=>
    obtain⟨j,hj,rfl,mX,hfi⟩:=hrel;have KC:=ae mX;have xh:=ae hfi;have Ua:=mX.size;clear hfi
    by_cases mM:j<ss.length
    ·have Q9:(j:Int)<ss.length:=by omega
     have zg:(0:Int)<=j:=by omega
     obtain⟨h1,vq,h2,h3⟩:=HQ.out j mM;obtain⟨g2,c2,rfl,lQ,rF,fv⟩:=h3;obtain⟨hh,Q0,Ra⟩:=HM.out ss[j] (List.getElem_mem mM);have Lw:=(HB.out.trans (fM.out.mono hsz)).trans (mX.mono (by omega));have x0:=(Lw.cell RI).trans h2;have x1:=(Lw.cell RI).trans h1;have p0:wr.cell? ⟨wo.heap.size,0,none⟩=some (.string nm):=(mX.cell (by rw[hXs];simp)).trans (Lib.cell_of_heap HXP.out 0);have p1:wr.cell? ⟨wo.heap.size,1,none⟩=some (.slice (some ⟨g1,0,none⟩) rows.length c1):=(mX.cell (by rw[hXs];simp)).trans (Lib.cell_of_heap HXP.out 1);have hor:wo.heap.size<wr.heap.size:=by omega
     have mR:=ae (λk hk=>(Lw.cell rF).trans (fv k hk));have aqb:g1<X.heap.size:=by omega
     have afz:=ae (λk hk=>(mX.cell aqb).trans ((fM.out.cell ap9).trans (zk.out k hk)))
     have HSJ:Hid (((ss.drop j).findSome? λs=>Cx.eL code (nm,rows) s)=match Cx.eL code (nm,rows) ss[j]with|some x=>some x|none=>((ss.drop (j+1)).findSome? λs=>Cx.eL code (nm,rows) s)):=ae (by
      cases hc:Cx.eL code (nm,rows) ss[j]with
      |none=>exact Cx.qy _ ss j mM hc
      |some x=>exact Cx.uX _ ss j mM hc)
     have Ga:=ae Lw;have Lp:=ae ((mX.block w.heap.size (by omega)).trans ((fM.out.block w.heap.size (by omega)).trans Ps.out));have b6:=ae ((mX.block (w.heap.size+1) (by omega)).trans ((fM.out.block (w.heap.size+1) (by omega)).trans pJ.out));have akw:g1<wr.heap.size:=by omega
     have af2:g2<wr.heap.size:=by have:=Lw.size;omega
     clear mX Lw h1 h2 fv;generalize ss[j]=sj at*;obtain⟨l,xr⟩:=sj;simp only at*;have HJ:=ae (λ(Y)(hY:Below wr.heap.size wr Y)=>O5 Y g1 c1 rows xr (λk hk=>(hY.cell akw).trans (afz.out k hk)) (λ_=>Nat.lt_of_lt_of_le akw hY.size) (by omega))
     have HT:=ae (λ(Y)(hY:Below wr.heap.size wr Y)=>Uc Y code nm g2 c2 hh l.length (l.take hh) (l.drop hh) (by omega) (Nat.lt_of_lt_of_le af2 hY.size) Q0 (by simp;omega) (by simp;omega) Ra lQ
      (λk hk=>by
       have vY:k<l.length:=by simp at hk;omega
       have:=(hY.cell af2).trans (mR.out k vY)
       rw[Nat.zero_add,this];simp)
      (λk hk=>by
       have vY:hh+k<l.length:=by simp at hk;omega
       have:=(hY.cell af2).trans (mR.out (hh+k) vY)
       rw[this];simp))
     generalize hjv:Cx.eA rows xr=jv at*;have tM:=ae Q0;have nW:l.length<=2000:=by omega
     clear Q0;go_wp2_with fail;refine(HJ.out _ ?_).mono ?_
     ·exact ag _ _
     rintro e w2 ⟨rfl,aT⟩;have uy:=(ag wr (.cells #[.slice (some ⟨g2,0,none⟩) l.length c2,.int .u32 xr] 223)).trans (aT.mono (ag _ _).size);have dH:=ae uy;have jT:=uy.size
     by_cases hc:jv=code
     ·subst hc
      have HE:Hid (Cx.dL jv ps ss=some (nm,l)):=ae (by
       rw[<-HF.out,HI.out,<-xh.out,HSJ.out,Ud hjv])
      have s0:w2.cell? ⟨wr.heap.size,0,none⟩=some (.slice (some ⟨g2,0,none⟩) l.length c2):=(aT.cell (by simp)).trans (Lib.cell_of_heap (heap_alloc_new _ _) 0);have t0:=(uy.cell hor).trans p0;clear aT uy x0 x1 p0 p1 HJ;go_wp2_with fail;refine(HT.out _ dH.out).mono ?_;rintro e w3 ⟨v,u,rfl,jQ,j9,nM,eC⟩;obtain⟨av,cv,rfl,_,_⟩:=aj jQ;obtain⟨au,cu,rfl,_,_⟩:=aj j9;have jq:=dH.out.trans (eC.mono jT);have b0:=(jq.block w.heap.size (by omega)).trans Lp.out;have b1:=(jq.block (w.heap.size+1) (by omega)).trans b6.out;have oS:=eC.size;have Kc:=ae nM;have Q7:=ae (jI (a:=.int .i64 jv) (b:=.int .i64 0) (c:=.string nm) (d:=.slice av hh cv) (e:=.slice au hh cu) b1);have fL:=kV w3 (w.heap.size+1) (.int .i64 jv) (.int .i64 0) (.string nm) (.slice av hh cv) (.slice au hh cu);have HY0:=ae (jI (a:=.int .i64 jv) (b:=.int .i64 0) (c:=.string nm) (d:=.slice av hh cv) (e:=.slice au hh cu) ((fL.block w.heap.size (by omega) (by omega)).trans b0));have jf:=kV (f5 w3 (w.heap.size+1) (.int .i64 jv) (.int .i64 0) (.string nm) (.slice av hh cv) (.slice au hh cu)) w.heap.size (.int .i64 jv) (.int .i64 0) (.string nm) (.slice av hh cv) (.slice au hh cu);have fR:=ae (((Ga.out.trans (jq.mono (by omega))).trans (fL.toBelow (λk e=>by omega) (by omega))).trans (jf.toBelow (λk e=>by omega) (by have:=fL.size;omega)));have nZ:Hid ((f5 (f5 w3 (w.heap.size+1) (.int .i64 jv) (.int .i64 0) (.string nm) (.slice av hh cv) (.slice au hh cu)) w.heap.size (.int .i64 jv) (.int .i64 0) (.string nm) (.slice av hh cv) (.slice au hh cu)).ownsRow w.heap.size 3 1 (.slice av hh cv) hh ((l.take hh).map (.int .i64))):=ae (jf.own (fL.own (dF jQ (by omega)) (λk hk e=>by have:=(jQ.lt k hk).1;omega)) (λk hk e=>by have:=(jQ.lt k hk).1;omega));have lu:Hid ((f5 (f5 w3 (w.heap.size+1) (.int .i64 jv) (.int .i64 0) (.string nm) (.slice av hh cv) (.slice au hh cu)) w.heap.size (.int .i64 jv) (.int .i64 0) (.string nm) (.slice av hh cv) (.slice au hh cu)).ownsRow w.heap.size 3 1 (.slice au hh cu) hh ((l.drop hh).map (.int .i64))):=ae (jf.own (fL.own (dF j9 (by omega)) (λk hk e=>by have:=(j9.lt k hk).1;omega)) (λk hk e=>by have:=(j9.lt k hk).1;omega));obtain⟨y0,y1,y2,y3,y4⟩:=eN b1;have p0:=Lib.frozen_of_heap b1 0;have p1:=Lib.frozen_of_heap b1 1;have p2:=Lib.frozen_of_heap b1 2;have p3:=Lib.frozen_of_heap b1 3;have p4:=Lib.frozen_of_heap b1 4;obtain⟨z0,z1,z2,z3,z4⟩:=eN b0;have q0:=Lib.frozen_of_heap b0 0;have q1:=Lib.frozen_of_heap b0 1;have q2:=Lib.frozen_of_heap b0 2;have q3:=Lib.frozen_of_heap b0 3;have q4:=Lib.frozen_of_heap b0 4;clear jQ j9 nM eC jq b0 b1 fL jf s0 t0;go_wp2_with fail;rw[Exit.noGoto_ret];show bodyPost _ _ _ _ _ (f5 (f5 w3 (w.heap.size+1) (.int .i64 jv) (.int .i64 0) (.string nm) (.slice av hh cv) (.slice au hh cu)) w.heap.size (.int .i64 jv) (.int .i64 0) (.string nm) (.slice av hh cv) (.slice au hh cu));generalize f5 (f5 w3 (w.heap.size+1) (.int .i64 jv) (.int .i64 0) (.string nm) (.slice av hh cv) (.slice au hh cu)) w.heap.size (.int .i64 jv) (.int .i64 0) (.string nm) (.slice av hh cv) (.slice au hh cu)=Y at*;clear y0 y1 y2 y3 y4 z0 z1 z2 z3 z4 q0 q1 q2 q3 q4 p0 p1 p2 p3 p4;obtain⟨y0,y1,y2,y3,y4⟩:=eN HY0.out;refine bodyPost_ret (v:=.agg #[.int .i64 jv,.int .i64 0,.string nm,.slice av hh cv,.slice au hh cu]) (by simp[results,Tryz.results78,go_sem,y0,y1,y2,y3,y4]) rfl ?_;rw[HE.out];have e2:l.length/2=hh:=by rw[tM.out];omega
      refine⟨fR.out,_,_,rfl,?_,?_,Kc.out⟩
      ·rw[e2];exact nZ.out
      ·rw[e2];exact lu.out
     ·have HE:Hid (((ss.drop (j+1)).findSome? λs=>Cx.eL code (nm,rows) s)=ss.findSome? λs=>Cx.eL code (nm,rows) s):=ae (by
       rw[<-xh.out,HSJ.out,aaR hjv hc])
      have kh:=ae (KC.out.trans (dH.out.mono Ua));clear aT uy x0 x1 p0 p1 HJ HT;go_wp2_with fail
      go_roundg (ss.length-(j+1))
      case measure=>omega
      case rel=>exact⟨j+1,by omega,by go_num,kh.out,HE.out⟩
    ·obtain rfl:j=ss.length:=by omega
     have HE:Hid ((ss.findSome? λs=>Cx.eL code (nm,rows) s)=none):=ae (by rw[<-xh.out,List.drop_length];rfl);have HE2:Hid (((ps.drop (i+1)).findSome? λp=>ss.findSome? λs=>Cx.eL code p s)=Cx.dL code ps ss):=ae (by rw[<-HF.out,HI.out,HE.out]);have kh:=ae ((HB.out.trans (fM.out.mono hsz)).trans (mX.mono (by omega)));have aqc:=ae ((mX.block w.heap.size (by omega)).trans ((fM.out.block w.heap.size (by omega)).trans Ps.out));have aqd:=ae ((mX.block (w.heap.size+1) (by omega)).trans ((fM.out.block (w.heap.size+1) (by omega)).trans pJ.out));clear mX;go_wp2_with fail
     go_roundg (ps.length-(i+1))
     case measure=>omega
     case rel=>exact⟨i+1,by omega,by go_num,kh.out,aqc.out,aqd.out,HE2.out⟩
  ·obtain rfl:i=ps.length:=by omega
   have HE:Hid (Cx.dL code ps ss=none):=ae (by rw[<-HF.out,List.drop_length];rfl);obtain⟨y0,y1,y2,y3,y4⟩:=eN pJ.out;obtain⟨z0,z1,z2,z3,z4⟩:=eN Ps.out;have q0:=Lib.frozen_of_heap Ps.out 0;have q1:=Lib.frozen_of_heap Ps.out 1;have q2:=Lib.frozen_of_heap Ps.out 2;have q3:=Lib.frozen_of_heap Ps.out 3;have q4:=Lib.frozen_of_heap Ps.out 4;have HY:=ae (jI (a:=.int .i64 0) (b:=.int .i64 0) (c:=.string ⟨#[]⟩) (d:=.slice none 0 0) (e:=.slice none 0 0) Ps.out);have fR:Hid (Below w.heap.size w (f5 wo w.heap.size (.int .i64 0) (.int .i64 0) (.string ⟨#[]⟩) (.slice none 0 0) (.slice none 0 0))):=ae (HB.out.trans ((kV _ _ _ _ _ _ _).toBelow (λk e=>by omega) hsz));go_wp2_with fail;rw[Exit.noGoto_ret];show bodyPost _ _ _ _ _ (f5 wo w.heap.size (.int .i64 0) (.int .i64 0) (.string ⟨#[]⟩) (.slice none 0 0) (.slice none 0 0));generalize f5 wo w.heap.size (.int .i64 0) (.int .i64 0) (.string ⟨#[]⟩) (.slice none 0 0) (.slice none 0 0)=Y at*;clear y0 y1 y2 y3 y4 z0 z1 z2 z3 z4 q0 q1 q2 q3 q4;obtain⟨y0,y1,y2,y3,y4⟩:=eN HY.out;refine bodyPost_ret (v:=.agg #[.int .i64 0,.int .i64 0,.string ⟨#[]⟩,.slice none 0 0,.slice none 0 0]) (by simp[results,Tryz.results78,go_sem,y0,y1,y2,y3,y4]) rfl ?_;rw[HE.out];exact⟨fR.out,rfl⟩
end
section
open Go.RowKit Go.Maps
theorem Tryz.keyStr:Keyed Tryz.prog 9:=string_keyed Tryz.underlying9
theorem Tryz.zeroRowSet(w:World):(zeroValue 214).run Tryz.prog w=.ok (.int .u32 0) w:=by simp
namespace Cx
def Kh(ms:List Hx.MA)(i:Nat):Nat:=(cD (ms.take i)).length
theorem qz(ms:List Hx.MA)(i:Nat)(hi:i<ms.length):cD (ms.take (i+1))=cD (ms.take i)++ms[i].rows.map λ_=>ms[i].name.s:=by
 grind[List.take_add_one,List.getElem?_eq_getElem,cD]
theorem Ue(ms:List Hx.MA)(i:Nat)(hi:i<ms.length):Kh ms (i+1)=Kh ms i+ms[i].rows.length:=by
 grind[qz,Kh]
theorem o6(ms:List Hx.MA)(i:Nat):cD ms=cD (ms.take i)++cD (ms.drop i):=by
 grind[List.take_append_drop,cD]
theorem Uf(ms:List Hx.MA)(i:Nat):Kh ms i<=(cD ms).length:=by
 grind[o6,List.length_append,Kh]
theorem Ug(ms:List Hx.MA)(i r:Nat)(hi:i<ms.length)(hr:r<ms[i].rows.length):(cD ms)[Kh ms i+r]?=some ms[i].name.s:=by
 rw[o6 ms (i+1),qz ms i hi]
 grind[List.getElem?_append_right,Kh,List.getElem?_append_left,cD]
theorem Uh:∀k,0<=uk k/\uk k<4294967296
 |0=>by decide
 |k+1=>by grind[uk]
end Cx
def D4(D:DataW Unit)(f:ByteArray->Int):Prop:=IsMap D/\∀s:ByteArray,D.atKey (.string s.data.toList) (.lit (.int .u32 0))=.lit (.int .u32 (f s))
theorem IK{a b:ByteArray}(h:a.data.toList=b.data.toList):a=b:=by
 obtain⟨⟨a⟩⟩:=a
 simp_all
theorem D4.put{D:DataW Unit}{ns:List ByteArray}{k:Nat}{n:ByteArray}(h:D4 D (Cx.nI ns k))(hn:ns[k]?=some n)(x:Int)(hx:x=bits .or .u32 (Cx.nI ns k n) (Cx.uk k)):D4 (D.put (.string n.data.toList) (.lit (.int .u32 x))) (Cx.nI ns (k+1)):=by
 refine⟨h.1.put _ _,λs=>?_⟩;simp only [Cx.nI]
 by_cases hs:s=n
 ·subst hs
  rw[atKey_put_same h.1 (by trivial),if_pos hn,hx]
 ·rw[atKey_put_other (by grind[IK]),if_neg (by grind)]
  exact h.2 s
theorem wf_u32(h:0<=x/\x<4294967296):(Lit.int .u32 x).wf=true:=by
 have h1:IntKind.u32.min=0:=by decide
 have h2:IntKind.u32.max=4294967295:=by decide
 grind[Lit.wf]
theorem Lz(w:World)(base tb:Nat)(vt vv vm:Value)(vs:List az)(gs:List MG)(F:Nat->Prop)(hT:PT w base tb vt vs gs F vv vm)(ck:gs.length<=3001)(F3:(Cx.cD (gs.map (·.a))).length<=100000)(nU:∀m∈gs,m.a.name.s.size<=1000):
  Calls Tryz.prog 111 #[.pointer (some ⟨tb,0,none⟩)] w λe w'=>∃D,e=.returned (.map (some w.heap.size))/\w'.ownsMap Tryz.prog 9 (plainElem Tryz.prog 214) w.heap.size 100000 D/\D4 D (Cx.setOf (gs.map (·.a)))/\Below w.heap.size w w':=by
 obtain⟨_,_,x2,_,_,Ev,_⟩:=hT.cells;obtain⟨am,cm,nP,_,_⟩:=aj (hT.mem.own 2 _ rfl);simp only at nP;subst nP;have HT:=ae hT;have zh:=ae nU;clear hT nU;have hmm:=@run_makeMap Tryz.prog;generalize qm:gs.map (·.a)=ms at*;have Pt:=ae qm;have iq:ms.length=gs.length:=by rw[<-qm];simp
 clear qm;go_enter Tryz.func111,Tryz.ntmps111;go_wp2_with fail;clear x2 hmm
 go_loopg [4,13] (gs.length) (λk v4 v13 wr=>∃(i:Nat)(D:DataW Unit),i+k=gs.length/\v13=.int .i64 i/\v4=.int .u32 (Cx.uk (Cx.Kh ms i))/\Below w.heap.size w wr/\wr.ownsMap Tryz.prog 9 (plainElem Tryz.prog 214) w.heap.size (Cx.Kh ms i) D/\D4 D (Cx.nI (Cx.cD ms) (Cx.Kh ms i)))
 case atStart=>exact⟨0,.map [],by omega,rfl,rfl,ag _ _,World.ownsMap_made _ _ _ _,isMap_empty,λs=>rfl⟩
 case round=>
  obtain⟨i,D,hi,rfl,rfl,hb,ho,hD⟩:=hrel;have HB:=ae hb;have HO:=ae ho;have HD:=ae hD;have hsz:=hb.size;have lP:=Cx.Uf ms i;clear ho hD;obtain⟨wo,rfl⟩:∃wo,wo=wr:=⟨wr,rfl⟩
  by_cases hlt:i<gs.length
  ·have mQ:(i:Int)<gs.length:=by omega
   have dl:(0:Int)<=i:=by omega
   have nS:=ae (HT.out.below hb);obtain⟨gm,IB,_,e,Ui,hcc⟩:=nS.out.TU.resolve_left (λh=>by omega)
   cases e
   have c0:=(hcc i hlt).1;obtain⟨aw,cw,Rb,_,_⟩:=aj (nS.out.mem.own _ _ (uz hlt));have c7:=((nS.out.bG hlt).1 7 (by omega)).trans (by have e:gs[i].vr=.slice aw gs[i].a.rows.length cw:=Rb;show some gs[i].vr=_;rw[e]);have c1:wo.cell? ⟨gs[i].bZ,1,none⟩=some (.string gs[i].a.name.s):=((nS.out.bG hlt).1 1 (by omega)).trans rfl;have hmi:i<ms.length:=by omega
   have hme:ms[i]=gs[i].a:=by simp[<-Pt.out]
   have HN:=ae (λr hr=>Cx.Ug ms i r hmi hr);have HC:=ae (Cx.Ue ms i hmi);rw[hme]at HN HC;have hns:=zh.out gs[i] (List.getElem_mem hlt);have ax3:=Cx.Uf ms (i+1);have c1w:w.cell? ⟨gs[i].bZ,1,none⟩=some (.string gs[i].a.name.s):=((HT.out.bG hlt).1 1 (by omega)).trans rfl;have eS:=(HT.out.bG hlt).2.2.2.1;clear hcc Rb hb;generalize gs[i]=m at*;obtain⟨nm,nU⟩:∃nm,nm=m.a.name.s:=⟨_,rfl⟩;rw[<-nU]at c1 c1w hns HN;obtain⟨q,hq⟩:∃q,q=m.a.rows.length:=⟨_,rfl⟩;rw[<-hq]at c7 HN HC;obtain⟨c,hc⟩:∃c,c=Cx.Kh ms i:=⟨_,rfl⟩;rw[<-hc]at HO HD HN HC lP|-;have J5:c+q<=100000:=by have:=HC.out;omega
   clear nU hq;go_wp2_with fail;clear c0 c1 c7
   go_loopg [4,22] q (λk v4 v22 wr=>∃(r:Nat)(D:DataW Unit),r+k=q/\v22=.int .i64 r/\v4=.int .u32 (Cx.uk (c+r))/\Below w.heap.size w wr/\wr.ownsMap Tryz.prog 9 (plainElem Tryz.prog 214) w.heap.size (c+r) D/\D4 D (Cx.nI (Cx.cD ms) (c+r)))
   case atStart=>exact⟨0,D,by omega,rfl,rfl,HB.out,HO.out,HD.out⟩
   case round=>
    obtain⟨r,D',hr,rfl,rfl,mX,hoi,hDi⟩:=hrel;have KC:=ae mX;have HOI:=ae hoi;have HDI:=ae hDi;have Ua:=mX.size;have y1:=(mX.cell eS).trans c1w;clear mX hoi hDi
    by_cases Uj:r<q
    ·have hlr:(r:Int)<q:=by omega
     have ny:(0:Int)<=r:=by omega
     have akx:=Go.WideMaps.keyOf_string_mk Tryz.underlying9 (s:=nm) (by unfold maxLen;omega);have HNR:=ae (HN.out r Uj);have hbv:=Cx.Uh (c+r);have HBV:Hid (Cx.uk (c+r+1)=Cx.uk (c+r)*2%4294967296):=ae rfl;generalize hbe:Cx.uk (c+r)=bv at*;go_wp2_with (first|(at_lookup;refine wpList_lookup_own_int _ rfl _ _ 209 rfl 9 214 .u32 Tryz.keyStr Tryz.underlying209 Tryz.underlying214 (Tryz.zeroRowSet _) w.heap.size (c+r) _ rfl HOI.out _ _ rfl akx ?_;intro cv bu DV)|(at_mapUpdate;refine wpList_mapUpdate_own _ rfl _ _ _ 209 rfl 9 214 Tryz.keyStr Tryz.underlying209 _ w.heap.size (c+r) _ rfl HOI.out (by unfold maxLen;omega) _ _ _ rfl rfl akx _ [] (plainElem_int Tryz.underlying214 (wf_u32 (yd .or cv bv))) ?_;intro w1 IJ ux));have hcv:=by
      have:=(HDI.out.2 nm).symm.trans bu;simpa using this.symm
     have HD9:=ae (HDI.out.put HNR.out (bits .or .u32 cv bv) (by rw[hcv,hbe]));have lq:=ae IJ;have kh:=ae (oZ KC.out ux (Nat.le_refl _))
     go_roundg (q-(r+1))
     case measure=>omega
     case rel=>exact⟨r+1,_,by omega,by go_num,by rw[<-Nat.add_assoc,HBV.out],kh.out,lq.out,HD9.out⟩
    ·obtain rfl:r=q:=by omega
     have hce:=HC.out.symm;rw[hce]at HOI HDI;rw[hce];go_wp2_with fail
     go_roundg (gs.length-(i+1))
     case measure=>omega
     case rel=>exact⟨i+1,D',by omega,by go_num,rfl,KC.out,HOI.out,HDI.out⟩
  ·obtain rfl:i=gs.length:=by omega
   have HE:Hid (Cx.Kh ms gs.length=(Cx.cD ms).length):=ae (by unfold Cx.Kh;grind);go_wp2_with fail;go_ret;refine⟨D,rfl,HO.out.mono (by omega),?_,HB.out⟩;have:=HD.out;rw[HE.out]at this;exact this
