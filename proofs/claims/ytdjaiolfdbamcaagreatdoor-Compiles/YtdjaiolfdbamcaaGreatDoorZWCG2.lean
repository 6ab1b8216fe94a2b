/- The walk of Find. -/
import Derived.Test.YtdjaiolfdbamcaaGreatDoorZWCFK
set_option maxRecDepth 20000
set_option maxHeartbeats 4000000
namespace Go.Proofs.YtdjaiolfdbamcaaGreatDoor
variable {gs:List MG}{vs:List az}
section
open Go.RowKit
def UB(w w':World)(e:Ending)(r:Option (Int×ByteArray×List Int)):Prop:=
 Below w.heap.size w w'/\match r with
 |none=>e=.returned (.agg #[.int .i64 0,.int .i64 0,.string ⟨#[]⟩,.slice none 0 0,.slice none 0 0])
 |some (code,x)=>∃v u,e=.returned (.agg #[.int .i64 code,.int .i64 0,.string x.1,v,u])/\w'.ownsRow w.heap.size 3 1 v (x.2.length/2) ((x.2.take (x.2.length/2)).map (.int .i64))/\w'.ownsRow w.heap.size 3 1 u (x.2.length/2) ((x.2.drop (x.2.length/2)).map (.int .i64))/\∀k,v.ownBlock=some k->u.ownBlock≠some k
theorem PF(w:World)(tb:Nat)(vs:List az)(ms:List Hx.MA)
  (CP:Hid (∀Y,Below w.heap.size w Y->Calls Tryz.prog 76 #[.pointer (some ⟨tb,0,none⟩)] Y λe w'=>∃s,e=.returned s/\PlM w' s (Cx.places ms)/\Below Y.heap.size Y w'))
  (CS:Hid (∀Y,Below w.heap.size w Y->Calls Tryz.prog 77 #[.pointer (some ⟨tb,0,none⟩)] Y λe w'=>∃s,e=.returned s/\ScM w' s (Cx.fk vs ms)/\Below Y.heap.size Y w'))
  (tS:(Cx.places ms).length<=100000) (D3:(Cx.fk vs ms).length<=100000000) (hn:∀p∈Cx.places ms,p.1.size<=1000/\p.2.length<=1000) (hm:∀s∈Cx.fk vs ms,∃h,s.1.length=2*h/\h<=1000):
  Calls Tryz.prog 46 #[.pointer (some ⟨tb,0,none⟩)] w λe w'=>UB w w' e (Cx.find vs ms):=by
 have xh:Hid (Cx.find vs ms=match Cx.dL 6 (Cx.places ms) (Cx.fk vs ms)with|some x=>some (6,x)|none=>(Cx.dL 7 (Cx.places ms) (Cx.fk vs ms)).map λx=>(7,x)):=ae rfl;obtain⟨fr,Xo⟩:∃fr,fr=Cx.find vs ms:=⟨_,rfl⟩;rw[<-Xo]at xh|-;obtain⟨ps,Pq⟩:∃ps,ps=Cx.places ms:=⟨_,rfl⟩;obtain⟨ss,hss⟩:∃ss,ss=Cx.fk vs ms:=⟨_,rfl⟩;rw[<-Pq]at CP xh tS hn;rw[<-hss]at CS xh D3 hm;have HN:=ae hn;have HMM:=ae hm;clear Xo Pq hss hn hm;obtain⟨X,hX⟩:∃X,X=w.alloc (.cells nK 34):=⟨_,rfl⟩;have hb0:Below w.heap.size w X:=by rw[hX];exact ag _ _
 have hx0:X.heap[w.heap.size]?=some (.cells nK 34 (0,0)):=by rw[hX];exact heap_alloc_new _ _
 have hs0:X.heap.size=w.heap.size+1:=by rw[hX];simp
 have Lp:=ae hb0;have Ps:=ae hx0;clear hb0 hx0;go_enter Tryz.func46,Tryz.ntmps46;go_wp2_with fail;rw[<-hX];clear hX;refine(CP.out _ Lp.out).mono ?_;rintro e w1 ⟨sp,rfl,hP,bH⟩;have HP:=ae hP;have b6:=ae (Lp.out.trans (bH.mono (by omega)));have aqy:=ae bH;have gI:=bH.size;clear hP bH;go_wp2_with fail;refine(CS.out _ b6.out).mono ?_;rintro e w2 ⟨sq,rfl,hS,aT⟩;have HS:=ae hS;have fQ:=ae (HP.out.below aT);have aqz:=ae (aqy.out.trans (aT.mono gI));have jT:=aT.size;have HF1:=ae (vu w2 6 ps ss sp sq fQ.out HS.out tS D3 HN.out HMM.out);clear hS aT HP;go_wp2_with fail;refine HF1.out.mono ?_;intro e w3 hr;obtain⟨eC,hr⟩:=hr;have agm:=ae (aqz.out.trans (eC.mono (by omega)));have oS:=eC.size;have hx3:=(agm.out.block w.heap.size (by omega)).trans Ps.out
 cases hf:Cx.dL 6 ps ss with
 |some x=>
  obtain⟨nm,l⟩:=x;rw[hf]at hr xh;obtain⟨v,u,rfl,jQ,j9,nM⟩:=hr;obtain⟨h,hh⟩:∃h,h=l.length/2:=⟨_,rfl⟩;simp only at jQ j9;rw[<-hh]at jQ j9;obtain⟨av,cv,rfl,_,_⟩:=aj jQ;obtain⟨au,cu,rfl,_,_⟩:=aj j9;have HE:Hid (fr=some (6,nm,l)):=ae xh.out;have HH:=ae hh;have Kc:=ae nM;obtain⟨Y,hY⟩:∃Y,Y=w3.alloc (.cells #[.int .i64 6,.int .i64 0,.string nm,.slice av h cv,.slice au h cu] 34):=⟨_,rfl⟩;have Lj:Below w3.heap.size w3 Y:=by rw[hY];exact ag _ _
  have hxY:Y.heap[w3.heap.size]?=some (.cells #[.int .i64 6,.int .i64 0,.string nm,.slice av h cv,.slice au h cu] 34 (0,0)):=by rw[hY];exact heap_alloc_new _ _
  have LP:=(Lj.block w.heap.size (by omega)).trans hx3;have hsY:=Lj.size;have jf:=kV Y w.heap.size (.int .i64 6) (.int .i64 0) (.string nm) (.slice av h cv) (.slice au h cu);have HU:=ae (jI (a:=.int .i64 6) (b:=.int .i64 0) (c:=.string nm) (d:=.slice av h cv) (e:=.slice au h cu) LP);have HBU:=ae ((Lp.out.trans (agm.out.mono (by omega))).trans ((Lj.mono (by omega)).trans (jf.toBelow (λk e=>by omega) (by omega))));have nZ:Hid ((f5 Y w.heap.size (.int .i64 6) (.int .i64 0) (.string nm) (.slice av h cv) (.slice au h cu)).ownsRow w.heap.size 3 1 (.slice av h cv) h ((l.take h).map (.int .i64))):=ae (jf.own (dF (ah jQ Lj) (by omega)) (λk hk e=>by have:=(jQ.lt k hk).1;omega));have lu:Hid ((f5 Y w.heap.size (.int .i64 6) (.int .i64 0) (.string nm) (.slice av h cv) (.slice au h cu)).ownsRow w.heap.size 3 1 (.slice au h cu) h ((l.drop h).map (.int .i64))):=ae (jf.own (dF (ah j9 Lj) (by omega)) (λk hk e=>by have:=(j9.lt k hk).1;omega));obtain⟨y0,y1,y2,y3,y4⟩:=eN hxY;obtain⟨z0,z1,z2,z3,z4⟩:=eN LP;have q0:=Lib.frozen_of_heap LP 0;have q1:=Lib.frozen_of_heap LP 1;have q2:=Lib.frozen_of_heap LP 2;have q3:=Lib.frozen_of_heap LP 3;have q4:=Lib.frozen_of_heap LP 4;clear jQ j9 nM eC hx3 Lj hxY LP jf hh hf xh;go_upto_region 3 with(fail);rw[<-hY];clear hY;go_wp2_with fail;show bodyPost _ _ _ _ _ (f5 Y w.heap.size (.int .i64 6) (.int .i64 0) (.string nm) (.slice av h cv) (.slice au h cu));generalize f5 Y w.heap.size (.int .i64 6) (.int .i64 0) (.string nm) (.slice av h cv) (.slice au h cu)=U at*;clear y0 y1 y2 y3 y4 z0 z1 z2 z3 z4 q0 q1 q2 q3 q4;obtain⟨y0,y1,y2,y3,y4⟩:=eN HU.out;refine bodyPost_ret (v:=.agg #[.int .i64 6,.int .i64 0,.string nm,.slice av h cv,.slice au h cu]) (by simp[results,Tryz.results46,go_sem,y0,y1,y2,y3,y4]) rfl ?_;rw[HE.out];refine⟨HBU.out,_,_,rfl,?_,?_,Kc.out⟩
  ·show U.ownsRow _ _ _ _ (l.length/2) ((l.take (l.length/2)).map _)
   rw[<-HH.out];exact nZ.out
  ·show U.ownsRow _ _ _ _ (l.length/2) ((l.drop (l.length/2)).map _)
   rw[<-HH.out];exact lu.out
 |none=>
  rw[hf]at hr xh;obtain rfl:=hr;obtain⟨Y,hY⟩:∃Y,Y=w3.alloc (.cells #[.int .i64 0,.int .i64 0,.string ⟨#[]⟩,.slice none 0 0,.slice none 0 0] 34):=⟨_,rfl⟩;have Lj:Below w3.heap.size w3 Y:=by rw[hY];exact ag _ _
  have hxY:Y.heap[w3.heap.size]?=some (.cells nK 34 (0,0)):=by rw[hY];exact heap_alloc_new _ _
  have LP:=(Lj.block w.heap.size (by omega)).trans hx3;have hsY:Y.heap.size=w3.heap.size+1:=by rw[hY];simp
  have Fe:=ae (vu Y 7 ps ss sp sq ((fQ.out.below eC).below Lj) ((HS.out.below eC).below Lj) tS D3 HN.out HMM.out);have fR:=ae Lj;have QS:=ae hxY;have aqA:=ae LP;have c0:=dt hxY;clear Lj hxY LP hx3 eC hf HF1;go_upto_region 3 with(fail);rw[<-hY];clear hY;go_wp2_with fail;refine Fe.out.mono ?_;intro e w4 hr;obtain⟨er,hr⟩:=hr;have hs4:=er.size;have b1:=(er.block w3.heap.size (by omega)).trans QS.out;have b0:=(er.block w.heap.size (by omega)).trans aqA.out;have akX:=ae (((Lp.out.trans (agm.out.mono (by omega))).trans (fR.out.mono (by omega))).trans (er.mono (by omega)));clear c0
  cases wD:Cx.dL 7 ps ss with
  |some x=>
   obtain⟨nm,l⟩:=x;rw[wD]at hr xh;obtain⟨v,u,rfl,jQ,j9,nM⟩:=hr;obtain⟨h,hh⟩:∃h,h=l.length/2:=⟨_,rfl⟩;simp only at jQ j9;rw[<-hh]at jQ j9;obtain⟨av,cv,rfl,_,_⟩:=aj jQ;obtain⟨au,cu,rfl,_,_⟩:=aj j9;have HE:Hid (fr=some (7,nm,l)):=ae xh.out;have HH:=ae hh;have Kc:=ae nM;have Q7:=ae (jI (a:=.int .i64 7) (b:=.int .i64 0) (c:=.string nm) (d:=.slice av h cv) (e:=.slice au h cu) b1);have fL:=kV w4 w3.heap.size (.int .i64 7) (.int .i64 0) (.string nm) (.slice av h cv) (.slice au h cu);have HU:=ae (jI (a:=.int .i64 7) (b:=.int .i64 0) (c:=.string nm) (d:=.slice av h cv) (e:=.slice au h cu) ((fL.block w.heap.size (by omega) (by omega)).trans b0));have jf:=kV (f5 w4 w3.heap.size (.int .i64 7) (.int .i64 0) (.string nm) (.slice av h cv) (.slice au h cu)) w.heap.size (.int .i64 7) (.int .i64 0) (.string nm) (.slice av h cv) (.slice au h cu);have HBU:=ae ((akX.out.trans (fL.toBelow (λk e=>by omega) (by omega))).trans (jf.toBelow (λk e=>by omega) (by have:=fL.size;omega)));have nZ:Hid ((f5 (f5 w4 w3.heap.size (.int .i64 7) (.int .i64 0) (.string nm) (.slice av h cv) (.slice au h cu)) w.heap.size (.int .i64 7) (.int .i64 0) (.string nm) (.slice av h cv) (.slice au h cu)).ownsRow w.heap.size 3 1 (.slice av h cv) h ((l.take h).map (.int .i64))):=ae (jf.own (fL.own (dF jQ (by omega)) (λk hk e=>by have:=(jQ.lt k hk).1;omega)) (λk hk e=>by have:=(jQ.lt k hk).1;omega));have lu:Hid ((f5 (f5 w4 w3.heap.size (.int .i64 7) (.int .i64 0) (.string nm) (.slice av h cv) (.slice au h cu)) w.heap.size (.int .i64 7) (.int .i64 0) (.string nm) (.slice av h cv) (.slice au h cu)).ownsRow w.heap.size 3 1 (.slice au h cu) h ((l.drop h).map (.int .i64))):=ae (jf.own (fL.own (dF j9 (by omega)) (λk hk e=>by have:=(j9.lt k hk).1;omega)) (λk hk e=>by have:=(j9.lt k hk).1;omega));obtain⟨y0,y1,y2,y3,y4⟩:=eN b1;have p0:=Lib.frozen_of_heap b1 0;have p1:=Lib.frozen_of_heap b1 1;have p2:=Lib.frozen_of_heap b1 2;have p3:=Lib.frozen_of_heap b1 3;have p4:=Lib.frozen_of_heap b1 4;obtain⟨z0,z1,z2,z3,z4⟩:=eN b0;have q0:=Lib.frozen_of_heap b0 0;have q1:=Lib.frozen_of_heap b0 1;have q2:=Lib.frozen_of_heap b0 2;have q3:=Lib.frozen_of_heap b0 3;have q4:=Lib.frozen_of_heap b0 4;clear jQ j9 nM hh b0 b1 fL jf er wD xh;go_wp2_with fail;show bodyPost _ _ _ _ _ (f5 (f5 w4 w3.heap.size (.int .i64 7) (.int .i64 0) (.string nm) (.slice av h cv) (.slice au h cu)) w.heap.size (.int .i64 7) (.int .i64 0) (.string nm) (.slice av h cv) (.slice au h cu));generalize f5 (f5 w4 w3.heap.size (.int .i64 7) (.int .i64 0) (.string nm) (.slice av h cv) (.slice au h cu)) w.heap.size (.int .i64 7) (.int .i64 0) (.string nm) (.slice av h cv) (.slice au h cu)=U at*;clear y0 y1 y2 y3 y4 z0 z1 z2 z3 z4 q0 q1 q2 q3 q4 p0 p1 p2 p3 p4;obtain⟨y0,y1,y2,y3,y4⟩:=eN HU.out;refine bodyPost_ret (v:=.agg #[.int .i64 7,.int .i64 0,.string nm,.slice av h cv,.slice au h cu]) (by simp[results,Tryz.results46,go_sem,y0,y1,y2,y3,y4]) rfl ?_;rw[HE.out];refine⟨HBU.out,_,_,rfl,?_,?_,Kc.out⟩
   ·show U.ownsRow _ _ _ _ (l.length/2) ((l.take (l.length/2)).map _)
    rw[<-HH.out];exact nZ.out
   ·show U.ownsRow _ _ _ _ (l.length/2) ((l.drop (l.length/2)).map _)
    rw[<-HH.out];exact lu.out
  |none=>
   rw[wD]at hr xh;obtain rfl:=hr;have HE:Hid (fr=none):=ae xh.out;have Q7:=ae (jI (a:=.int .i64 0) (b:=.int .i64 0) (c:=.string ⟨#[]⟩) (d:=.slice none 0 0) (e:=.slice none 0 0) b1);have fL:=kV w4 w3.heap.size (.int .i64 0) (.int .i64 0) (.string ⟨#[]⟩) (.slice none 0 0) (.slice none 0 0);have HU:=ae (jI (a:=.int .i64 0) (b:=.int .i64 0) (c:=.string ⟨#[]⟩) (d:=.slice none 0 0) (e:=.slice none 0 0) ((fL.block w.heap.size (by omega) (by omega)).trans b0));have jf:=kV (f5 w4 w3.heap.size (.int .i64 0) (.int .i64 0) (.string ⟨#[]⟩) (.slice none 0 0) (.slice none 0 0)) w.heap.size (.int .i64 0) (.int .i64 0) (.string ⟨#[]⟩) (.slice none 0 0) (.slice none 0 0);have HBU:=ae ((akX.out.trans (fL.toBelow (λk e=>by omega) (by omega))).trans (jf.toBelow (λk e=>by omega) (by have:=fL.size;omega)));obtain⟨y0,y1,y2,y3,y4⟩:=eN b1;have p0:=Lib.frozen_of_heap b1 0;have p1:=Lib.frozen_of_heap b1 1;have p2:=Lib.frozen_of_heap b1 2;have p3:=Lib.frozen_of_heap b1 3;have p4:=Lib.frozen_of_heap b1 4;obtain⟨z0,z1,z2,z3,z4⟩:=eN b0;have q0:=Lib.frozen_of_heap b0 0;have q1:=Lib.frozen_of_heap b0 1;have q2:=Lib.frozen_of_heap b0 2;have q3:=Lib.frozen_of_heap b0 3;have q4:=Lib.frozen_of_heap b0 4;clear b0 b1 fL jf er wD xh;go_wp2_with fail;show bodyPost _ _ _ _ _ (f5 (f5 w4 w3.heap.size (.int .i64 0) (.int .i64 0) (.string ⟨#[]⟩) (.slice none 0 0) (.slice none 0 0)) w.heap.size (.int .i64 0) (.int .i64 0) (.string ⟨#[]⟩) (.slice none 0 0) (.slice none 0 0));generalize f5 (f5 w4 w3.heap.size (.int .i64 0) (.int .i64 0) (.string ⟨#[]⟩) (.slice none 0 0) (.slice none 0 0)) w.heap.size (.int .i64 0) (.int .i64 0) (.string ⟨#[]⟩) (.slice none 0 0) (.slice none 0 0)=U at*;clear y0 y1 y2 y3 y4 z0 z1 z2 z3 z4 q0 q1 q2 q3 q4 p0 p1 p2 p3 p4;obtain⟨y0,y1,y2,y3,y4⟩:=eN HU.out;refine bodyPost_ret (v:=.agg #[.int .i64 0,.int .i64 0,.string ⟨#[]⟩,.slice none 0 0,.slice none 0 0]) (by simp[results,Tryz.results46,go_sem,y0,y1,y2,y3,y4]) rfl ?_;rw[HE.out];exact⟨HBU.out,rfl⟩
theorem IX(gs:List MG):Cx.bh (gs.map (·.a))=gs.flatMap (·.a.rows):=by unfold Cx.bh;rw[List.flatMap_map]
theorem Ff(ms:List Hx.MA):(Cx.cD ms).length=(Cx.bh ms).length:=by
 unfold Cx.cD Cx.bh
 induction ms with
 |nil=>rfl
 |cons m t ih=>simp
theorem PG(hl:Links gs)(h0:0<gs.length):0<(Cx.leaves (gs.map (·.a))).length:=by
 refine List.length_pos_of_mem (a:=gs.length-1) ?_;unfold Cx.leaves Cx.dR;rw[List.mem_filter];refine⟨by grind,?_⟩;unfold Cx.eW;rw[List.isEmpty_iff];unfold Cx.bp;rw[List.map_eq_nil_iff,List.filter_eq_nil_iff];intro p hp he;obtain⟨m,k⟩:=p;have hk:=List.mem_zipIdx hp;simp at hk;have ho:=jR hl (i:=k) (by omega)
 grind[Cx.aZ,yx]
theorem sU(hF:un vs gs):∀i,(Cx.choice vs (Cx.bS vs (gs.map (·.a))) i).length<=17:=by
 obtain⟨s,hs8,kA⟩:=hF.row;have tQ:=Cx.afj (λm hm r hr=>(kA m hm r hr).1)
 grind[Cx.OS,List.length_map]
theorem NF(hF:un vs gs):(∀c∈Cx.bU vs (gs.map (·.a)),c.length<=17)/\∀c∈Cx.bU vs (gs.map (·.a)),0<c.length:=by
 refine⟨λc hc=>?_,λc hc=>?_⟩
 ·obtain⟨j,_,e⟩:=List.mem_map.1 hc
  grind[sU]
 ·obtain⟨j,_,e⟩:=List.mem_map.1 hc
  rw[<-e];exact Cx.OR _ _ _
theorem zH{cs:List (List Int)}(h:∀c∈cs,c.length<=17)(hl:cs.length<=6)(i:Nat):(Cx.combine (cs.take i)).length<=100000000:=by
 refine Nat.le_trans (Cx.xX h i) ?_;have h1:min i cs.length<=6:=by omega
 exact Nat.le_trans (Nat.pow_le_pow_right (by decide) h1) (by decide)
theorem sV(hF:un vs gs):∀i,(Cx.combine ((Cx.bU vs (gs.map (·.a))).take i)).length<=100000000:=by
 have hv:=hF.vars
 grind[zH,NF,pc]
theorem Fg(hF:un vs gs):(Cx.fk vs (gs.map (·.a))).length<=100000000:=by
 grind[List.length_map,Cx.fk,List.take_length,sV,Cx.bU]
theorem IY(vs:List az)(ms:List Hx.MA):∀s∈Cx.fk vs ms,s.1.length=2*vs.length:=by
 intro s hs;have lP:=Cx.kB (Cx.bU vs ms) (Cx.bU vs ms).length (Nat.le_refl _);rw[List.take_length,pc]at lP;obtain⟨l,hl,e⟩:=List.mem_map.1 hs
 grind
theorem sW(ms:List Hx.MA):(Cx.places ms).length=(Cx.leaves ms).length:=by unfold Cx.places;simp
theorem PH(ms:List Hx.MA):(Cx.places ms).length<=ms.length:=by rw[sW];exact gN ms ms.length
theorem IZ(hL:Links gs)(hm:gs.length<=12)(nU:∀m∈gs,m.a.name.s.size<=1000):∀p∈Cx.places (gs.map (·.a)),p.1.size<=1000/\p.2.length<=1000:=by
 intro p hp;obtain⟨i,hi,e⟩:=List.mem_map.1 hp;have oA:=by have:=D5 (gs.map (·.a)) i hi;rw[List.length_map]at this;exact this
 rw[<-e];have h1:(Cx.nameOf (gs.map (·.a)) i).size<=1000:=by rw[E2 oA];exact nU _ (List.getElem_mem oA)
 have h2:((Cx.path (gs.map (·.a)) i).map λj=>Cx.setOf (gs.map (·.a)) (Cx.nameOf (gs.map (·.a)) j)).length<=1000:=by
  rw[List.length_map];exact Nat.le_trans (sQ hL i oA) (by omega)
 exact⟨h1,h2⟩
theorem PI{m:MG}(hm:m∈gs)(h:(gs.flatMap (·.a.rows)).length<=24):m.a.rows.length<=10000:=by
 obtain⟨a,b,e⟩:=List.append_of_mem hm
 grind
theorem UC(w:World)(base tb:Nat)(vt vv vm:Value)(vs:List az)(gs:List MG)(hT:PT w base tb vt vs gs (λk=>k<w.heap.size) vv vm)(hL:Links gs)(hF:un vs gs)(h0:0<gs.length)(nU:∀m∈gs,m.a.name.s.size<=1000)(bu:Hid (2*(d8 vs (Cx.bh (gs.map (·.a)))).length<=100000)):
  Calls Tryz.prog 46 #[.pointer (some ⟨tb,0,none⟩)] w λe w'=>UB w w' e (Cx.find vs (gs.map (·.a))):=by
 have hv:=hF.vars;have hm:=hF.af;have hv4:vs.length<=400:=by omega
 have hv5:vs.length<=1000:=by omega
 have Q0:gs.length<=1000:=by omega
 have hr:Hid ((Cx.bh (gs.map (·.a))).length<=24):=ae (by rw[IX];exact hF.rows);have hpm:Hid ((Cx.places (gs.map (·.a))).length<=100000):=ae (Nat.le_trans (PH _) (by grind));have hp0:Hid (0<(Cx.places (gs.map (·.a))).length):=ae (by grind[PG,sW]);obtain⟨s,_,kA⟩:=hF.row;refine PF w tb vs (gs.map (·.a)) (ae (λY hY=>?_)) (ae (λY hY=>?_)) hpm.out (Fg hF) (IZ hL hm nU) (λs hs=>⟨vs.length,IY vs _ s hs,hv5⟩)
 ·refine(E5 Y base tb vt vv vm vs gs _ (hT.below hY) hL Q0 (by rw[Ff];exact Nat.le_trans hr.out (by decide)) nU).mono ?_
  rintro e w' ⟨sl,pv,rfl,hP,hb⟩;exact⟨sl,rfl,hP.plm hp0.out,hb⟩
 ·refine(Fc Y base tb vt vv vm vs gs ((hT.below hY).mono (λk hk=>Nat.lt_of_lt_of_le hk hY.size)) hv4 Q0 (λm F4=>⟨PI F4 hF.rows,λr PJ=>(kA m F4 r PJ).1.ok⟩) bu.out (Nat.le_trans hr.out (by decide)) (λi=>Nat.le_trans (sU hF i) (by decide)) (sV hF) (Cx.Hp (NF hF).2)).mono ?_
  simp
theorem PL(w:World)(base tb:Nat)(vt vv vm:Value)(vs:List az)(gs:List MG)(hT:PT w base tb vt vs gs (λk=>k<w.heap.size) vv vm)(hL:Links gs)(h:gA vs gs):
  Calls Tryz.prog 47 #[.pointer (some ⟨tb,0,none⟩)] w λe w'=>e=.returned (.string ⟨(Cx.fF vs (gs.map (·.a))).toArray⟩)/\Below w.heap.size w w':=
 Pp w base tb vt vv vm vs gs hT (SL hL h.rc h.some) (adq h.rc) (h.program hL) h.name (Nat.le_trans (h.body hL) (by decide))
theorem UD(w:World)(base tb:Nat)(vt vv vm:Value)(vs:List az)(gs:List MG)(hT:PT w base tb vt vs gs (λk=>k<w.heap.size) vv vm)(hL:Links gs)(h:gA vs gs):
  Calls Tryz.prog 46 #[.pointer (some ⟨tb,0,none⟩)] w λe w'=>UB w w' e (Cx.find vs (gs.map (·.a))):=
 UC w base tb vt vv vm vs gs hT hL h.rc h.some (λm hm=>Nat.le_trans (h.names m hm) (by decide)) (ae (Nat.le_trans (Nat.mul_le_mul_left 2 h.atoms) (by decide)))
def akY(s:ByteArray)(w:World)(e:Ending)(w':World):Prop:=
 Below w.heap.size w w'/\((∃code line:Nat,e=.returned (.tuple #[.string ⟨#[]⟩,.agg (ay code line)])/\kE s code line/\code≠0)\/
  ∃(ts:List Hx.Tok)(vs:List az)(gs:List MG),gM s ts/\Io ts vs (gs.map (·.a))/\Links gs/\gA vs gs/\match Cx.find vs (gs.map (·.a))with
   |none=>e=.returned (.tuple #[.string ⟨(Cx.fF vs (gs.map (·.a))).toArray⟩,.agg (ay 0 0)])
   |some (code,x)=>∃v u,e=.returned (.tuple #[.string ⟨#[]⟩,.agg #[.int .i64 code,.int .i64 0,.string x.1,v,u]])/\w'.ownsRow w.heap.size 3 1 v (x.2.length/2) ((x.2.take (x.2.length/2)).map (.int .i64))/\w'.ownsRow w.heap.size 3 1 u (x.2.length/2) ((x.2.drop (x.2.length/2)).map (.int .i64))/\∀k,v.ownBlock=some k->u.ownBlock≠some k)
theorem D0{ms:List Hx.MA}{code:Int}{x:ByteArray×List Int}(h:Cx.find vs ms=some (code,x)):code=6\/code=7:=by
 unfold Cx.find at h;split at h
 all_goals simp_all
theorem Ip(s:ByteArray)(w:World)(hs:s.size<=maxLen)(rk:fg w)(ic:∀W,Below w.heap.size w W->Lib.TabIs Tryz.prog W "internal/strconv.uint64pow10" .u64 Lib.pow10Tab):
  Calls Tryz.prog 18 #[.string s] w λe w'=>akY s w e w':=by
 have gf:Below w.heap.size w (w.alloc (.cells (ay 0 0) 34)):=(Below.refl _ _).alloc (Nat.le_refl _) _;have ov:(w.alloc (.cells (ay 0 0) 34)).heap[w.heap.size]?=some (.cells (ay 0 0) 34 (0,0)):=heap_alloc_new w _;have dA:(w.alloc (.cells (ay 0 0) 34)).heap.size=w.heap.size+1:=by simp
 have UE:=rk.below gf (Nat.le_refl _);have Fd:=ae (UF s (w.alloc (.cells (ay 0 0) 34)) hs UE (λW hW=>ic W (gf.trans (hW.mono (by omega)))));have b6:=ae gf;have og:=ae ov;have vR:=ae dA;clear gf ov dA UE ic rk;rw[show(ay 0 0)=#[.int .i64 0,.int .i64 0,.string ⟨#[]⟩,.slice none 0 0,.slice none 0 0]from rfl]at Fd b6 og vR;go_enter Tryz.func18,Tryz.ntmps18;go_wp2_with fail;generalize w.alloc (.cells #[.int .i64 0,.int .i64 0,.string ⟨#[]⟩,.slice none 0 0,.slice none 0 0] 34)=W1 at*;refine Fd.out.mono ?_;rintro e w2 ⟨aT,Iq⟩;have jT:=aT.size;rw[vR.out]at jT;have hz:=vR.out;have mY:=(aT.block w.heap.size (by omega)).trans og.out;have kc:=b6.out.trans (aT.mono (by omega));rcases Iq with⟨code,line,rfl,hf,hc⟩|⟨tb,gt,cap,ts,rfl,htb,hm,hg,nX,hTM⟩
 ·have ym:=heap_alloc_new w2 (.cells (ay code line) 34)
  have rG:=(((Below.refl w2.heap.size w2).alloc (Nat.le_refl _) (.cells (ay code line) 34)).block w.heap.size (by omega)).trans mY;have mc:=kc.alloc (by omega) (.cells (ay code line) 34);have hcb:((code:Int) !=0)=true:=by simp;omega
  have hcc:((code:Int)==0)=false:=by simp;omega
  have HF:=ae hf;have HC:=ae hc;clear aT kc mY hf hc Fd;unfold ay at ym rG mc|-;go_wp2_with fail;generalize w2.alloc (.cells #[.int .i64 code,.int .i64 line,.string ⟨#[]⟩,.slice none 0 0,.slice none 0 0] 34)=X at*;obtain⟨a0,a1,a2,a3,a4,_,_,_,_,_⟩:=f9 ym;obtain⟨y0,y1,y2,y3,y4,z0,z1,z2,z3,z4⟩:=f9 rG;have fM:Hid (Below w.heap.size w X.drew):=ae ⟨mc.os,mc.tape,mc.output,mc.size,mc.block⟩;clear rG ym mc
  go_region
  all_goals
   go_wp2_with fail;refine bodyPost_ret (v:=.tuple #[.string ⟨#[]⟩,.agg #[.int .i64 code,.int .i64 line,.string ⟨#[]⟩,.slice none 0 0,.slice none 0 0]]) (by simp[results,Tryz.results18,go_sem, *]) rfl ?_;exact⟨dh fM.out,.inl ⟨code,line,rfl,HF.out,HC.out⟩⟩
 ·obtain⟨Fh,zI,_,_,_⟩:=Hx.yc s.data.toList (by have:=nX.1;simp;omega) ts nX.2.1
  obtain⟨base,vt,vv,vm,vs,gs,uC,hL,hD,NC,_,_⟩:=hTM;have agn:=aa6 hD.1 NC Fh.oM (λt ht=>(zI t ht).size);obtain⟨X,hXe⟩:∃X,X=w2.alloc (.cells #[.int .i64 0,.int .i64 0,.string ⟨#[]⟩,.slice none 0 0,.slice none 0 0] 34):=⟨_,rfl⟩;have lS:Below w2.heap.size w2 X:=by rw[hXe];exact ag _ _
  have hXs:X.heap.size=w2.heap.size+1:=by rw[hXe];simp
  have hXF:X.heap[w2.heap.size]?=some (.cells nK 34 (0,0)):=by rw[hXe];exact heap_alloc_new _ _
  have rG:=(lS.block w.heap.size (by omega)).trans mY;have hPX:=(uC.below lS).mono (λk hk=>Nat.lt_of_lt_of_le hk lS.size);have xh:=ae (UD X base tb vt vv vm vs gs hPX hL agn);have IF:=ae uC;have HBA:=ae lS;have Ps:=ae rG;have HXF:=ae hXF;have fM:=ae (kc.trans (lS.mono (by omega)));have XA:=ae nX;have HD:=ae hD;have HL:=ae hL;have HA:=ae agn;have c0:=dt hXF;clear Fh zI uC hD NC agn lS rG hPX hXF nX hL hm hg htb aT kc mY Fd;rw[show(ay 0 0)=#[.int .i64 0,.int .i64 0,.string ⟨#[]⟩,.slice none 0 0,.slice none 0 0]from rfl];go_upto_region 2 with(fail);rw[<-hXe];clear hXe;go_wp2_with fail;refine xh.out.mono ?_;intro e w3 hr;obtain⟨eC,hr⟩:=hr;have oS:=eC.size;have b1:=(eC.block w2.heap.size (by omega)).trans HXF.out;have b0:=(eC.block w.heap.size (by omega)).trans Ps.out;clear c0;obtain⟨fr,Xo⟩:∃fr,fr=Cx.find vs (gs.map (·.a)):=⟨_,rfl⟩;rw[<-Xo]at hr;have ZD:=ae Xo;clear Xo
  cases fr with
  |none=>
   obtain rfl:=hr;obtain⟨y0,y1,y2,y3,y4⟩:=eN b1;have p0:=Lib.frozen_of_heap b1 0;have p1:=Lib.frozen_of_heap b1 1;have p2:=Lib.frozen_of_heap b1 2;have p3:=Lib.frozen_of_heap b1 3;have p4:=Lib.frozen_of_heap b1 4;have fL:=kV w3 w2.heap.size (.int .i64 0) (.int .i64 0) (.string ⟨#[]⟩) (.slice none 0 0) (.slice none 0 0);have hU0:=(fL.block w.heap.size (by omega) (by omega)).trans b0;have ago:=(HBA.out.trans (eC.mono (by omega))).trans (fL.toBelow (λk e=>by omega) (by omega));have XB:=(fM.out.trans (eC.mono (by omega))).trans (fL.toBelow (λk e=>by omega) (by omega));have HIM:=ae (PL _ base tb vt vv vm vs gs ((IF.out.below ago).mono (λk hk=>Nat.lt_of_lt_of_le hk ago.size)) HL.out HA.out);obtain⟨img,agp⟩:∃img,img=Cx.fF vs (gs.map (·.a)):=⟨_,rfl⟩;rw[<-agp]at HIM;have aqC:=ae agp;have HU0:=ae hU0;have HBU:=ae XB;clear agp ago XB hU0 fL eC b0 b1;go_wp2_with fail;change Calls _ _ _ (f5 w3 w2.heap.size (.int .i64 0) (.int .i64 0) (.string ⟨#[]⟩) (.slice none 0 0) (.slice none 0 0)) _;generalize f5 w3 w2.heap.size (.int .i64 0) (.int .i64 0) (.string ⟨#[]⟩) (.slice none 0 0) (.slice none 0 0)=U at*;refine HIM.out.mono ?_;rintro e w4 ⟨rfl,er⟩;clear y0 y1 y2 y3 y4 p0 p1 p2 p3 p4;have hu0:=HU0.out;have FX:w.heap.size<U.heap.size:=by
    rcases Nat.lt_or_ge w.heap.size U.heap.size with h|h
    ·exact h
    ·grind
   have hV0:=(er.block w.heap.size FX).trans hu0;obtain⟨y0,y1,y2,y3,y4⟩:=eN hV0;have z0:=Lib.frozen_of_heap hV0 0;have z1:=Lib.frozen_of_heap hV0 1;have z2:=Lib.frozen_of_heap hV0 2;have z3:=Lib.frozen_of_heap hV0 3;have z4:=Lib.frozen_of_heap hV0 4;have nY:=ae (HBU.out.trans (er.mono HBU.out.size));clear er hV0 hu0 HIM;go_wp2_with fail;have jf:=kV w4 w.heap.size (.int .i64 0) (.int .i64 0) (.string ⟨#[]⟩) (.slice none 0 0) (.slice none 0 0);refine bodyPost_ret (v:=.tuple #[.string ⟨img.toArray⟩,.agg #[.int .i64 0,.int .i64 0,.string ⟨#[]⟩,.slice none 0 0,.slice none 0 0]]) (by simp[results,Tryz.results18,go_sem, *]) rfl ?_;refine⟨nY.out.trans (jf.toBelow (λk e=>by omega) nY.out.size),.inr ⟨ts,vs,gs,XA.out,HD.out,HL.out,HA.out,?_⟩⟩;rw[<-ZD.out,<-aqC.out];rfl
  |some cx=>
   obtain⟨code,nm,l⟩:=cx;obtain⟨v,u,rfl,jQ,j9,nM⟩:=hr;obtain⟨av,cv,rfl,_,_⟩:=aj jQ;obtain⟨au,cu,rfl,_,_⟩:=aj j9;have fz:((code)==0)=false:=by
    have:=D0 ZD.out.symm;simp;omega
   have aqE:((code) !=0)=true:=by simp at fz|-;exact fz
   obtain⟨h,hh⟩:∃h,h=l.length/2:=⟨_,rfl⟩;simp only at jQ j9 nM|-;rw[<-hh]at jQ j9 nM|-;have HH:=ae hh;clear hh;obtain⟨y0,y1,y2,y3,y4⟩:=eN b1;have p0:=Lib.frozen_of_heap b1 0;have p1:=Lib.frozen_of_heap b1 1;have p2:=Lib.frozen_of_heap b1 2;have p3:=Lib.frozen_of_heap b1 3;have p4:=Lib.frozen_of_heap b1 4;have fL:=kV w3 w2.heap.size (.int .i64 code) (.int .i64 0) (.string nm) (.slice av h cv) (.slice au h cu);have hU1:=jI (a:=.int .i64 code) (b:=.int .i64 0) (c:=.string nm) (d:=.slice av h cv) (e:=.slice au h cu) b1;have hU0:=(fL.block w.heap.size (by omega) (by omega)).trans b0;have hO1:=fL.own (dF (b':=w.heap.size) jQ (by omega)) (λk hk e=>by have:=(jQ.lt k hk).1;omega);have hO2:=fL.own (dF (b':=w.heap.size) j9 (by omega)) (λk hk e=>by have:=(j9.lt k hk).1;omega);have XB:=(fM.out.trans (eC.mono (by omega))).trans (fL.toBelow (λk e=>by omega) (by omega));have ak1:∀k,(Value.slice av h cv).ownBlock=some k->w.heap.size≠k:=λk hk e=>by have:=(jQ.lt k hk).1;omega
   have ak2:∀k,(Value.slice au h cu).ownBlock=some k->w.heap.size≠k:=λk hk e=>by have:=(j9.lt k hk).1;omega
   have Kc:=ae nM;clear nM jQ j9 eC fL b0 b1;go_wp2_with fail;change Code.wp _ _ _ _ (f5 w3 w2.heap.size (.int .i64 code) (.int .i64 0) (.string nm) (.slice av h cv) (.slice au h cu));generalize f5 w3 w2.heap.size (.int .i64 code) (.int .i64 0) (.string nm) (.slice av h cv) (.slice au h cu)=U at*;clear y0 y1 y2 y3 y4 p0 p1 p2 p3 p4;obtain⟨a0,a1,a2,a3,a4⟩:=eN hU1;obtain⟨y0,y1,y2,y3,y4⟩:=eN hU0;have z0:=Lib.frozen_of_heap hU0 0;have z1:=Lib.frozen_of_heap hU0 1;have z2:=Lib.frozen_of_heap hU0 2;have z3:=Lib.frozen_of_heap hU0 3;have z4:=Lib.frozen_of_heap hU0 4;have jf:=kV U.drew w.heap.size (.int .i64 code) (.int .i64 0) (.string nm) (.slice av h cv) (.slice au h cu);have HBF:=ae (Below.trans (⟨XB.os,XB.tape,XB.output,XB.size,XB.block⟩:Below w.heap.size w U.drew) (jf.toBelow (λk e=>by omega) XB.size));have nZ:=ae (jf.own hO1 (λk hk e=>ak1 k hk e.symm));have lu:=ae (jf.own hO2 (λk hk e=>ak2 k hk e.symm));clear hU1 hU0 hO1 hO2 XB jf ak1 ak2
   go_region
   all_goals
    go_wp2_with fail;refine bodyPost_ret (v:=.tuple #[.string ⟨#[]⟩,.agg #[.int .i64 code,.int .i64 0,.string nm,.slice av h cv,.slice au h cu]]) (by simp[results,Tryz.results18,go_sem, *]) rfl ?_;refine⟨HBF.out,.inr ⟨ts,vs,gs,XA.out,HD.out,HL.out,HA.out,?_⟩⟩;rw[<-ZD.out];refine⟨_,_,rfl,?_,?_,Kc.out⟩
    ·show World.ownsRow _ _ _ _ _ (l.length/2) ((l.take (l.length/2)).map _)
     rw[<-HH.out];exact nZ.out
    ·show World.ownsRow _ _ _ _ _ (l.length/2) ((l.drop (l.length/2)).map _)
     rw[<-HH.out];exact lu.out
