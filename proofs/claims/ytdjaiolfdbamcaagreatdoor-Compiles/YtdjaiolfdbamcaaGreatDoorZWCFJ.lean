/- The walk of readRows. -/
import Derived.Test.YtdjaiolfdbamcaaGreatDoorZWCFG
set_option maxRecDepth 20000
set_option maxHeartbeats 2000000
namespace Go.Proofs.YtdjaiolfdbamcaaGreatDoor
variable {base c d lv m n:Nat}{vs:List az}{W W':World}{s:Value}{vals:List Value}{b df:Bool}{o:Int}{gs:List MG}{ts:List Hx.Tok}
section
open Go.RowKit
structure RG(m:Nat)(vs:List az)(W:World)(base:Nat)(s:Value)(done:List Hx.bD)(vals:List Value):Prop where
 len:vals.length=done.length
 own:W.ownsRow base 272 1 s done.length vals
 gu:∀j (hj:j<vals.length) (hd:j<done.length),∃A,jJ m A W vals[j] (Cx.eval vs done[j].g)/\∀k,s.ownBlock=some k->¬A k
theorem RG.nil(m:Nat)(vs:List az)(W:World)(base:Nat):RG m vs W base (.slice none 0 0) [] []:=⟨rfl,World.ownsRow_nil _ _ _ _,λj hj=>by simp⟩
theorem RG.kr{done:List Hx.bD}(h:RG m vs W base s done vals)(hk:KR c W W'):RG m vs W' base s done vals:=by
 refine⟨h.len,Kp.own hk h.own (λk e hF=>?_),λj hj hd=>?_⟩
 ·obtain⟨_,cur,T,h2,h3⟩:=hF
  exact cO h.own h2 (by grind) e
 ·obtain⟨A,h1,h2⟩:=h.gu j hj hd
  exact⟨A,h1.kr hk,h2⟩
theorem RG.below{done:List Hx.bD}(h:RG m vs W base s done vals)(hb:Below W.heap.size W W'):RG m vs W' base s done vals:=h.kr (c:=0) (KR.aK hb)
theorem RG.snoc{A0:Nat->Prop}{s' x:Value}{done:List Hx.bD}{r:Hx.bD}(h:RG m vs W base s done vals)(hx:jJ m A0 W x (Cx.eval vs r.g))(hA:∀k,s.ownBlock=some k->¬A0 k)(hg:W.grownBy W' s.ownBlock)(ho:W'.ownsRow base 272 1 s' n (vals++[x]))(hn:n=done.length+1)
  (bu:s'.ownBlock=s.ownBlock\/s'.ownBlock=some W.heap.size):RG m vs W' base s' (done++[r]) (vals++[x]):=by
 have hk:Kp (λk=>s.ownBlock=some k) W W':=⟨hg.os,hg.tape,hg.output,hg.size,λk hk hn=>hg.block k hk (λe=>hn e.symm)⟩;have key:∀{A:Nat->Prop}{v:Value}{p:List Int->Bool},jJ m A W v p->(∀k,s.ownBlock=some k->¬A k)->∃A,jJ m A W' v p/\∀k,s'.ownBlock=some k->¬A k:=by
  intro A v p h1 h2;refine⟨_,h1.restrict.keep hk (λk hA e=>h2 k e hA.1),λk e hA=>?_⟩;rcases bu with e1|e1
  ·grind
  ·grind
 refine⟨by simp[h.len],by grind,λj hj hd=>?_⟩
 by_cases hl:j<vals.length
 ·have kq:j<done.length:=by rw[<-h.len];exact hl
  rw[List.getElem_append_left hl,List.getElem_append_left kq];obtain⟨A,h1,h2⟩:=h.gu j hl kq
  grind
 ·have he:j=vals.length:=by simp at hj;omega
  subst he;have e1:(vals++[x])[vals.length]=x:=by simp
  have e2:(done++[r])[vals.length]'hd=r:=by simp[h.len]
  grind
theorem mS.other{F:Nat->Prop}{rb tb gc:Nat}{cs:List (List Int)}{sv:List Value}(h:mS W c rb tb gc cs sv)(hk:Kp F W W')(hF:∀b T x,T≠272->W.heap[b]?=some (.cells x T (0,0))->¬F b):mS W' c rb tb gc cs sv:=by
 refine⟨(hk.block rb (Array.getElem?_eq_some_iff.1 h.box).1 (hF _ _ _ (by decide) h.box)).trans h.box,(hk.block gc (Array.getElem?_eq_some_iff.1 h.row).1 (hF _ _ _ (by decide) h.row)).trans h.row,h.low,h.len,h.mem.kept hk (λk hf=>?_)⟩;obtain⟨j,r,hr,vY⟩:=hf;have he:=o7 r (List.mem_of_getElem? hr);rcases(h.mem.own j r hr).2 with⟨hn,_⟩|⟨g,cap,cur,hv,_,Pu,_⟩
 all_goals grind[Value.ownBlock]
theorem Tryz.infoGuard:(Tryz.prog.info? 272).map (λi=>(i.zero,i.size,i.bytes))=some (some .nilFunc,1,8):=by kernel_rfl
theorem Py(r:Hx.bD):∃(k0:Int)(s0:ByteArray)(n0 l0:Int)(T:TypeId)(x:Value)(b:Bool)(k1:Int)(s1:ByteArray)(n1 l1:Int),eH r.g=.iface T x/\fO r=[.int .i64 k0,.string s0,.int .i64 n0,.int .i64 l0,.iface T x,.bool b,.int .i64 k1,.string s1,.int .i64 n1,.int .i64 l1]:=by
 obtain⟨wh,g,dest,_,_⟩:=r;obtain⟨T,x,hg⟩:=bI g
 cases dest with
 |none=>exact⟨_,_,_,_,T,x,true,_,_,_,_,hg,by simp only [fO,oW,hg];rfl⟩
 |some t=>exact⟨_,_,_,_,T,x,false,_,_,_,_,hg,by simp only [fO,oW,hg];rfl⟩
def d8(vs:List az)(rs:List Hx.bD):List Cx.Q:=rs.flatMap λr=>Cx.atoms vs r.g
theorem sR(vs:List az)(rs:List Hx.bD)(r:Hx.bD):d8 vs (rs++[r])=d8 vs rs++Cx.atoms vs r.g:=by simp[d8]
def iE(ms:List Hx.MA)(i:Nat):List Hx.bD:=Cx.bh (ms.take i)
theorem vA(ms:List Hx.MA)(i:Nat)(hi:i<ms.length):iE ms (i+1)=iE ms i++ms[i].rows:=by
 grind[List.take_add_one,List.getElem?_eq_getElem,iE,Cx.bh]
theorem qG(ms:List Hx.MA)(i:Nat):Cx.bh ms=iE ms i++Cx.bh (ms.drop i):=by
 unfold iE Cx.bh;rw[<-List.flatMap_append,List.take_append_drop]
theorem Uv(vs:List az)(a b:List Hx.bD):(d8 vs a).length<=(d8 vs (a++b)).length:=by simp[d8]
theorem Fa(w:World)(c rb tb gc base:Nat)(vt vv vm:Value)(vs:List az)(gs:List MG)(kz:vs.length<=3001)(ck:gs.length<=1000)(cs:List (List Int))(sv:List Value)(h:mS w c rb tb gc cs sv)(hT:PT w base tb vt vs gs (λk=>k<c) vv vm)(hcw:c<=w.heap.size)(hg:∀m∈gs,m.a.rows.length<=10000/\∀r∈m.a.rows,Ke vs r.g)(hcs:cs.length=2*vs.length)(hf:Cx.fits cs 0)
  (hn:2*(d8 vs (Cx.bh (gs.map (·.a)))).length<=100000) (F3:(Cx.bh (gs.map (·.a))).length<=100000):
  Calls Tryz.prog 113 #[.pointer (some ⟨rb,0,none⟩)] w λe w'=>∃s,e=.returned s/\(∃vals,RG (2*vs.length) vs w' w.heap.size s (Cx.bh (gs.map (·.a))) vals)/\(∃mN,mS w' c rb tb gc (Cx.cj (d8 vs (Cx.bh (gs.map (·.a)))) cs) mN)/\KR c w w':=by
 obtain⟨_,_,x2,_,_,Ev,_⟩:=hT.cells;obtain⟨am,cm,nP,_,_⟩:=aj (hT.mem.own 2 _ rfl);simp only at nP;subst nP;have x0:=dt h.box;have HH:=ae h;have HT:=ae hT;have HG:=ae hg;have HF:=ae hf;have RP:=ae hcs;clear h hT hg hf hcs;obtain⟨i0,dl,eu,dA,eg⟩:=info_parts Tryz.infoGuard;generalize qm:gs.map (·.a)=ms at*;have Pt:=ae qm;have iq:ms.length=gs.length:=by rw[<-qm];simp
 clear qm;go_enter Tryz.func113,Tryz.ntmps113;go_wp2_with fail;clear x0 x2
 go_loopg [3,16] (gs.length) (λk v3 v16 wr=>∃(i:Nat)(vals mN:List Value),i+k=gs.length/\v16=.int .i64 i/\KR c w wr/\mS wr c rb tb gc (Cx.cj (d8 vs (iE ms i)) cs) mN/\RG (2*vs.length) vs wr w.heap.size v3 (iE ms i) vals)
 case atStart=>exact⟨0,[],sv,by omega,rfl,KR.refl _ _,HH.out,RG.nil _ _ _ _⟩
 case round=>
  obtain⟨i,vals,mN,hi,rfl,hk,hR,hG⟩:=hrel;obtain⟨wo,rfl⟩:∃wo,wo=wr:=⟨wr,rfl⟩;have HK:=ae hk;have HR:=ae hR;have HGG:=ae hG;have hso:=Kp.size hk;obtain⟨aG,cG,rfl,_,_⟩:=aj hG.own;clear hR hG
  by_cases hlt:i<gs.length
  ·have mQ:(i:Int)<gs.length:=by omega
   have Ti:(0:Int)<=i:=by omega
   have nS:=ae (HT.out.kr hk);obtain⟨gm,IB,_,e,Ui,hcc⟩:=nS.out.TU.resolve_left (λh=>by omega)
   cases e
   have c0:=(hcc i hlt).1;obtain⟨ar,cr,Lx,Tw⟩:=HT.out.dS hlt;have c7:wo.cell? ⟨gs[i].bZ,7,none⟩=some (.slice ar gs[i].a.rows.length cr):=((nS.out.bG hlt).1 7 (by omega)).trans (by show some gs[i].vr=_;rw[Lx]);obtain⟨hrn,G6⟩:=HG.out gs[i] (List.getElem_mem hlt);have hmi:i<ms.length:=by omega
   have hme:ms[i]=gs[i].a:=by simp[<-Pt.out]
   have Xk:=ae (vA ms i hmi);rw[hme]at Xk
   have T9:Hid (∀W,KR c w W->∀j (hj:j<gs[i].a.rows.length),∃gr,ar=some ⟨gr,0,none⟩/\gr<W.heap.size/\∀k,k<10->W.cell? ⟨gr,j*10+k,none⟩=(fO gs[i].a.rows[j])[k]?):=ae (λW hW j hj=>by
    obtain⟨ar',cr',T8,af0⟩:=(HT.out.kr hW).dS hlt;rw[Lx]at T8
    cases T8
    exact af0 j hj)
   have HRO:=ae G6;have hup:(iE ms i).length+gs[i].a.rows.length<=100000:=by
    have:=qG ms (i+1);rw[Xk.out]at this;have:=congrArg List.length this;simp at this;omega
   have bu:∀r,2*(d8 vs (iE ms i++gs[i].a.rows.take r)).length<=100000:=by
    intro r;have h1:=qG ms (i+1);rw[Xk.out,<-List.take_append_drop r gs[i].a.rows,<-List.append_assoc,List.append_assoc]at h1;have h2:=Uv vs (iE ms i++gs[i].a.rows.take r) (gs[i].a.rows.drop r++Cx.bh (ms.drop (i+1)));rw[<-h1]at h2;omega
   have HAT:=ae bu;clear hk hcc Lx Tw G6 bu hme;generalize gs[i]=mm at*;obtain⟨bk,tX⟩:∃bk,bk=mm.bZ:=⟨_,rfl⟩;rw[<-tX]at c0 c7;generalize mm.a.rows=rows at*;obtain⟨done,hdone⟩:∃done,done=iE ms i:=⟨_,rfl⟩;rw[<-hdone]at HR HGG Xk HAT hup|-;clear hdone tX;go_wp2_with fail;clear c0 c7
   go_loopg [3,25] (rows.length) (λk v3 v25 wi=>∃(r:Nat)(vals mN:List Value),r+k=rows.length/\v25=.int .i64 r/\KR c w wi/\mS wi c rb tb gc (Cx.cj (d8 vs (done++rows.take r)) cs) mN/\RG (2*vs.length) vs wi w.heap.size v3 (done++rows.take r) vals)
   case atStart=>exact⟨0,vals,mN,by omega,rfl,HK.out,by simpa using HR.out,by simpa using HGG.out⟩
   case round=>
    obtain⟨r,vals,mN,hr,rfl,hk,hR,hG⟩:=hrel;have HKi:=ae hk;have HRi:=ae hR;have HGi:=ae hG;have Ua:=Kp.size hk;obtain⟨aI,cI,rfl,_,_⟩:=aj hG.own;clear hR hG
    by_cases Uj:r<rows.length
    ·have hlr:(r:Int)<rows.length:=by omega
     have ny:(0:Int)<=r:=by omega
     obtain⟨gr,rfl,mK,Dq⟩:=T9.out wr hk r Uj;have hgo:=HRO.out rows[r] (List.getElem_mem Uj);have Dk:done++rows.take (r+1)=(done++rows.take r)++[rows[r]]:=by rw[List.take_add_one,List.getElem?_eq_getElem Uj,<-List.append_assoc];rfl
     have qO:=ae Dk;have RJ:=HAT.out (r+1);rw[Dk,sR,List.length_append]at RJ;have HAA:Hid (Cx.cj (d8 vs (done++rows.take (r+1))) cs=Cx.cj (Cx.atoms vs rows[r].g) (Cx.cj (d8 vs (done++rows.take r)) cs)):=ae (by rw[Dk,sR,Cx.o9]);have tO:(done++rows.take r).length=done.length+r:=by simp;omega
     obtain⟨k0,s0,n0,l0,Tg,xg,b0,k1,s1,n1,l1,Lq,hd⟩:=Py rows[r]
     have CK:Hid (∀Y,Below wr.heap.size wr Y->Calls Tryz.prog 163 #[.pointer (some ⟨rb,0,none⟩),.iface Tg xg] Y λe w'=>∃v,e=.returned v/\jJ (2*vs.length) (wr.heap.size<=·) w' v (Cx.eval vs rows[r].g)/\(∃mN,mS w' c rb tb gc (Cx.cj (Cx.atoms vs rows[r].g) (Cx.cj (d8 vs (done++rows.take r)) cs)) mN)/\KR c Y w'):=ae (λY hY=>by
      rw[<-Lq];have wD:=Cx.pN (d8 vs (done++rows.take r)) HF.out
      exact Px c rb tb gc base vt vv _ vs gs kz rows[r].g Y wr.heap.size _ mN _ hY.size (HRi.out.below hY) ((HT.out.kr HKi.out).below hY) (by have:=hY.size;omega) hgo (by rw[Cx.iK];exact RP.out) wD (by omega))
     rw[hd]at Dq;have z0:wr.cell? ⟨gr,r*10,none⟩=some (.int .i64 k0):=Dq 0 (by omega);have z1:wr.cell? ⟨gr,r*10+1,none⟩=some (.string s0):=Dq 1 (by omega);have z2:wr.cell? ⟨gr,r*10+2,none⟩=some (.int .i64 n0):=Dq 2 (by omega);have z3:wr.cell? ⟨gr,r*10+3,none⟩=some (.int .i64 l0):=Dq 3 (by omega);have z4:wr.cell? ⟨gr,r*10+4,none⟩=some (.iface Tg xg):=Dq 4 (by omega);have z5:wr.cell? ⟨gr,r*10+5,none⟩=some (.bool b0):=Dq 5 (by omega);have z6:wr.cell? ⟨gr,r*10+6,none⟩=some (.int .i64 k1):=Dq 6 (by omega);have z7:wr.cell? ⟨gr,r*10+7,none⟩=some (.string s1):=Dq 7 (by omega);have z8:wr.cell? ⟨gr,r*10+8,none⟩=some (.int .i64 n1):=Dq 8 (by omega);have z9:wr.cell? ⟨gr,r*10+9,none⟩=some (.int .i64 l1):=Dq 9 (by omega);clear hk Dq hd Lq Dk hgo RJ;generalize rows[r]=rr at*;obtain⟨es,hes⟩:∃es,es=done++rows.take r:=⟨_,rfl⟩;rw[<-hes]at HRi HGi qO HAA CK tO|-;clear hes;rw[tO];have ayo:done.length+r+1<=100000:=by omega
     go_wp2_with fail;refine(CK.out _ (ag _ _)).mono ?_;rintro e w1 ⟨v1,rfl,gh,⟨tN,ww⟩,pO⟩;obtain⟨f1,b1,d1,rfl⟩:=gh.shape;have aa1:KR c wr w1:=KR.trans (KR.aK (ag _ _)) pO;have jW:Hid (KR c w w1):=ae (KR.trans HKi.out aa1);have agc:=ae (HGi.out.kr aa1);have zk:=ae ww;have uv:=ae gh;have gI:=Kp.size aa1;have RQ:=ae agc.out.own;rw[tO]at RQ agc;have hrb:∀k,(Value.slice aI (done.length+r) cI).ownBlock=some k->k<wr.heap.size:=λk e=>by
      have:=(HGi.out.own.lt k (by rw[tO];exact e)).2;exact this
     clear gh ww pO aa1 z0 z1 z2 z3 z4 z5 z6 z7 z8 z9;go_wp2_with (at_builtin;refine wpList_append_own_at _ rfl _ _ 217 rfl w.heap.size 272 i0 _ 1 8 Tryz.underlying217 dl eu dA eg rfl (by decide) _ (done.length+r) _ rfl (ah RQ.out (ag _ _)) ⟨w1.heap.size,0,none⟩ 1 1 [.func f1 b1 d1] rfl rfl (aF _ _ rfl [_] _) (eI rfl) ?e3 ?e4 ?e5 ?_)
     case e3=>unfold maxLen;omega
     case e4=>omega
     case e5=>first|omega|(simp;omega)
     intro v9 w9 aJ ax _ bu
     have ZW:Hid (RG (2*vs.length) vs w9 w.heap.size v9 (done++rows.take (r+1)) (vals++[.func f1 b1 d1])):=ae (by
      rw[qO.out]
      exact(agc.out.below (ag _ _)).snoc (uv.out.bel (ag _ _)) (λk e hA=>by have:=hrb k e;omega) ax aJ (by rw[tO]) (by simpa using bu))
     have hkw:Kp (λk=>(Value.slice aI (done.length+r) cI).ownBlock=some k) (w1.alloc (.cells #[.func f1 b1 d1] 272)) w9:=⟨ax.os,ax.tape,ax.output,ax.size,λk hk hn=>ax.block k hk (λe=>hn e.symm)⟩
     have HK9:Hid (KR c w w9):=ae (by
      have h1:KR c w (w1.alloc (.cells #[.func f1 b1 d1] 272)):=KR.trans jW.out (KR.aK (ag _ _))
      exact Kp.trans h1 hkw (λk e=>.inr (RQ.out.lt k e).1))
     have HR9:Hid (mS w9 c rb tb gc (Cx.cj (d8 vs (done++rows.take (r+1))) cs) tN):=ae (by
      rw[HAA.out];have h2:=zk.out.below (ag w1 (.cells #[.func f1 b1 d1] 272));have how:=ah RQ.out (ag w1 (.cells #[.func f1 b1 d1] 272))
      exact h2.other hkw (λb T x hT hb e=>cO how hb hT e))
     clear aJ ax bu hkw;go_wp2_with fail
     go_roundg (rows.length-(r+1))
     case measure=>omega
     case rel=>exact⟨r+1,_,tN,by omega,by go_num,HK9.out,HR9.out,ZW.out⟩
    ·obtain rfl:r=rows.length:=by omega
     have he:done++rows.take rows.length=iE ms (i+1):=by rw[List.take_length,Xk.out]
     rw[he]at HRi HGi;rw[he];clear hk;go_wp2_with fail
     go_roundg (gs.length-(i+1))
     case measure=>omega
     case rel=>exact⟨i+1,vals,mN,by omega,by go_num,HKi.out,HRi.out,HGi.out⟩
  ·obtain rfl:i=gs.length:=by omega
   have he:iE ms gs.length=Cx.bh ms:=by rw[<-iq];unfold iE;rw[List.take_length]
   rw[he]at HR HGG;rw[he];clear hk;go_wp2_with fail;go_ret;exact⟨_,rfl,⟨vals,HGG.out⟩,⟨mN,HR.out⟩,HK.out⟩
end
section
namespace Cx
open Hx
theorem IQ(q:Q):q.code.length<=5:=by
 unfold Q.code r9;simp only [List.length_append,List.length_cons,List.length_nil];have:(two q.num).length=2:=rfl
 grind
theorem aa2{l l':List Tok}{g:G}(h:jG lv l g l')(vs:List az):l'.length<l.length/\2*(aY vs g).length<=3*(l.length-l'.length)+1/\(atoms vs g).length<=l.length-l'.length:=by
 induction h with
 |gZ h=>grind[aY,atoms,List.length_cons,List.length_nil]
 |not h d ih=>grind[aY,atoms,List.length_cons,List.length_append,List.length_nil]
 |group h d hp ih=>grind[aY,atoms,List.length_cons]
 |uV ok=>
  grind[aY,atoms,List.length_cons,List.length_nil,IQ,nQ]
 |uW ok=>
  grind[aY,atoms,List.length_cons,List.length_nil,IQ,nQ]
 |c0 d ih=>exact ih
 |c1 d ha e Kf wK=>grind[aY,atoms,List.length_cons,List.length_append,List.length_nil]
 |c2 d ha ih=>exact ih
 |g0 d ih=>exact ih
 |g1 d ha e Kf wK=>grind[aY,atoms,List.length_cons,List.length_append,List.length_nil]
 |g2 d ha ih=>exact ih
theorem aa3(ms:List MA)(r:bD):(iY ms r).length=match r.dest with|none=>1|some _=>2:=by
 grind[iY]
theorem Uw{l l':List Tok}{r:bD}(h:EU l r l')(vs:List az)(ms:List MA):l'.length<l.length/\2*(bO vs ms r).length<=3*(l.length-l'.length)/\(atoms vs r.g).length<=l.length-l'.length:=by
 obtain⟨l1,l2,rfl,_,hd,Ij,_⟩:=h;have h1:=aa2 hd vs;have h2:(bO vs ms r).length=(aY vs r.g).length+3+(iY ms r).length:=by
  unfold bO;have:(two (iY ms r).length).length=2:=rfl;simp only [List.length_append,List.length_cons,List.length_nil,this]
 have h3:=aa3 ms r;rcases Ij with⟨t,sc,rfl,_,_,hn⟩|⟨t,a,sc,rfl,_,_,_,hn⟩
 all_goals grind
theorem Pz{l l':List Tok}{rs:List bD}(h:oP l rs l')(vs:List az)(ms:List MA):l'.length<=l.length/\2*(rs.flatMap (bO vs ms)).length<=3*(l.length-l'.length)/\(rs.flatMap λr=>atoms vs r.g).length<=l.length-l'.length:=by
 induction h with
 |nil=>simp
 |snoc h k ih=>
  have h1:=Uw k vs ms
  grind
theorem agd{l l':List Tok}{ext:List MA}(h:MD b l o df d n ext l')(vs:List az)(ms:List MA):l'.length<=l.length/\2*((bh ext).flatMap (bO vs ms)).length<=3*(l.length-l'.length)/\((bh ext).flatMap λr=>atoms vs r.g).length<=l.length-l'.length/\(b=false->0<ext.length):=by
 induction h with
 |none=>simp[bh]
 |dear h ht k Kf wK=>
  grind[bh,List.length_append,List.length_cons]
 |more h ht hm k Kf wK=>
  grind[bh,List.length_append,List.length_cons]
 |mode ht hn hl hr h2 h hb ih=>
  have h1:=Pz hr vs ms
  grind[bh,List.length_append,List.length_cons]
end Cx
theorem ro(vs:List az)(ms:List Hx.MA)(a b:List Nat):eY vs ms (a++b)=eY vs ms a++eY vs ms b:=by unfold eY;simp
theorem sS(vs:List az)(ms:List Hx.MA){a b:Nat}(h:a<=b):(eY vs ms (List.range a)).length<=(eY vs ms (List.range b)).length:=by
 induction b with
 |zero=>grind
 |succ b ih=>
  by_cases e:a=b+1
  ·grind
  grind[Nat.le_trans,List.range_succ,ro,List.length_append]
theorem IR(vs:List az)(hl:Links gs):∀i,i<gs.length->(eY vs (gs.map (·.a)) (Cx.path (gs.map (·.a)) i)).length<=(eY vs (gs.map (·.a)) (List.range (i+1))).length:=by
 intro i
 induction i using Nat.strongRecOn with
 |_ i ih=>
  intro hi;have ho:=jR hl hi;rw[mL hl hi,List.range_succ,ro,List.length_append]
  by_cases h0:Cx.aZ (gs.map (·.a)) i<0
  ·grind
  ·rw[if_neg h0,ro,List.length_append]
   have h1:=ih (Cx.aZ (gs.map (·.a)) i).toNat (by omega) (by omega);have h2:=sS vs (gs.map (·.a)) (show(Cx.aZ (gs.map (·.a)) i).toNat+1<=i by omega);omega
theorem LH(vs:List az)(ms0 ms:List Hx.MA):∀n,n<=ms.length->(List.range n).flatMap (λj=>(Cx.rowsOf ms j).flatMap (Cx.bO vs ms0))=(Cx.bh (ms.take n)).flatMap (Cx.bO vs ms0):=by
 intro n
 induction n with
 |zero=>grind[Cx.bh]
 |succ n ih=>
  intro hn;have hl:n<ms.length:=by omega
  have h1:=vA ms n hl
  grind[Cx.rowsOf,List.range_succ,iE]
theorem rg(vs:List az)(hl:Links gs){i:Nat}(hi:i<gs.length):(Cx.program vs (gs.map (·.a)) i).length<=((Cx.bh (gs.map (·.a))).flatMap (Cx.bO vs (gs.map (·.a)))).length+1:=by
 have h1:=IR vs hl i hi;have h2:=sS vs (gs.map (·.a)) (show i+1<=gs.length by omega);have h3:eY vs (gs.map (·.a)) (List.range gs.length)=(Cx.bh (gs.map (·.a))).flatMap (Cx.bO vs (gs.map (·.a))):=by
  have:=LH vs (gs.map (·.a)) (gs.map (·.a)) gs.length (by simp);rw[List.take_of_length_le (by simp)]at this;exact this
 have h4:Cx.program vs (gs.map (·.a)) i=eY vs (gs.map (·.a)) (Cx.path (gs.map (·.a)) i)++[0]:=rfl
 grind
theorem IU{α β:Type}{f:α->List β}{l:List α}(h:∀a∈l,(f a).length<=n):(l.flatMap f).length<=l.length*n:=by
 induction l<;>grind[List.length_cons,Nat.succ_mul]
theorem aa4{T:Nat}(hl:Links gs)(hv:vs.length<=3)(hm:gs.length<=12)(nU:∀m∈gs,m.a.name.s.size<=8)(hT:((Cx.bh (gs.map (·.a))).flatMap (Cx.bO vs (gs.map (·.a)))).length<=T):(Cx.lW vs (gs.map (·.a))).length<=12*(T+12)+20:=by
 unfold Cx.lW Cx.ng;have h1:((Cx.leaves (gs.map (·.a))).map (Cx.i5 vs (gs.map (·.a)))).length<=12:=by
  rw[List.length_map];have:=gN (gs.map (·.a)) (gs.map (·.a)).length;rw[List.length_map]at this;unfold Cx.leaves;rw[List.length_map];exact Nat.le_trans this hm
 have h2:(((Cx.leaves (gs.map (·.a))).map (Cx.i5 vs (gs.map (·.a)))).flatMap Cx.eX).length<=((Cx.leaves (gs.map (·.a))).map (Cx.i5 vs (gs.map (·.a)))).length*(T+12):=by
  refine IU (λp hp=>?_);obtain⟨i,hi,e⟩:=List.mem_map.1 hp;have oA:=by
   have:=(List.mem_filter.1 hi).1;simpa using this
  have hp:=rg vs hl oA;have hn:(Cx.nameOf (gs.map (·.a)) i).size<=8:=by
   have:Cx.nameOf (gs.map (·.a)) i=gs[i].a.name.s:=by simp[Cx.nameOf,oA]
   rw[this];exact nU _ (List.getElem_mem oA)
  rw[<-e];have ht:∀n:Int,(Cx.two n).length=2:=λ_=>rfl
  have hs:(Cx.nameOf (gs.map (·.a)) i).data.toList.length=(Cx.nameOf (gs.map (·.a)) i).size:=Array.length_toList;have pP:(Cx.eX (Cx.i5 vs (gs.map (·.a)) i)).length=(Cx.nameOf (gs.map (·.a)) i).size+(Cx.program vs (gs.map (·.a)) i).length+3:=by
   unfold Cx.eX Cx.i5;simp only [List.length_append,List.length_cons,ht,hs];omega
  rw[pP];exact Nat.le_trans (Nat.add_le_add_right (Nat.add_le_add hn (Nat.le_trans hp (Nat.add_le_add_right hT 1))) 3) (by omega)
 have h3:((Cx.eb vs).flatMap Cx.ez).length<=(Cx.eb vs).length*4:=IU (λp _=>Nat.le_refl 4);have h4:(Cx.eb vs).length=vs.length:=by unfold Cx.eb;rw[List.length_map]
 have h5:(Cx.eh (Cx.eb vs)).length=6:=rfl;have h6:=Nat.mul_le_mul_right (T+12) h1
 grind
namespace Hx
theorem ie{α:Type}{a:α}{l m:List α}(h:a::l<:+m):l<:+m:=(List.suffix_cons a l).trans h
theorem aa5{l l':List Tok}{g:G}(h:jG lv l g l'):l'<:+l:=by
 induction h<;>grind[List.suffix_cons,not,ie,trans]
theorem Ux{l l':List Tok}{r:bD}(h:EU l r l'):l'<:+l:=by
 obtain⟨l1,l2,rfl,_,hd,Ij,_⟩:=h;have h1:=(aa5 hd).trans (List.suffix_cons r.wh l1);rcases Ij with⟨t,sc,rfl,_,_,_⟩|⟨t,a,sc,rfl,_,_,_,_⟩
 all_goals grind[ie]
theorem PA{l l':List Tok}{rs:List bD}(h:oP l rs l'):l'<:+l:=by
 induction h with
 |nil=>simp
 |snoc h k ih=>exact(Ux k).trans ih
theorem age{l l':List Tok}{ext:List MA}(h:MD b l o df d n ext l'):l'<:+l/\∀m∈ext,m.name∈l:=by
 induction h with
 |none=>simp
 |dear h ht k Kf wK=>
  refine⟨wK.1.trans (ie Kf.1),λm hm=>?_⟩
  grind
 |more h ht F4 k Kf wK=>
  grind
 |mode ht hn hl hr h2 h hb ih=>
  rename_i t nm lb rb t2 l1 l2 l' o df d n rs ext;have hs:(t2::l2)<:+(t::nm::lb::l1):=(PA hr).trans ((List.suffix_cons _ _).trans ((List.suffix_cons _ _).trans (List.suffix_cons _ _)));refine⟨(ie ih.1).trans hs,λm hm=>?_⟩
  grind
end Hx
theorem D7{l l':List Hx.Tok}(h:yj l vs l'):l'<:+l:=by
 induction h with
 |nil=>simp
 |snoc h ht ih=>exact Hx.ie (Hx.ie (Hx.ie (Hx.ie (Hx.ie (Hx.ie ih)))))
theorem LI{ms:List Hx.MA}(h:xO ts vs ms):∀m∈ms,m.name∈ts:=by
 obtain⟨t,m,e,r,hv,_,hm,_⟩:=h;exact λx hx=>(D7 hv).subset ((Hx.age hm).2 x hx)
end
section
open Hx
def nest:G->Nat
 | .or l r=>max (nest l) (nest r)
 | .and l r=>max (nest l) (nest r)
 | .not g=>nest g
 | .group _ g=>nest g+1
 | .gZ=>0
 | .atom _ _ _ _ _=>0
theorem Uy(vs:List az)(g:G):∀(d:Nat)(s:CS),(m6 vs g d s).cl.1=0->nest g=0\/nest g+d<=6:=by
 induction g with
 |or l r qi qj=>
  intro d s h;have h2:=qj d _ h;have h1:=qi d s ((wL vs r d (m6 vs l d s)).1.clean h)
  grind[nest]
 |and l r qi qj=>
  intro d s h;have h2:=qj d _ h;have h1:=qi d s ((wL vs r d (m6 vs l d s)).1.clean h)
  grind[nest]
 |not g ih=>intro d s h;exact ih d s h
 |group t g ih=>
  intro d s h;have h1:=ih (d+1) _ h;have h2:=(cU (by decide) ((wL vs g (d+1) (s.ref (decide (6<=d)) 1 t.line)).1.clean h)).2
  grind[nest]
 |gZ=>intro d s _;exact .inl rfl
 |atom w n o i ok=>intro d s _;exact .inl rfl
theorem IV(vs:List az)(rs:List bD):∀s,(rs.foldl (eJ vs) s).cl.1=0->∀r∈rs,nest r.g<=6:=by
 induction rs with
 |nil=>simp
 |cons q t ih=>
  intro s h r hr;rcases List.mem_cons.1 hr with rfl|hr
  ·have h1:=(xV vs t (eJ vs s r)).1.clean h
   have:=Uy vs r.g 0 _ h1;omega
  grind
theorem Fb(vs:List az)(gs:List MG)(l:List MG):∀(i:Nat)(s:CS),(cK vs gs i l s).cl.1=0->∀m∈l,∀r∈m.a.rows,nest r.g<=6:=by
 induction l with
 |nil=>simp
 |cons q t ih=>
  intro i s h m hm;rcases List.mem_cons.1 hm with rfl|hm
  ·exact IV vs _ _ ((oQ vs gs t (i+1) (dK vs gs i m s)).1.clean h)
  ·exact ih _ _ h m hm
theorem LJ(h:(jl vs gs).cl.1=0):∀m∈gs,∀r∈m.a.rows,nest r.g<=6:=by
 unfold jl at h;obtain⟨t1,_,_⟩:=lX gs gs (cK vs gs 0 gs (de vs 0 vs ⟨0,[],(0,0)⟩));obtain⟨r1,_,_⟩:=ri gs gs 0 (dT gs gs (cK vs gs 0 gs (de vs 0 vs ⟨0,[],(0,0)⟩)));exact Fb vs gs gs 0 _ (t1.clean (r1.clean h))
end
section
structure gA(vs:List az)(gs:List MG):Prop where
 rc:un vs gs
 some:0<gs.length
 names:∀m∈gs,m.a.name.s.size<=8
 atoms:(d8 vs (Cx.bh (gs.map (·.a)))).length<=3001
 code:2*((Cx.bh (gs.map (·.a))).flatMap (Cx.bO vs (gs.map (·.a)))).length<=9003
 deep:∀m∈gs,∀r∈m.a.rows,nest r.g<=6
theorem aa6(hD:xO ts vs (gs.map (·.a)))(hc:(jl vs gs).cl.1=0)(hn:ts.length<=3001)(hsz:∀t∈ts,t.s.size<=8):gA vs gs:=by
 have hN:=LI hD;obtain⟨t,m,e,r,hv,_,hm,_⟩:=hD;obtain⟨_,h2,h3,h4⟩:=Cx.agd hm vs (gs.map (·.a));have h5:=(D7 hv).length_le;refine⟨Z6 hc,?_,λq hq=>hsz _ (hN q.a (List.mem_map.2 ⟨q,hq,rfl⟩)),?_,?_,LJ hc⟩
 ·grind
 ·exact Nat.le_trans h3 (Nat.le_trans (Nat.sub_le _ _) (Nat.le_trans h5 hn))
 omega
theorem gA.total(h:gA vs gs):((Cx.bh (gs.map (·.a))).flatMap (Cx.bO vs (gs.map (·.a)))).length<=4501:=by
 have:=h.code;omega
theorem gA.program(h:gA vs gs)(hl:Links gs):∀i,i<gs.length->(Cx.program vs (gs.map (·.a)) i).length<=80000:=λi hi=>
 Nat.le_trans (rg vs hl hi) (Nat.le_trans (Nat.add_le_add_right h.total 1) (by decide))
theorem gA.body(h:gA vs gs)(hl:Links gs):(Cx.lW vs (gs.map (·.a))).length<=54176:=aa4 hl h.rc.vars h.rc.af h.names h.total
theorem gA.name(h:gA vs gs):∀i,i<gs.length->(Cx.nameOf (gs.map (·.a)) i).size<=100:=λi hi=>by
 have e:Cx.nameOf (gs.map (·.a)) i=gs[i].a.name.s:=by simp[Cx.nameOf,hi]
 rw[e];exact Nat.le_trans (h.names _ (List.getElem_mem hi)) (by decide)
