/- Walks of the parser's takeModes. -/
import Derived.Test.YtdjaiolfdbamcaaGreatDoorZWPar10
set_option maxRecDepth 20000
set_option maxHeartbeats 2000000
namespace Go.Proofs.YtdjaiolfdbamcaaGreatDoor
variable {w w':World}{sv:Value}{m:Nat}
section
open Go.RowKit
section
variable {ts:List Hx.Tok} {j:Nat}
theorem LU(hj:j<ts.length)(hm:aq ts[j] Hx.aO=true)(hg:Hx.Good ts[j]):Hx.aA Hx.bJ ts[j]=some [Hx.aO,Hx.e9,Hx.bJ]:=by
 rw[Hx.bY hg _ (by decide)]at hm;show some (if Hx.eQ ts[j] Hx.aO then _ else _)=_
 grind
theorem LV(hj:j<ts.length)(h1:aq ts[j] Hx.aO=false)(hm:aq ts[j] Hx.cS=true)(hg:Hx.Good ts[j]):Hx.aA Hx.bJ ts[j]=some [Hx.e9,Hx.bJ]:=by
 rw[Hx.bY hg _ (by decide)]at h1 hm;show some (if Hx.eQ ts[j] Hx.aO then _ else if Hx.eQ ts[j] Hx.cS then _ else _)=_
 grind
theorem LW(hj:j<ts.length)(h1:aq ts[j] Hx.aO=false)(hm:aq ts[j] Hx.cS=false)(hg:Hx.Good ts[j]):Hx.aA Hx.bJ ts[j]=some [Hx.M3]:=by
 rw[Hx.bY hg _ (by decide)]at h1 hm;show some (if Hx.eQ ts[j] Hx.aO then _ else if Hx.eQ ts[j] Hx.cS then _ else _)=_
 grind
end
structure sX(w:World)(b gt cap tb:Nat)(ts:List Hx.Tok)(j base:Nat)(vt vv:Value)(vs:List az)(gs:List MG)(F:Nat->Prop)(i:Nat)(hi:i<gs.length)(k jj:Nat)(g1:List MG)(ext:List Hx.MA)(vm1:Value)(wr:World):Prop where
 par:fJ wr b gt cap tb ts jj
 jU:PT wr base tb vt vs g1 (fresh F w) vv vm1
 kept:Kp (λk=>k=b\/F k) w wr
 grow:Grow gs g1 ext
 le:j<=jj
 oM:g1.length<=jj
 left:ts.length-jj<k
 ok:∀l',Hx.Ok [Hx.bJ] (ts.drop jj) l'->Hx.Ok [Hx.bJ] (ts.drop j) l'
 Ki:∀ln,Hx.eo [Hx.bJ] (ts.drop jj) ln->Hx.eo [Hx.bJ] (ts.drop j) ln
 ss:∀s:Hx.St,s.af.length=gs.length->Hx.SS (ts.drop j) i (gs[i].a.depth+1:Nat) false s (ts.drop jj) i (gs[i].a.depth+1:Nat) false (s.cT ext)
 vj:Hx.MD true (ts.drop j) i false (gs[i].a.depth+1) gs.length ext (ts.drop jj)
theorem UH(n:Nat)(IH:NG n):UI n:=by
 intro w b gt cap tb ts j base vt vv vm vs gs F i hi h hT hL PQ pQ hgj hn;have HIH:=ae IH;have eS:=h.own;have ck:=h.lies;have wA:=h.ok.oM;have aN:∀i (hi:i<ts.length),Hid (Hx.Good ts[i]):=λi hi=>ae (h.ok.good _ (List.getElem_mem hi))
 have yh:¬fresh F w b:=λh=>h.elim PQ (λh=>by omega)
 have tU:¬fresh F w gt:=λh=>h.elim pQ (λh=>by omega)
 have H0:Hid (∃jj g1 ext vm1,sX w b gt cap tb ts j base vt vv vs gs F i hi 3002 jj g1 ext vm1 w):=ae
  ⟨j,gs,[],vm,h,hT.mono (λ_ h=>.inl h),Kp.refl _ _,⟨by simp,λ_ m hm=>⟨m,hm,rfl⟩,hL⟩,Nat.le_refl _,hgj,by omega,λ_ k=>k,λ_ k=>k,λs _=>Hx.SS.refl _ _ _ _ _,.none _ _ _ _⟩
 obtain⟨mb,qP⟩:∃mb,mb=gs[i].bZ:=⟨_,rfl⟩;rw[<-qP];have HMB:=ae qP;clear IH hT hL qP;go_enter Tryz.func199,Tryz.ntmps199;go_wp2_with fail
 go_loopg [] 3002 (λk wr=>∃jj g1 ext vm1,sX w b gt cap tb ts j base vt vv vs gs F i hi k jj g1 ext vm1 wr)
 case atStart=>exact H0.out
 case round=>
  obtain⟨jj,g1,ext,vm1,hI⟩:=hrel;clear H0;have HI:=ae hI;clear hI;have hwr:=HI.out.kept.size;have iP:=HI.out.par.lt;have hle:=HI.out.le;have pP:=HI.out.left;have hfg:=HI.out.oM;go_wp2_with fail;refine(gG wr b gt cap tb ts jj HI.out.par).mono ?_;rintro e w1 ⟨rfl,bH⟩;have b6:=ae bH;clear bH;go_wp2_with fail;refine(xZ (ts[jj]'HI.out.par.lt) _ w1).mono ?_;rintro e w2 ⟨rfl,aT⟩;have dH:=ae (b6.out.trans (aT.mono b6.out.size));clear aT b6;rw[show(⟨#[100,101,102,97,117,108,116]⟩:ByteArray).toList=Hx.aO by simp];have ad2:=HI.out.grow.len;have S8:i<g1.length:=by omega
  have ad3:lL g1 (some i)=some mb:=by
   obtain⟨m',F4,zj⟩:=HI.out.grow.bZ i gs[i] (List.getElem?_eq_getElem hi);simp[lL,F4,zj,HMB.out]
  have ad4:jS g1 (some i)=gs[i].a.depth+1:=by
   have h1:(g1.map (·.a))[i]?=some gs[i].a:=by rw[HI.out.grow.a,List.getElem?_append_left (by grind)];simp[hi]
   rw[List.getElem?_map,Option.map_eq_some_iff]at h1;obtain⟨m,hm,ha⟩:=h1;simp[jS,hm,ha]
  have HB:=ae ad3;have HDP:=ae ad4;have HLN:=ae ad2;clear ad3 ad4 ad2
  /-what a call of ak4 leaves,from a place q on where the default stands or does not-/
  have STEP:∀(W:World)(q:Nat)(df:Bool),fJ W b gt cap tb ts q->PT W base tb vt vs g1 (fresh F w) vv vm1->Kp (λk=>k=b\/F k) w W->q=(if df then jj+1 else jj)->
    Hid (Calls Tryz.prog 155 #[.pointer (some ⟨b,0,none⟩),.pointer (some ⟨mb,0,none⟩),.bool df] W λe w'=>∃ok j' gs' D9,e=.returned (.bool ok)/\ad5 W b gt cap tb ts q base vt vv vs g1 (fresh F w) (some i) df ok j' gs' D9 w'/\PT w' base tb vt vs gs' (fresh F w) vv D9/\Kp (λk=>k=b\/F k) w w'):=λW q df hP uC hK hq=>ae (by
   have:=HIH.out W b gt cap tb ts q base vt vv vm1 vs g1 (fresh F w) (some i) df hP uC HI.out.grow.kt yh tU (λa e=>by grind) (by grind) (by grind);rw[HB.out]at this;refine Calls.mono this ?_;rintro e w' ⟨ok,j',gs',D9,rfl,hR⟩
   exact⟨ok,j',gs',D9,rfl,hR,hR.jU.mono (λk h=>h.elim id (λh=>.inr (Nat.le_trans hK.size h))),hK.trans hR.kept (λk e=>e.elim (λe=>.inl (.inl e)) (λe=>e.elim (λe=>.inl (.inr e)) .inr))⟩)
  cases hd:aq (ts[jj]'HI.out.par.lt) Hx.aO with
  |true=>
   have HD:=ae hd;clear hd;go_wp2_with fail;refine(cY Hx.aO w2 b gt cap tb ts jj _ rfl (HI.out.par.below dH.out)).mono ?_;rintro e w3 ⟨rfl,pS,jq⟩;rw[HD.out]at pS|-;have sY:fJ w3 b gt cap tb ts (jj+1):=pS;have ST:=STEP w3 (jj+1) true sY ((HI.out.jU.below dH.out).kept jq (λk hF e=>yh (e▸hF))) ((HI.out.kept.below dH.out).trans jq (λ_ e=>.inl (.inl e))) rfl;have vy:=LU HI.out.par.lt HD.out (aN _ HI.out.par.lt).out;have rH:=ae vy;have nZ:Hid (Hx.Ok [Hx.aO] (ts.drop jj) (ts.drop (jj+1))):=ae (by rw[ak HI.out.par.lt];exact Hx.cE (aN _ HI.out.par.lt).out _ (.inl (by decide)) _ HD.out);clear pS sY jq STEP vy;go_wp2_with fail;refine ST.out.mono ?_;rintro e w4 ⟨ok,j4,g4,vm4,rfl,hR,Re,hK4⟩;have HR:=ae hR;have PS:=ae Re;have pT:=ae hK4;clear hR Re hK4 ST
   cases ok with
   |false=>
    go_wp2_with fail;go_ret;refine⟨false,j4,_,_,rfl,HR.out.par,PS.out,pT.out,(λe=>by cases e),λ_=>HI.out.Ki _ ?_⟩;have hb:=nZ.out.bad (b:=[Hx.e9,Hx.bJ]) (HR.out.bad rfl).cons;rw[ak HI.out.par.lt]at hb|-;exact Hx.eo.aU rH.out hb
   |true=>
    have fin:Hid (∃jj' g1' ext' agt,sX w b gt cap tb ts j base vt vv vs gs F i hi (ts.length-jj) jj' g1' ext' agt w4):=ae (by
     obtain⟨ex,mK,ak6,PU,ho4,PV,agu⟩:=HR.out.good rfl;refine⟨j4,g4,ext++ex,vm4,HR.out.par,PS.out,pT.out,HI.out.grow.trans mK,by omega,PU,by omega,λl' k=>HI.out.ok _ ?_,λln k=>HI.out.Ki _ ?_,λs hs=>?_,?_⟩
     ·have ho:=nZ.out.app (ho4.app k)
      rw[ak HI.out.par.lt]at ho|-;exact Hx.Ok.aU rH.out ho
     ·have hb:=nZ.out.bad (ho4.bad k)
      rw[ak HI.out.par.lt]at hb|-;exact Hx.eo.aU rH.out hb
     ·have h1:=HI.out.ss s hs
      have h2:Hx.SS (ts.drop jj) i (gs[i].a.depth+1:Nat) false (s.cT ext) (ts.drop (jj+1)) i (gs[i].a.depth+1:Nat) true (s.cT ext):=by rw[ak HI.out.par.lt];exact Hx.SS.dflt (Hx.nu (aN _ HI.out.par.lt).out (by decide) HD.out)
      have h3:=agu (s.cT ext) (by rw[Hx.lF];simp[hs,HLN.out]);rw[HDP.out]at h3;have e5:s.cT (ext++ex)=(s.cT ext).cT ex:=by simp[Hx.St.cT]
      rw[e5];exact h1.trans (h2.trans h3)
     ·rw[HDP.out,HLN.out]at PV
      have h0:=HI.out.vj;rw[ak HI.out.par.lt]at h0
      exact .dear h0 HD.out PV)
    go_wp2_with fail
    go_roundg (ts.length-jj)
    case measure=>omega
    case rel=>exact fin.out
  |false=>
   have HD:=ae hd;clear hd;go_wp2_with fail;refine(gG w2 b gt cap tb ts jj (HI.out.par.below dH.out)).mono ?_;rintro e w3 ⟨rfl,eC⟩;have ji:=ae (dH.out.trans (eC.mono dH.out.size));clear eC;go_wp2_with fail;refine(xZ (ts[jj]'HI.out.par.lt) _ w3).mono ?_;rintro e w4 ⟨rfl,er⟩;have nY:=ae (ji.out.trans (er.mono ji.out.size));clear er;rw[show(⟨#[109,111,100,101]⟩:ByteArray).toList=Hx.cS by simp]
   cases hm:aq (ts[jj]'HI.out.par.lt) Hx.cS with
   |false=>
    have HM:=ae hm;clear hm STEP;go_wp2_with fail;go_ret;have vy:=LW HI.out.par.lt HD.out HM.out (aN _ HI.out.par.lt).out;refine⟨true,jj,g1,vm1,rfl,HI.out.par.below nY.out,HI.out.jU.below nY.out,HI.out.kept.below nY.out,λ_=>⟨ext,HI.out.grow,HI.out.le,HI.out.oM,λl' k=>HI.out.ok _ ?_,λln k=>HI.out.Ki _ ?_,HI.out.vj,HI.out.ss⟩,(λe=>by cases e)⟩
    ·grind[Hx.Ok.aU,ak]
    grind[ak,Hx.eo.aU]
   |true=>
    have HM:=ae hm;clear hm;go_wp2_with fail;refine(cY Hx.aO w4 b gt cap tb ts jj _ rfl (HI.out.par.below nY.out)).mono ?_;rintro e w5 ⟨rfl,XC,lm⟩;rw[HD.out]at XC|-;have ak8:fJ w5 b gt cap tb ts jj:=XC;have ST:=STEP w5 jj false ak8 ((HI.out.jU.below nY.out).kept lm (λk hF e=>yh (e▸hF))) ((HI.out.kept.below nY.out).trans lm (λ_ e=>.inl (.inl e))) rfl;have vy:=LV HI.out.par.lt HD.out HM.out (aN _ HI.out.par.lt).out;have rH:=ae vy;clear XC ak8 lm STEP vy;go_wp2_with fail;refine ST.out.mono ?_;rintro e w6 ⟨ok,j4,g4,vm4,rfl,hR,Re,hK4⟩;have HR:=ae hR;have PS:=ae Re;have pT:=ae hK4;clear hR Re hK4 ST
    cases ok with
    |false=>
     go_wp2_with fail;go_ret;refine⟨false,j4,_,_,rfl,HR.out.par,PS.out,pT.out,(λe=>by cases e),λ_=>HI.out.Ki _ ?_⟩;have hb:=(HR.out.bad rfl).app (b:=[Hx.bJ]);rw[ak HI.out.par.lt]at hb|-;exact Hx.eo.aU rH.out hb
    |true=>
     have fin:Hid (∃jj' g1' ext' agt,sX w b gt cap tb ts j base vt vv vs gs F i hi (ts.length-jj) jj' g1' ext' agt w6):=ae (by
      obtain⟨ex,mK,ak6,PU,ho4,PV,agu⟩:=HR.out.good rfl;refine⟨j4,g4,ext++ex,vm4,HR.out.par,PS.out,pT.out,HI.out.grow.trans mK,by omega,PU,by omega,λl' k=>HI.out.ok _ ?_,λln k=>HI.out.Ki _ ?_,λs hs=>?_,?_⟩
      ·have ho:=ho4.app k
       rw[ak HI.out.par.lt]at ho|-;exact Hx.Ok.aU rH.out ho
      ·have hb:=ho4.bad k
       rw[ak HI.out.par.lt]at hb|-;exact Hx.eo.aU rH.out hb
      ·have h1:=HI.out.ss s hs
       have h3:=agu (s.cT ext) (by rw[Hx.lF];simp[hs,HLN.out]);rw[HDP.out]at h3;have e5:s.cT (ext++ex)=(s.cT ext).cT ex:=by simp[Hx.St.cT]
       rw[e5];exact h1.trans h3
      ·rw[HDP.out,HLN.out]at PV
       have h0:=HI.out.vj;rw[ak HI.out.par.lt]at h0 PV
       exact .more h0 HD.out HM.out PV)
     go_wp2_with fail
     go_roundg (ts.length-jj)
     case measure=>omega
     case rel=>exact fin.out
theorem PW(n:Nat):NG n:=by
 induction n with
 |zero=>intro w b gt cap tb ts j base vt vv vm vs gs F ai dflt h _ _ _ _ _ _ hn;exact absurd h.lt (by omega)
 |succ n ih=>exact PX n (UH n ih)
theorem Fk:NG 3001:=PW 3001
end
section
open Go.RowKit
def fY(s:Hx.St)(vs:List az):Hx.St:=vs.foldl (λs v=>s.addVar v.name v.first v.last) s
inductive yj:List Hx.Tok->List az->List Hx.Tok->Prop
 |nil (l:List Hx.Tok):yj l [] l
 |snoc {l r:List Hx.Tok} {vs:List az} {va:az} {t x y:Hx.Tok} (h:yj l vs (t::va.name::va.first::x::va.last::y::r)) (ht:aq t Hx.eE=true):yj l (vs++[va]) r
def xO(ts:List Hx.Tok)(vs:List az)(ms:List Hx.MA):Prop:=∃t m e r,yj ts vs (t::m)/\aq t Hx.eE=false/\Hx.MD false (t::m) (-1) false 0 0 ms (e::r)/\e.k=101
structure agv(w:World)(b gt cap tb:Nat)(ts:List Hx.Tok)(base:Nat)(vt:Value)(F:Nat->Prop)(ok:Bool)(j':Nat)(vs:List az)(gs':List MG)(UJ D9:Value)(w':World):Prop where
 par:fJ w' b gt cap tb ts j'
 jU:PT w' base tb vt vs gs' (fresh F w) UJ D9
 kept:Kp (λk=>k=b\/F k) w w'
 good:ok=true->Links gs'/\Hx.F5 [Hx.b9] ts 0/\xO ts vs (gs'.map (·.a))/\vs.length<=3001/\gs'.length<=3001/\∃n,Hx.dk n ts (-1) 0 false Hx.St.zero=some ((fY Hx.St.zero vs).cT (gs'.map (·.a)))
 bad:ok=false->Hx.F5 [Hx.b9] ts (ts[j']'par.lt).line
structure yA(w:World)(b gt cap tb:Nat)(ts:List Hx.Tok)(base:Nat)(vt:Value)(F:Nat->Prop)(vm:Value)(k jj:Nat)(vs:List az)(vv:Value)(wr:World):Prop where
 par:fJ wr b gt cap tb ts jj
 jU:PT wr base tb vt vs [] (fresh F w) vv vm
 kept:Kp (λk=>k=b\/F k) w wr
 oM:vs.length<=jj
 left:ts.length-jj<k
 ok:∀l',Hx.Ok [Hx.b9] (ts.drop jj) l'->Hx.Ok [Hx.b9] ts l'
 Ki:∀ln,Hx.eo [Hx.b9] (ts.drop jj) ln->Hx.eo [Hx.b9] ts ln
 ss:Hx.SS ts (-1) 0 false Hx.St.zero (ts.drop jj) (-1) 0 false (fY Hx.St.zero vs)
 vj:yj ts vs (ts.drop jj)
section
variable {ts:List Hx.Tok} {j:Nat}
theorem PY(hj:j<ts.length)(hm:aq ts[j] Hx.eE=true)(hg:Hx.Good ts[j]):Hx.aA Hx.b9 ts[j]=some [Hx.eE,Hx.cB,Hx.eP,Hx.KO,Hx.eP,Hx.t7,Hx.b9]:=by
 rw[Hx.bY hg _ (by decide)]at hm;show some (if Hx.eQ ts[j] Hx.eE then _ else _)=_
 grind
theorem LX(hj:j<ts.length)(hm:aq ts[j] Hx.eE=false)(hg:Hx.Good ts[j]):Hx.aA Hx.b9 ts[j]=some [Hx.e9]:=by
 rw[Hx.bY hg _ (by decide)]at hm;show some (if Hx.eQ ts[j] Hx.eE then _ else _)=_
 grind
end
theorem zL(w:World)(b gt cap tb:Nat)(ts:List Hx.Tok)(base:Nat)(vt vv vm:Value)(F:Nat->Prop)(h:fJ w b gt cap tb ts 0)(hT:PT w base tb vt [] [] F vv vm)(PQ:¬F b)(pQ:¬F gt):
  Calls Tryz.prog 103 #[.pointer (some ⟨b,0,none⟩)] w λe w'=>∃ok j' vs gs' UJ D9,e=.returned (.bool ok)/\agv w b gt cap tb ts base vt F ok j' vs gs' UJ D9 w':=by
 have eS:=h.own;have ck:=h.lies;have wA:=h.ok.oM;have aN:∀i (hi:i<ts.length),Hid (Hx.Good ts[i]):=λi hi=>ae (h.ok.good _ (List.getElem_mem hi))
 have yh:¬fresh F w b:=λh=>h.elim PQ (λh=>by omega)
 have tU:¬fresh F w gt:=λh=>h.elim pQ (λh=>by omega)
 have H0:Hid (∃jj vs UJ,yA w b gt cap tb ts base vt F vm 3002 jj vs UJ w):=ae
  ⟨0,[],vv,h,hT.mono (λ_ h=>.inl h),Kp.refl _ _,by simp,by omega,λ_ k=>k,λ_ k=>k,Hx.SS.refl _ _ _ _ _,.nil _⟩
 clear hT;go_enter Tryz.func103,Tryz.ntmps103;go_wp2_with fail
 go_loopg [] 3002 (λk wr=>∃jj vs UJ,yA w b gt cap tb ts base vt F vm k jj vs UJ wr)
 case atStart=>exact H0.out
 case round=>
  obtain⟨jj,vs,vv1,hI⟩:=hrel;clear H0;have HI:=ae hI;clear hI;have hwr:=HI.out.kept.size;have iP:=HI.out.par.lt;have pP:=HI.out.left;have hfv:=HI.out.oM;go_wp2_with fail;refine(gG wr b gt cap tb ts jj HI.out.par).mono ?_;rintro e w1 ⟨rfl,bH⟩;have b6:=ae bH;clear bH;go_wp2_with fail;refine(xZ (ts[jj]'HI.out.par.lt) _ w1).mono ?_;rintro e w2 ⟨rfl,aT⟩;have dH:=ae (b6.out.trans (aT.mono b6.out.size));clear aT;rw[show(⟨#[118,97,114]⟩:ByteArray).toList=Hx.eE by simp];have jT:=dH.out.size;have ad6:∀W:World,w.heap.size<=W.heap.size->∀k,fresh (fresh F w) W k->fresh F w k:=λW hW k h=>h.elim id (λh=>.inr (Nat.le_trans hW h))
  cases hm:aq (ts[jj]'HI.out.par.lt) Hx.eE with
  |true=>
   have HM:=ae hm;clear hm;have vy:=PY HI.out.par.lt HM.out (aN _ HI.out.par.lt).out;have rH:=ae vy;clear vy;go_wp2_with fail;refine(I7 w2 b gt cap tb ts jj base vt vv1 vm vs [] (fresh F w) (HI.out.par.below dH.out) HM.out (HI.out.jU.below dH.out) yh tU (by omega)).mono ?_;rintro e w3 ⟨ok,j3,va,vv3,rfl,wx,hC,hP3,Rf,D2⟩;have HC:=ae hC;have nT:=ae hP3;have nL:=ae (Rf.mono (ad6 w2 (by omega)));have kj:=ae ((HI.out.kept.below dH.out).trans D2 (λk e=>e.elim (λe=>.inl (.inl e)) (λe=>e.elim (λe=>.inl (.inr e)) .inr)));clear hC hP3 Rf D2
   cases ok with
   |false=>
    go_wp2_with fail;go_ret;refine⟨false,j3,_,_,_,_,rfl,nT.out,nL.out,kj.out,(λe=>by cases e),λ_=>?_⟩;have hb:=(HC.out.bad rfl).app (b:=[Hx.b9]);have aT:=HI.out.Ki _ (by rw[ak HI.out.par.lt]at hb|-;exact Hx.eo.aU rH.out hb);exact aT []
   |true=>
    have fin:Hid (∃jj' vs' UJ,yA w b gt cap tb ts base vt F vm (ts.length-jj) jj' vs' UJ w3):=ae (by
     obtain⟨Ea,UK,x,y,r,Rg,hr⟩:=HC.out.good rfl;subst Ea;have ayI:=nT.out.lt;refine⟨jj+6,vs++[va],vv3,nT.out,nL.out,kj.out,by grind,by omega,λl' k=>HI.out.ok _ ?_,λln k=>HI.out.Ki _ ?_,HI.out.ss.trans ?_,?_⟩
     ·have ho:=UK.app k
      rw[ak HI.out.par.lt]at ho|-;exact Hx.Ok.aU rH.out ho
     ·have hb:=UK.bad k
      rw[ak HI.out.par.lt]at hb|-;exact Hx.eo.aU rH.out hb
     ·rw[ak HI.out.par.lt,Rg,<-hr]
      have e5:fY Hx.St.zero (vs++[va])=(fY Hx.St.zero vs).addVar va.name va.first va.last:=by simp[fY]
      rw[e5];exact Hx.SS.var (Hx.nu (aN _ HI.out.par.lt).out (by decide) HM.out)
     ·have h0:=HI.out.vj
      rw[ak HI.out.par.lt,Rg]at h0;rw[<-hr]
      exact .snoc h0 HM.out)
    go_wp2_with fail
    go_roundg (ts.length-jj)
    case measure=>omega
    case rel=>exact fin.out
  |false=>
   have HM:=ae hm;clear hm;have vy:=LX HI.out.par.lt HM.out (aN _ HI.out.par.lt).out;have rH:=ae vy;clear vy;have TM:=Fk w2 b gt cap tb ts jj base vt vv1 vm vs [] (fresh F w) none false (HI.out.par.below dH.out) (HI.out.jU.below dH.out) (λi k hk=>by simp at hk) yh tU (λa e=>by cases e) (by simp) (by omega);have HTM:=ae TM;clear TM;go_wp2_with fail;refine HTM.out.mono ?_;rintro e w3 ⟨ok,j3,g3,vm3,rfl,hR⟩;have HR:=ae hR;have nL:=ae (hR.jU.mono (ad6 w2 (by omega)));have kj:=ae ((HI.out.kept.below dH.out).trans hR.kept (λk e=>e.elim (λe=>.inl (.inl e)) (λe=>e.elim (λe=>.inl (.inr e)) .inr)));clear hR
   cases ok with
   |false=>
    go_wp2_with fail;go_ret;refine⟨false,j3,_,_,_,_,rfl,HR.out.par,nL.out,kj.out,(λe=>by cases e),λ_=>?_⟩;have hb:=HR.out.bad rfl;have aT:=HI.out.Ki _ (by rw[ak HI.out.par.lt]at hb|-;exact Hx.eo.aU rH.out hb);exact aT []
   |true=>
    have hfk:=λW=>yB W (ao (ts[j3]'HR.out.par.lt).k) (ts[j3]'HR.out.par.lt).n (ts[j3]'HR.out.par.lt).line (ts[j3]'HR.out.par.lt).s
    go_wp2_with fail;refine(gG w3 b gt cap tb ts j3 HR.out.par).mono ?_;rintro e w4 ⟨rfl,er⟩;rw[pU];have nY:=ae er;clear er;obtain⟨kd,Fj⟩:∃kd,kd=ao (ts[j3]'HR.out.par.lt).k:=⟨_,rfl⟩;rw[<-Fj]at hfk|-;have HKD:=ae Fj;clear Fj;obtain⟨ex,mK,ayJ,XD,ho3,ak9,UL⟩:=HR.out.good rfl;have Xz:=ae mK;have mH:=ae (HI.out.ok _ (by rw[ak HI.out.par.lt]at ho3|-;exact Hx.Ok.aU rH.out ho3));have HSS:=ae UL;have HMD:=ae ak9;have aqM:g3.length<=3001:=by have:=HR.out.par.lt;omega
    have kz:vs.length<=3001:=by omega
    clear mK ho3 UL ak9;have zi:=(aN _ HR.out.par.lt).out
    cases jf:(kd==0)with
    |true=>
     have UM:(ts[j3]'HR.out.par.lt).k=101:=by
      rw[HKD.out]at jf;rcases zi with h|h|h|⟨h,_⟩|⟨h,_⟩
      ·exact h
      all_goals(rw[h]at jf;simp[ao]at jf)
     have sZ:=ae UM;clear UM zi;go_wp2_with fail;go_ret;refine⟨true,j3,vs,g3,vv1,vm3,rfl,HR.out.par.below nY.out,nL.out.below nY.out,kj.out.below nY.out,λ_=>⟨Xz.out.kt,?_,?_,kz,aqM,?_⟩,(λe=>by cases e)⟩
     ·have:=mH.out [] 0 ⟨1,by rw[ak HR.out.par.lt];simp[Hx.dX,sZ.out]⟩
      grind
     ·have ea:=by have:=Xz.out.a;simpa using this
      rw[ea];have h0:=HI.out.vj;have h1:=HMD.out;rw[ak HI.out.par.lt]at h0 h1;rw[ak HR.out.par.lt]at h1;exact⟨_,_,_,_,h0,HM.out,h1,sZ.out⟩
     ·have ea:=by have:=Xz.out.a;simpa using this
      rw[ea];have hz:(fY Hx.St.zero vs).af.length=([]:List MG).length:=by
       have:∀(l:List az)(s:Hx.St),(fY s l).af=s.af:=by
        intro l
        induction l with
        |nil=>intro s;rfl
        |cons v r ih=>intro s;simp only [fY,List.foldl_cons]at ih|-;grind[Hx.St.addVar,Hx.St.iT,Hx.St.bw]
       rw[this];rfl
      have h1:=HI.out.ss.trans (HSS.out _ hz);exact h1 1 _ (by rw[ak HR.out.par.lt];simp[Hx.dk,sZ.out])
    |false=>
     have UM:¬(ts[j3]'HR.out.par.lt).k=101:=λh=>by rw[HKD.out,h]at jf;grind[ao]
     have sZ:=ae UM;clear UM zi;go_wp2_with fail;go_ret;refine⟨false,j3,vs,g3,vv1,vm3,rfl,HR.out.par.below nY.out,nL.out.below nY.out,kj.out.below nY.out,(λe=>by cases e),λ_=>?_⟩;exact mH.out [] _ ⟨1,by rw[ak HR.out.par.lt];simp[Hx.dX,sZ.out]⟩
end
section
open Go.RowKit
theorem LY(W:World)(k n l:Int)(s:ByteArray):(Instr.field 149 (.agg #[.int .i64 k,.string s,.int .i64 n,.int .i64 l]) 3).run Tryz.prog W=.ok (.int .i64 l) W:=by kernel_rfl
def agw(w:World)(gt:Nat)(vt:Value)(ts:List Hx.Tok)(e:Ending)(w':World):Prop:=
 Below w.heap.size w w'/\
 ((∃line:Nat,e=.returned (.tuple #[.pointer none,.agg (ay 2 line)])/\Hx.F5 [Hx.b9] ts line/\∃t∈ts,t.line=line)\/
  (∃(tb:Nat)(vs:List az)(gs:List MG)(vv vm:Value),e=.returned (.tuple #[dz tb,.agg (ay 0 0)])/\PT w' (w.heap.size+1) tb vt vs gs (λk=>w.heap.size<k) vv vm/\kC w' gt ts/\Links gs/\Hx.F5 [Hx.b9] ts 0/\xO ts vs (gs.map (·.a))/\vs.length<=3001/\gs.length<=3001/\
   ∃n,Hx.dk n ts (-1) 0 false Hx.St.zero=some ((fY Hx.St.zero vs).cT (gs.map (·.a)))))
theorem PZ(w:World)(gt cap:Nat)(ts:List Hx.Tok)(hm:kC w gt ts)(hg:gt<w.heap.size)(h0:0<ts.length)(cR:Hx.S6 ts):
  Calls Tryz.prog 71 #[.slice (some ⟨gt,0,none⟩) ts.length cap] w λe w'=>agw w gt (.slice (some ⟨gt,0,none⟩) ts.length cap) ts e w':=by
 have HM:=ae hm;have pf:=ae cR;clear hm cR;go_enter Tryz.func71,Tryz.ntmps71;go_wp2_with fail;have gf:Below w.heap.size w (w.alloc (.cells (ay 0 0) 34)):=(Below.refl _ _).alloc (Nat.le_refl _) _;have kc:Below w.heap.size w ((w.alloc (.cells (ay 0 0) 34)).alloc (.cells #[.slice (some ⟨gt,0,none⟩) ts.length cap,.slice none 0 0,.slice none 0 0] 87)):=gf.alloc (by simp) _;have sJ:Below w.heap.size w (((w.alloc (.cells (ay 0 0) 34)).alloc (.cells #[.slice (some ⟨gt,0,none⟩) ts.length cap,.slice none 0 0,.slice none 0 0] 87)).alloc (.cells #[.slice (some ⟨gt,0,none⟩) ts.length cap,.int .i64 0,.pointer (some ⟨w.heap.size+1,0,none⟩)] 202)):=kc.alloc (by simp;omega) _;have GI:(((w.alloc (.cells (ay 0 0) 34)).alloc (.cells #[.slice (some ⟨gt,0,none⟩) ts.length cap,.slice none 0 0,.slice none 0 0] 87)).alloc (.cells #[.slice (some ⟨gt,0,none⟩) ts.length cap,.int .i64 0,.pointer (some ⟨w.heap.size+1,0,none⟩)] 202)).heap[w.heap.size+1+1]?=some (.cells #[.slice (some ⟨gt,0,none⟩) ts.length cap,.int .i64 0,.pointer (some ⟨w.heap.size+1,0,none⟩)] 202 (0,0)):=by
  have:=heap_alloc_new ((w.alloc (.cells (ay 0 0) 34)).alloc (.cells #[.slice (some ⟨gt,0,none⟩) ts.length cap,.slice none 0 0,.slice none 0 0] 87)) (.cells #[.slice (some ⟨gt,0,none⟩) ts.length cap,.int .i64 0,.pointer (some ⟨w.heap.size+1,0,none⟩)] 202);simpa using this
 have QV:(((w.alloc (.cells (ay 0 0) 34)).alloc (.cells #[.slice (some ⟨gt,0,none⟩) ts.length cap,.slice none 0 0,.slice none 0 0] 87)).alloc (.cells #[.slice (some ⟨gt,0,none⟩) ts.length cap,.int .i64 0,.pointer (some ⟨w.heap.size+1,0,none⟩)] 202)).heap[w.heap.size+1]?=some (.cells #[.slice (some ⟨gt,0,none⟩) ts.length cap,.slice none 0 0,.slice none 0 0] 87 (0,0)):=by
  refine(((Below.refl (w.heap.size+1+1) ((w.alloc (.cells (ay 0 0) 34)).alloc (.cells #[.slice (some ⟨gt,0,none⟩) ts.length cap,.slice none 0 0,.slice none 0 0] 87))).alloc (by simp) _).block (w.heap.size+1) (by omega)).trans ?_;have:=heap_alloc_new (w.alloc (.cells (ay 0 0) 34)) (.cells #[.slice (some ⟨gt,0,none⟩) ts.length cap,.slice none 0 0,.slice none 0 0] 87);simpa using this
 have ov:(((w.alloc (.cells (ay 0 0) 34)).alloc (.cells #[.slice (some ⟨gt,0,none⟩) ts.length cap,.slice none 0 0,.slice none 0 0] 87)).alloc (.cells #[.slice (some ⟨gt,0,none⟩) ts.length cap,.int .i64 0,.pointer (some ⟨w.heap.size+1,0,none⟩)] 202)).heap[w.heap.size]?=some (.cells (ay 0 0) 34 (0,0)):=by
  refine((((Below.refl (w.heap.size+1) (w.alloc (.cells (ay 0 0) 34))).alloc (by simp) _).alloc (by simp) _).block w.heap.size (by omega)).trans (heap_alloc_new w _)
 have hsz:(((w.alloc (.cells (ay 0 0) 34)).alloc (.cells #[.slice (some ⟨gt,0,none⟩) ts.length cap,.slice none 0 0,.slice none 0 0] 87)).alloc (.cells #[.slice (some ⟨gt,0,none⟩) ts.length cap,.int .i64 0,.pointer (some ⟨w.heap.size+1,0,none⟩)] 202)).heap.size=w.heap.size+3:=by simp
 rw[show(#[Value.int .i64 0,.int .i64 0,.string ⟨#[]⟩,.slice none 0 0,.slice none 0 0])=ay 0 0 from rfl];generalize (((w.alloc (.cells (ay 0 0) 34)).alloc (.cells #[.slice (some ⟨gt,0,none⟩) ts.length cap,.slice none 0 0,.slice none 0 0] 87)).alloc (.cells #[.slice (some ⟨gt,0,none⟩) ts.length cap,.int .i64 0,.pointer (some ⟨w.heap.size+1,0,none⟩)] 202))=W at*;have UN:fJ W (w.heap.size+1+1) gt cap (w.heap.size+1) ts 0:=⟨GI,λi hi=>⟨(sJ.cell hg).trans (HM.out i hi).1,(sJ.cell hg).trans (HM.out i hi).2.1,(sJ.cell hg).trans (HM.out i hi).2.2.1,(sJ.cell hg).trans (HM.out i hi).2.2.2⟩,by omega,by omega,h0,pf.out⟩;have uC:PT W (w.heap.size+1) (w.heap.size+1) (.slice (some ⟨gt,0,none⟩) ts.length cap) [] [] (λk=>k=w.heap.size+1) (.slice none 0 0) (.slice none 0 0):=by
  refine⟨(((dr.nil W (w.heap.size+1)).Fl QV (Nat.le_refl _) (λ⟨i,r,hr,_⟩=>by simp at hr)).oB 166 12).oB 164 1,λk hk=>?_,by omega⟩;obtain⟨i,r,hr,e⟩:=hk
  match i,hr with
  |0,hr=>cases hr;cases e;rfl
  |1,hr=>cases hr;cases e
  |2,hr=>cases hr;cases e
  |i+3,hr=>simp[cJ]at hr
 have HPI:=ae UN;have IF:=ae uC;have ji:=ae sJ;have og:=ae ov;have HSZ:=ae hsz;clear gf kc sJ ov QV GI UN uC hsz;refine(zL W (w.heap.size+1+1) gt cap (w.heap.size+1) ts (w.heap.size+1) _ _ _ (λk=>k=w.heap.size+1) HPI.out IF.out (by omega) (by omega)).mono ?_;rintro e w1 ⟨ok,j1,vs,gs,vv,vm,rfl,hR⟩;have vB:=(hR.kept.block w.heap.size (by have:=HSZ.out;omega) (by omega)).trans og.out;have HF1:=ae vB;have HR:=ae hR;have hB:=ji.out.trans (hR.kept.toBelow (λk e=>by omega) (by have:=HSZ.out;omega));have HB:=ae hB;have gI:=hR.kept.size;clear hR hB
 cases ok with
 |false=>
  obtain⟨t,ht⟩:∃t,t=ts[j1]'HR.out.par.lt:=⟨_,rfl⟩;have hfl:=λW=>LY W (ao t.k) t.n t.line t.s
  have HT:=ae ht;go_wp2_with fail;refine(gG w1 (w.heap.size+1+1) gt cap (w.heap.size+1) ts j1 HR.out.par).mono ?_;rintro e w2 ⟨rfl,aT⟩;rw[pU,<-ht];have wD:=(aT.block w.heap.size (by grind)).trans vB;have dH:=ae aT;have y0:=dt wD;have z0:=Lib.frozen_of_heap wD 0;have y1:=fS wD;have z1:=Lib.frozen_of_heap wD 1;have y2:=jr wD;have z2:=Lib.frozen_of_heap wD 2;have y3:=rQ wD;have z3:=Lib.frozen_of_heap wD 3;have y4:=oh wD;have z4:=Lib.frozen_of_heap wD 4;clear vB wD aT ht;go_wp2_with fail;refine bodyPost_ret (v:=.tuple #[.pointer none,.agg #[.int .i64 2,.int .i64 t.line,.string ⟨#[]⟩,.slice none 0 0,.slice none 0 0]]) (by simp[results,Tryz.results71,go_sem, *]) rfl ?_;refine⟨dh (HB.out.trans (dH.out.mono HB.out.size)),.inl ⟨t.line,rfl,?_,t,?_,rfl⟩⟩
  ·have:=HR.out.bad rfl
   rw[<-HT.out]at this;omega
  ·rw[HT.out];simp
 |true=>
  have p2:=jr HR.out.par.box;have y0:=dt vB;have z0:=Lib.frozen_of_heap vB 0;have y1:=fS vB;have z1:=Lib.frozen_of_heap vB 1;have y2:=jr vB;have z2:=Lib.frozen_of_heap vB 2;have y3:=rQ vB;have z3:=Lib.frozen_of_heap vB 3;have y4:=oh vB;have z4:=Lib.frozen_of_heap vB 4;clear vB;go_wp2_with fail;refine bodyPost_ret (v:=.tuple #[.pointer (some ⟨w.heap.size+1,0,none⟩),.agg #[.int .i64 0,.int .i64 0,.string ⟨#[]⟩,.slice none 0 0,.slice none 0 0]]) (by simp[results,Tryz.results71,go_sem, *]) rfl ?_;obtain⟨hl,hrun,htd,hv,Q5,qo⟩:=HR.out.good rfl;have Kj:=kF (Kp.refl (λk=>k=w.heap.size) w1) (.inl rfl) (.int .i64 0) (.int .i64 0) (.string ⟨#[]⟩) (.slice none 0 0) (.slice none 0 0);have aqO:∀k,fresh (λk=>k=w.heap.size+1) W k->w.heap.size<k:=λk h=>h.elim (λe=>by omega) (λh=>by have:=HSZ.out;omega)
  refine⟨dh HB.out,.inr ⟨w.heap.size+1,vs,gs,vv,vm,rfl,(HR.out.jU.mono aqO).kept Kj (λk hF e=>by omega),?_,hl,hrun,htd,hv,Q5,qo⟩⟩;exact(HR.out.par.kp Kj (by omega) (by omega)).gy
def tf(tb:Nat)(rows:Int)(va:Value)(code line:Int):Array Value:=#[.pointer (some ⟨tb,0,none⟩),.int .i64 rows,va,.int .i64 code,.int .i64 line,.string ⟨#[]⟩,.slice none 0 0,.slice none 0 0]
def gJ(bad:Bool)(code line:Int)(cl:Int×Int):Int×Int:=if bad&&cl.1==0 then(code,line)else cl
structure abj(w:World)(c tb:Nat)(rows:Int)(va:Value)(cl:Int×Int)(e:Ending)(w':World):Prop where
 ret:e=.returned (.tuple #[])
 kept:Kp (λk=>k=c) w w'
 box:w'.heap[c]?=some (.cells (tf tb rows va cl.1 cl.2) 206 (0,0))
theorem cN(w:World)(c tb:Nat)(rows:Int)(va:Value)(cl:Int×Int)(bad:Bool)(code:Int)(t:Hx.Tok)(h:w.heap[c]?=some (.cells (tf tb rows va cl.1 cl.2) 206 (0,0))):
  Calls Tryz.prog 156 #[.pointer (some ⟨c,0,none⟩),.bool bad,.int .i64 code,zz t] w λe w'=>abj w c tb rows va (gJ bad code t.line cl) e w':=by
 obtain⟨cc,ll⟩:=cl;have HD:=ae h;have lP:=(Array.getElem?_eq_some_iff.1 h).1;obtain⟨-,-,-,x3,x4,x5,x6,x7⟩:=adl h;have g3:=Lib.frozen_of_heap h 3;have g4:=Lib.frozen_of_heap h 4;have g5:=Lib.frozen_of_heap h 5;have g6:=Lib.frozen_of_heap h 6;have g7:=Lib.frozen_of_heap h 7;have hB:=λo=>((Below.refl w.heap.size w).alloc (Nat.le_refl _) o).block c lP
 have HB:=ae hB;clear h hB;rw[pU];obtain⟨kd,Fj⟩:∃kd,kd=ao t.k:=⟨_,rfl⟩;rw[<-Fj];clear Fj;go_enter Tryz.func156,Tryz.ntmps156
 cases bad with
 |false=>
  go_wp2_with fail;go_end0;exact⟨rfl,(Kp.refl _ _).alloc _,(HB.out _).trans HD.out⟩
 |true=>
  cases h0:(cc==0)with
  |false=>
   have HR:Hid (gJ true code t.line (cc,ll)=(cc,ll)):=ae (by simp[gJ,h0]);go_wp2_with fail;go_end0;rw[HR.out];exact⟨rfl,(Kp.refl _ _).alloc _,(HB.out _).trans HD.out⟩
  |true=>
   have HR:Hid (gJ true code t.line (cc,ll)=(code,(t.line:Int))):=ae (by simp[gJ,h0]);go_wp2_with fail;go_end0;rw[HR.out];have hk:Kp (λk=>k=c) w (((((w.setCell ⟨c,3,none⟩ (.int .i64 code)).setCell ⟨c,4,none⟩ (.int .i64 t.line)).setCell ⟨c,5,none⟩ (.string ⟨#[]⟩)).setCell ⟨c,6,none⟩ (.slice none 0 0)).setCell ⟨c,7,none⟩ (.slice none 0 0)):=
    (((((Kp.refl (λk=>k=c) w).setCell (.inl rfl) _).setCell (.inl rfl) _).setCell (.inl rfl) _).setCell (.inl rfl) _).setCell (.inl rfl) _
   have hs:=aE (o:=7) (v:=.slice none 0 0) (aE (o:=6) (v:=.slice none 0 0) (aE (o:=5) (v:=.string ⟨#[]⟩) (aE (o:=4) (v:=.int .i64 t.line) (aE (o:=3) (v:=.int .i64 code) HD.out))));exact⟨rfl,hk.alloc _,(((Below.refl _ _).alloc (Nat.le_refl _) _).block c (Array.getElem?_eq_some_iff.1 hs).1).trans hs⟩
def iA(n:Int):Bool:=decide (1000<n)||decide (n< -1000)
theorem ja(w:World)(c tb:Nat)(rows:Int)(va:Value)(cl:Int×Int)(t:Hx.Tok)(h:w.heap[c]?=some (.cells (tf tb rows va cl.1 cl.2) 206 (0,0))):
  Calls Tryz.prog 158 #[.pointer (some ⟨c,0,none⟩),zz t] w λe w'=>abj w c tb rows va (gJ (iA t.n) 4 t.line cl) e w':=by
 have lP:=(Array.getElem?_eq_some_iff.1 h).1
 have RF:∀o bad,Hid (Calls Tryz.prog 156 #[.pointer (some ⟨c,0,none⟩),.bool bad,.int .i64 4,.agg #[.int .i64 (ao t.k),.string t.s,.int .i64 t.n,.int .i64 t.line]] (w.alloc o) λe w'=>abj w c tb rows va (gJ bad 4 t.line cl) e w'):=λo bad=>ae (by
  have hB:=((Below.refl w.heap.size w).alloc (Nat.le_refl _) o);have:=cN (w.alloc o) c tb rows va cl bad 4 t ((hB.block c lP).trans h);refine Calls.mono this ?_;intro e w' hr
  exact⟨hr.ret,((Kp.refl _ w).alloc o).trans hr.kept (λ_ e=>.inl e),hr.box⟩)
 clear h;rw[pU];go_enter Tryz.func158,Tryz.ntmps158
 by_cases h1:1000<t.n
 ·have hb:iA t.n=true:=by simp[iA,h1]
  rw[hb];go_wp2_with fail;refine(RF _ true).out.mono ?_;intro e w1 hr;obtain rfl:=hr.ret;have HR:=ae hr;clear hr;go_wp2_with fail;go_end0;exact HR.out
 ·have hb:iA t.n=decide (t.n< -1000):=by simp[iA,h1]
  rw[hb];clear hb;go_wp2_with fail;refine(RF _ (decide (t.n< -1000))).out.mono ?_;intro e w1 hr;obtain rfl:=hr.ret;have HR:=ae hr;clear hr;go_wp2_with fail;go_end0;exact HR.out
def bK(n:ByteArray)(v:az):Bool:=v.name.s.toList==n.toList
theorem P0(w:World)(va:az)(nb:Nat)(n:ByteArray)(hn:w.cell? ⟨nb,0,none⟩=some (.string n)):
  Calls Tryz.prog 201 #[.agg (fp va).toArray,.pointer (some ⟨nb,0,none⟩)] w λe w'=>e=.returned (.bool (bK n va))/\Below w.heap.size w w':=by
 have qf:nb<w.heap.size:=World.block_lt_of_cell? w ⟨nb,0,none⟩ hn;rw[show(fp va).toArray=#[.int .i64 (ao va.name.k),.string va.name.s,.int .i64 va.name.n,.int .i64 va.name.line,.int .i64 (ao va.first.k),.string va.first.s,.int .i64 va.first.n,.int .i64 va.first.line,.int .i64 (ao va.last.k),.string va.last.s,.int .i64 va.last.n,.int .i64 va.last.line]from rfl,bK];go_enter Tryz.func201,Tryz.ntmps201;go_wp2_with fail;go_ret;exact⟨rfl,(Below.refl _ _).alloc (Nat.le_refl _) _⟩
theorem Fm(w:World)(g cap m nb:Nat)(vs:List az)(n:ByteArray)(iq:m<=vs.length)(hg:0<m->g<w.heap.size)(hv:∀i (hi:i<m),∀k,k<12->w.cell? ⟨g,i*12+k,none⟩=(fp (vs[i]'(by omega)))[k]?)(hn:w.cell? ⟨nb,0,none⟩=some (.string n))(hm:m<=3001):
  Calls Tryz.prog 224 #[.slice (some ⟨g,0,none⟩) m cap,.func (.func 201) #[] #[.pointer (some ⟨nb,0,none⟩)]] w λe w'=>∃r:Int,e=.returned (.int .i64 r)/\decide (0<=r)=(vs.take m).any (bK n)/\Below w.heap.size w w':=by
 have HV:=ae hv;have qf:nb<w.heap.size:=World.block_lt_of_cell? w ⟨nb,0,none⟩ hn;have Ev:(vs.take m).length=m:=by simp;omega
 have HTL:=ae Ev;clear hv Ev;go_enter Tryz.func224,Tryz.ntmps224;go_wp2_with fail
 go_loopw [8] (λv8 wr=>∃k:Nat,k<=m/\v8=.int .i64 k/\Below w.heap.size w wr/\(vs.take m).any (bK n)=((vs.take m).drop k).any (bK n)) (λv8 _=>m-(intOf v8).toNat)
 case atStart=>exact⟨0,by omega,rfl,Below.refl _ _,rfl⟩
 case round=>
  obtain⟨k,hk,rfl,hb,ha⟩:=hrel;have HA:=ae ha;have HB:=ae hb;have hsz:=hb.size;clear ha
  by_cases hlt:k<m
  ·have hc:=HV.out k hlt
   have ck:=hg (by omega);have hl:k<vs.length:=by omega
   have rM:(k:Int)<m:=by omega
   have jf:(0:Int)<=k:=by omega
   have x0:wr.cell? ⟨g,k*12,none⟩=some (.int .i64 (ao vs[k].name.k)):=((hb.cell ck).trans (hc 0 (by omega)));have x1:wr.cell? ⟨g,k*12+1,none⟩=some (.string vs[k].name.s):=((hb.cell ck).trans (hc 1 (by omega)));have x2:wr.cell? ⟨g,k*12+2,none⟩=some (.int .i64 vs[k].name.n):=((hb.cell ck).trans (hc 2 (by omega)));have x3:wr.cell? ⟨g,k*12+3,none⟩=some (.int .i64 vs[k].name.line):=((hb.cell ck).trans (hc 3 (by omega)));have x4:wr.cell? ⟨g,k*12+4,none⟩=some (.int .i64 (ao vs[k].first.k)):=((hb.cell ck).trans (hc 4 (by omega)));have x5:wr.cell? ⟨g,k*12+5,none⟩=some (.string vs[k].first.s):=((hb.cell ck).trans (hc 5 (by omega)));have x6:wr.cell? ⟨g,k*12+6,none⟩=some (.int .i64 vs[k].first.n):=((hb.cell ck).trans (hc 6 (by omega)));have x7:wr.cell? ⟨g,k*12+7,none⟩=some (.int .i64 vs[k].first.line):=((hb.cell ck).trans (hc 7 (by omega)));have x8:wr.cell? ⟨g,k*12+8,none⟩=some (.int .i64 (ao vs[k].last.k)):=((hb.cell ck).trans (hc 8 (by omega)));have x9:wr.cell? ⟨g,k*12+9,none⟩=some (.string vs[k].last.s):=((hb.cell ck).trans (hc 9 (by omega)));have x10:wr.cell? ⟨g,k*12+10,none⟩=some (.int .i64 vs[k].last.n):=((hb.cell ck).trans (hc 10 (by omega)));have x11:wr.cell? ⟨g,k*12+11,none⟩=some (.int .i64 vs[k].last.line):=((hb.cell ck).trans (hc 11 (by omega)));have NA:=(hb.cell qf).trans hn;have HN:=ae NA;have hgk:(vs.take m)[k]'(by grind)=vs[k]:=by simp
   have HGK:=ae hgk;clear hc hb NA hgk;go_wp2_with fail;refine(P0 wr vs[k] nb n HN.out).mono ?_;rintro e w1 ⟨rfl,bH⟩;have b6:=ae (HB.out.trans (bH.mono HB.out.size));clear bH
   cases hq:bK n vs[k]with
   |true=>
    have HQ:=ae hq;clear hq;go_wp2_with fail;go_ret;refine⟨k,rfl,?_,b6.out⟩;rw[HA.out,Hx.wG (bK n) (vs.take m) k (by grind) (by rw[HGK.out];exact HQ.out)];simp
   |false=>
    have HQ:=ae hq;clear hq;go_wp2_with fail
    go_roundw
    case rel=>exact⟨k+1,by omega,by go_num,b6.out,by rw[HA.out,Hx.kP (bK n) (vs.take m) k (by grind) (by rw[HGK.out];exact HQ.out)]⟩
    case measure=>grind[intOf]
  ·go_wp2_with fail
   go_ret;refine⟨-1,rfl,?_,HB.out⟩;rw[HA.out,Hx.wH (bK n) (vs.take m) k (by grind)];rfl
def XE(w:World)(sv:Value)(m:Nat)(vs:List az):Prop:=
 (sv=.slice none 0 0/\m=0)\/∃(g cap:Nat)(iq:m<=vs.length),sv=.slice (some ⟨g,0,none⟩) m cap/\(0<m->g<w.heap.size)/\∀i (hi:i<m),∀k,k<12->w.cell? ⟨g,i*12+k,none⟩=(fp (vs[i]'(by omega)))[k]?
theorem XE.below{vs:List az}(h:XE w sv m vs)(hb:Below w.heap.size w w'):XE w' sv m vs:=by
 rcases h with h|⟨g,cap,iq,e,hg,hc⟩
 ·exact .inl h
 ·exact .inr ⟨g,cap,iq,e,λh0=>Nat.lt_of_lt_of_le (hg h0) hb.size,λi hi k hk=>(hb.cell (hg (by omega))).trans (hc i hi k hk)⟩
theorem Fo(w:World)(nb:Nat):
  Calls Tryz.prog 224 #[.slice none 0 0,.func (.func 201) #[] #[.pointer (some ⟨nb,0,none⟩)]] w λe w'=>e=.returned (.int .i64 (-1))/\Below w.heap.size w w':=by
 go_enter Tryz.func224,Tryz.ntmps224;go_wp2_with fail
 go_loopw [8] (λv8 wr=>v8=.int .i64 0/\Below w.heap.size w wr) (λ_ _=>0)
 case atStart=>exact⟨rfl,Below.refl _ _⟩
 case round=>
  obtain⟨rfl,hb⟩:=hrel;go_wp2_with fail;go_ret
  simp_all
theorem Fp(w:World)(sv:Value)(m nb:Nat)(vs:List az)(n:ByteArray)(h:XE w sv m vs)(hn:w.cell? ⟨nb,0,none⟩=some (.string n))(hm:m<=3001):
  Calls Tryz.prog 224 #[sv,.func (.func 201) #[] #[.pointer (some ⟨nb,0,none⟩)]] w λe w'=>∃r:Int,e=.returned (.int .i64 r)/\decide (0<=r)=(vs.take m).any (bK n)/\Below w.heap.size w w':=by
 rcases h with⟨rfl,rfl⟩|⟨g,cap,iq,rfl,hg,hc⟩
 ·refine Calls.mono (Fo w nb) ?_
  grind
 ·exact Fm w g cap m nb vs n iq hg hc hn hm
theorem wB(w:World)(sv:Value)(m nb:Nat)(vs:List az)(n:ByteArray)(h:XE w sv m vs)(hn:w.cell? ⟨nb,0,none⟩=some (.string n))(hm:m<=3001):
  Calls Tryz.prog 200 #[sv,.func (.func 201) #[] #[.pointer (some ⟨nb,0,none⟩)]] w λe w'=>e=.returned (.bool ((vs.take m).any (bK n)))/\Below w.heap.size w w':=by
 have HI:=ae (Fp w sv m nb vs n h hn hm);clear h;go_enter Tryz.func200,Tryz.ntmps200;go_wp2_with fail;refine HI.out.mono ?_;rintro e w1 ⟨r,rfl,hr,hb⟩;have HR:=ae hr;have HB:=ae hb;clear hr hb;go_wp2_with fail;go_ret;exact⟨bC HR.out,HB.out⟩
theorem rp(w:World)(sv:Value)(m:Nat)(vs:List az)(n:ByteArray)(h:XE w sv m vs)(hm:m<=3001):
  Calls Tryz.prog 157 #[sv,.string n] w λe w'=>e=.returned (.bool ((vs.take m).any (bK n)))/\Below w.heap.size w w':=by
 have HC:=ae (wB (w.alloc (.cells #[.string n] 9)) sv m w.heap.size vs n (h.below ((Below.refl _ _).alloc (Nat.le_refl _) _)) (by simp) hm);clear h;go_enter Tryz.func157,Tryz.ntmps157;go_wp2_with fail;refine HC.out.mono ?_;rintro e w1 ⟨rfl,hb⟩;have HB:=ae hb;clear hb;go_wp2_with fail;go_ret;exact⟨rfl,((Below.refl w.heap.size w).alloc (Nat.le_refl _) _).trans (HB.out.mono (by simp))⟩
def dV(n:ByteArray)(g:MG):Bool:=g.a.name.s.toList==n.toList
theorem LZ(w:World)(mb nb:Nat)(s n:ByteArray)(hs:w.cell? ⟨mb,1,none⟩=some (.string s))(hn:w.cell? ⟨nb,0,none⟩=some (.string n)):
  Calls Tryz.prog 203 #[.pointer (some ⟨mb,0,none⟩),.pointer (some ⟨nb,0,none⟩)] w λe w'=>e=.returned (.bool (s.toList==n.toList))/\Below w.heap.size w w':=by
 go_enter Tryz.func203,Tryz.ntmps203;go_wp2_with fail
 go_quiet (fail)
 go_wp2_with fail;go_ret;exact⟨rfl,⟨rfl,rfl,rfl,Nat.le_refl _,λ_ _=>rfl⟩⟩
def XF(w:World)(sv:Value)(m:Nat)(gs:List MG):Prop:=
 (sv=.slice none 0 0/\m=0)\/∃(g cap:Nat)(iq:m<=gs.length),sv=.slice (some ⟨g,0,none⟩) m cap/\(0<m->g<w.heap.size)/\∀i (hi:i<m),w.cell? ⟨g,i,none⟩=some (.pointer (some ⟨(gs[i]'(by omega)).bZ,0,none⟩))/\w.cell? ⟨(gs[i]'(by omega)).bZ,1,none⟩=some (.string (gs[i]'(by omega)).a.name.s)/\(gs[i]'(by omega)).bZ<w.heap.size
theorem XF.below{gs:List MG}(h:XF w sv m gs)(hb:Below w.heap.size w w'):XF w' sv m gs:=by
 rcases h with h|⟨g,cap,iq,e,hg,hc⟩
 ·exact .inl h
 ·exact .inr ⟨g,cap,iq,e,λh0=>Nat.lt_of_lt_of_le (hg h0) hb.size,λi hi=>⟨(hb.cell (hg (by omega))).trans (hc i hi).1,(hb.cell (hc i hi).2.2).trans (hc i hi).2.1,Nat.lt_of_lt_of_le (hc i hi).2.2 hb.size⟩⟩
theorem zM(w:World)(g cap m nb:Nat)(gs:List MG)(n:ByteArray)(iq:m<=gs.length)(hg:0<m->g<w.heap.size)
  (hv:∀i (hi:i<m),w.cell? ⟨g,i,none⟩=some (.pointer (some ⟨(gs[i]'(by omega)).bZ,0,none⟩))/\w.cell? ⟨(gs[i]'(by omega)).bZ,1,none⟩=some (.string (gs[i]'(by omega)).a.name.s)/\(gs[i]'(by omega)).bZ<w.heap.size) (hn:w.cell? ⟨nb,0,none⟩=some (.string n)) (hm:m<=3001):
  Calls Tryz.prog 168 #[.slice (some ⟨g,0,none⟩) m cap,.func (.func 203) #[] #[.pointer (some ⟨nb,0,none⟩)]] w λe w'=>∃r:Int,e=.returned (.int .i64 r)/\decide (0<=r)=(gs.take m).any (dV n)/\Below w.heap.size w w':=by
 have HV:=ae hv;have qf:nb<w.heap.size:=World.block_lt_of_cell? w ⟨nb,0,none⟩ hn;have Ev:(gs.take m).length=m:=by simp;omega
 have HTL:=ae Ev;clear hv Ev;go_enter Tryz.func168,Tryz.ntmps168;go_wp2_with fail
 go_loopw [8] (λv8 wr=>∃k:Nat,k<=m/\v8=.int .i64 k/\Below w.heap.size w wr/\(gs.take m).any (dV n)=((gs.take m).drop k).any (dV n)) (λv8 _=>m-(intOf v8).toNat)
 case atStart=>exact⟨0,by omega,rfl,Below.refl _ _,rfl⟩
 case round=>
  obtain⟨k,hk,rfl,hb,ha⟩:=hrel;have HA:=ae ha;have HB:=ae hb;have hsz:=hb.size;clear ha
  by_cases hlt:k<m
  ·obtain⟨c0,c1,c2⟩:=HV.out k hlt
   have ck:=hg (by omega);have hl:k<gs.length:=by omega
   have rM:(k:Int)<m:=by omega
   have jf:(0:Int)<=k:=by omega
   have x0:=(hb.cell ck).trans c0;have x1:=(hb.cell (p:=⟨gs[k].bZ,1,none⟩) c2).trans c1;have NA:=(hb.cell qf).trans hn;have HN:=ae NA;have HX:=ae x1;have hgk:(gs.take m)[k]'(by grind)=gs[k]:=by simp
   have HGK:=ae hgk;clear c0 c1 hb NA hgk x1;go_wp2_with fail;refine(LZ wr gs[k].bZ nb gs[k].a.name.s n HX.out HN.out).mono ?_;rintro e w1 ⟨rfl,bH⟩;have b6:=ae (HB.out.trans (bH.mono HB.out.size));clear bH
   cases hq:(gs[k].a.name.s.toList==n.toList)with
   |true=>
    have HQ:Hid (dV n gs[k]=true):=ae hq;clear hq;go_wp2_with fail;go_ret;refine⟨k,rfl,?_,b6.out⟩;rw[HA.out,Hx.wG (dV n) (gs.take m) k (by grind) (by rw[HGK.out];exact HQ.out)];simp
   |false=>
    have HQ:Hid (dV n gs[k]=false):=ae hq;clear hq;go_wp2_with fail
    go_roundw
    case rel=>exact⟨k+1,by omega,by go_num,b6.out,by rw[HA.out,Hx.kP (dV n) (gs.take m) k (by grind) (by rw[HGK.out];exact HQ.out)]⟩
    case measure=>grind[intOf]
  ·go_wp2_with fail
   go_ret;refine⟨-1,rfl,?_,HB.out⟩;rw[HA.out,Hx.wH (dV n) (gs.take m) k (by grind)];rfl
theorem zN(w:World)(nb:Nat):
  Calls Tryz.prog 168 #[.slice none 0 0,.func (.func 203) #[] #[.pointer (some ⟨nb,0,none⟩)]] w λe w'=>e=.returned (.int .i64 (-1))/\Below w.heap.size w w':=by
 go_enter Tryz.func168,Tryz.ntmps168;go_wp2_with fail
 go_loopw [8] (λv8 wr=>v8=.int .i64 0/\Below w.heap.size w wr) (λ_ _=>0)
 case atStart=>exact⟨rfl,Below.refl _ _⟩
 case round=>
  obtain⟨rfl,hb⟩:=hrel;go_wp2_with fail;go_ret
  simp_all
theorem zO(w:World)(sv:Value)(m nb:Nat)(gs:List MG)(n:ByteArray)(h:XF w sv m gs)(hn:w.cell? ⟨nb,0,none⟩=some (.string n))(hm:m<=3001):
  Calls Tryz.prog 168 #[sv,.func (.func 203) #[] #[.pointer (some ⟨nb,0,none⟩)]] w λe w'=>∃r:Int,e=.returned (.int .i64 r)/\decide (0<=r)=(gs.take m).any (dV n)/\Below w.heap.size w w':=by
 rcases h with⟨rfl,rfl⟩|⟨g,cap,iq,rfl,hg,hc⟩
 ·refine Calls.mono (zN w nb) ?_
  grind
 ·exact zM w g cap m nb gs n iq hg hc hn hm
theorem uD(w:World)(sv:Value)(m nb:Nat)(gs:List MG)(n:ByteArray)(h:XF w sv m gs)(hn:w.cell? ⟨nb,0,none⟩=some (.string n))(hm:m<=3001):
  Calls Tryz.prog 202 #[sv,.func (.func 203) #[] #[.pointer (some ⟨nb,0,none⟩)]] w λe w'=>e=.returned (.bool ((gs.take m).any (dV n)))/\Below w.heap.size w w':=by
 have HI:=ae (zO w sv m nb gs n h hn hm);clear h;go_enter Tryz.func202,Tryz.ntmps202;go_wp2_with fail;refine HI.out.mono ?_;rintro e w1 ⟨r,rfl,hr,hb⟩;have HR:=ae hr;have HB:=ae hb;clear hr hb;go_wp2_with fail;go_ret;exact⟨bC HR.out,HB.out⟩
theorem vC(w:World)(sv:Value)(m:Nat)(gs:List MG)(n:ByteArray)(h:XF w sv m gs)(hm:m<=3001):
  Calls Tryz.prog 159 #[sv,.string n] w λe w'=>e=.returned (.bool ((gs.take m).any (dV n)))/\Below w.heap.size w w':=by
 have HC:=ae (uD (w.alloc (.cells #[.string n] 9)) sv m w.heap.size gs n (h.below ((Below.refl _ _).alloc (Nat.le_refl _) _)) (by simp) hm);clear h;go_enter Tryz.func159,Tryz.ntmps159;go_wp2_with fail;refine HC.out.mono ?_;rintro e w1 ⟨rfl,hb⟩;have HB:=ae hb;clear hb;go_wp2_with fail;go_ret;exact⟨rfl,((Below.refl w.heap.size w).alloc (Nat.le_refl _) _).trans (HB.out.mono (by simp))⟩
