/- Walks of the parser's takeConj and takeGuard. -/
import Derived.Test.YtdjaiolfdbamcaaGreatDoorZWPar4
set_option maxRecDepth 20000
set_option maxHeartbeats 400000
namespace Go.Proofs.YtdjaiolfdbamcaaGreatDoor
variable {l l' ts:List Hx.Tok}{j j' j2 j3:Nat}{dest:Option Hx.Tok}
section
open Go.RowKit
section
variable {ts:List Hx.Tok} {j j' ln:Nat}
theorem Vj(hj:j<ts.length)(hm:aq ts[j] Hx.gY=false)(hg:Hx.Good ts[j]):Hx.Ok [Hx.fb] (ts.drop j) (ts.drop j):=by
 rw[Hx.bY hg _ (by decide)]at hm;have hb:Hx.aA Hx.fb ts[j]=some []:=by
  show some (if Hx.eQ ts[j] Hx.gY then _ else _)=_;rw[if_neg (by simp[hm])]
 grind[Hx.Ok.aU,Hx.Ok.nil,ak]
theorem uK(hj:j<ts.length)(hm:aq ts[j] Hx.gY=true)(hg:Hx.Good ts[j]):Hx.aA Hx.fb ts[j]=some [Hx.gY,Hx.bW,Hx.fb]:=by
 rw[Hx.bY hg _ (by decide)]at hm;show some (if Hx.eQ ts[j] Hx.gY then _ else _)=_
 grind
theorem abI(hj:j<ts.length)(hm:aq ts[j] Hx.gY=true)(hg:Hx.Good ts[j])(h:Hx.Ok [Hx.bW] (ts.drop (j+1)) (ts.drop j'))(k:Hx.Ok [Hx.fb] (ts.drop j') l'):Hx.Ok [Hx.fb] (ts.drop j) l':=by
 have hb:=uK hj hm hg;rw[ak hj];exact Hx.Ok.aU hb ((Hx.cE hg _ (.inl (by decide)) _ hm).cons (h.cons k))
theorem Qk(hj:j<ts.length)(hm:aq ts[j] Hx.gY=true)(hg:Hx.Good ts[j])(h:Hx.eo [Hx.bW] (ts.drop (j+1)) ln):Hx.eo [Hx.fb] (ts.drop j) ln:=by
 have hb:=uK hj hm hg;rw[ak hj];exact Hx.eo.aU hb ((Hx.cE hg _ (.inl (by decide)) _ hm).dM h.cons)
theorem Ql(hj:j<ts.length)(hm:aq ts[j] Hx.gY=true)(hg:Hx.Good ts[j])(h:Hx.Ok [Hx.bW] (ts.drop (j+1)) (ts.drop j'))(k:Hx.eo [Hx.fb] (ts.drop j') ln):Hx.eo [Hx.fb] (ts.drop j) ln:=by
 have hb:=uK hj hm hg;rw[ak hj];exact Hx.eo.aU hb ((Hx.cE hg _ (.inl (by decide)) _ hm).dM (h.dM k))
theorem Qm(hj:j<ts.length)(hm:aq ts[j] Hx.qh=false)(hg:Hx.Good ts[j]):Hx.Ok [Hx.jg] (ts.drop j) (ts.drop j):=by
 rw[Hx.bY hg _ (by decide)]at hm;have hb:Hx.aA Hx.jg ts[j]=some []:=by
  show some (if Hx.eQ ts[j] Hx.qh then _ else _)=_;rw[if_neg (by simp[hm])]
 grind[Hx.Ok.aU,Hx.Ok.nil,ak]
theorem rz(hj:j<ts.length)(hm:aq ts[j] Hx.qh=true)(hg:Hx.Good ts[j]):Hx.aA Hx.jg ts[j]=some [Hx.qh,Hx.eO,Hx.jg]:=by
 rw[Hx.bY hg _ (by decide)]at hm;show some (if Hx.eQ ts[j] Hx.qh then _ else _)=_
 grind
theorem Vk(hj:j<ts.length)(hm:aq ts[j] Hx.qh=true)(hg:Hx.Good ts[j])(h:Hx.Ok [Hx.eO] (ts.drop (j+1)) (ts.drop j'))(k:Hx.Ok [Hx.jg] (ts.drop j') l'):Hx.Ok [Hx.jg] (ts.drop j) l':=by
 have hb:=rz hj hm hg;rw[ak hj];exact Hx.Ok.aU hb ((Hx.cE hg _ (.inl (by decide)) _ hm).cons (h.cons k))
theorem Mi(hj:j<ts.length)(hm:aq ts[j] Hx.qh=true)(hg:Hx.Good ts[j])(h:Hx.eo [Hx.eO] (ts.drop (j+1)) ln):Hx.eo [Hx.jg] (ts.drop j) ln:=by
 have hb:=rz hj hm hg;rw[ak hj];exact Hx.eo.aU hb ((Hx.cE hg _ (.inl (by decide)) _ hm).dM h.cons)
theorem Mj(hj:j<ts.length)(hm:aq ts[j] Hx.qh=true)(hg:Hx.Good ts[j])(h:Hx.Ok [Hx.eO] (ts.drop (j+1)) (ts.drop j'))(k:Hx.eo [Hx.jg] (ts.drop j') ln):Hx.eo [Hx.jg] (ts.drop j) ln:=by
 have hb:=rz hj hm hg;rw[ak hj];exact Hx.eo.aU hb ((Hx.cE hg _ (.inl (by decide)) _ hm).dM (h.dM k))
theorem Vl{g:Hx.G}(hj:j<ts.length)(hm:aq ts[j] Hx.gY=false)(h:Hx.jG 1 l g (ts.drop j)):Hx.jG (Hx.sD [Hx.eO]) l g (ts.drop j):=by
 rw[Hx.ET];rw[ak hj]at h|-;exact .c2 h hm
theorem abJ{g h':Hx.G}(hj:j<ts.length)(hm:aq ts[j] Hx.gY=true)(h:Hx.jG 1 l g (ts.drop j))(k:Hx.jG (Hx.sD [Hx.bW]) (ts.drop (j+1)) h' l'):Hx.jG 1 l (.and g h') l':=by
 rw[Hx.pH]at k;rw[ak hj]at h;exact .c1 h hm k
theorem Qn{g:Hx.G}(hj:j<ts.length)(hm:aq ts[j] Hx.qh=false)(h:Hx.jG 3 l g (ts.drop j)):Hx.jG (Hx.sD [Hx.dc]) l g (ts.drop j):=by
 rw[Hx.yb];rw[ak hj]at h|-;exact .g2 h hm
theorem agQ{g h':Hx.G}(hj:j<ts.length)(hm:aq ts[j] Hx.qh=true)(h:Hx.jG 3 l g (ts.drop j))(k:Hx.jG (Hx.sD [Hx.eO]) (ts.drop (j+1)) h' l'):Hx.jG 3 l (.or g h') l':=by
 rw[Hx.ET]at k;rw[ak hj]at h;exact .g1 h hm k
end
structure FK(w:World)(b gt cap tb:Nat)(ts:List Hx.Tok)(j d o:Nat)(cs:Array Value)(T:TypeId)(k jj:Nat)(g:Hx.G)(wr:World):Prop where
 par:fJ wr b gt cap tb ts jj
 kept:Kp (λk=>k=b\/k=d) w wr
 box:wr.heap[d]?=some (.cells (cs.setIfInBounds o (eH g)) T (0,0))
 lt:j+g.deep<jj
 left:ts.length-jj<k
 ok:∀l',Hx.Ok [Hx.fb] (ts.drop jj) l'->Hx.Ok [Hx.eO] (ts.drop j) l'
 bad:∀ln,Hx.eo [Hx.fb] (ts.drop jj) ln->Hx.eo [Hx.eO] (ts.drop j) ln
 gs:Hx.GS (ts.drop j) (ts.drop jj) g.pC
 vj:Hx.jG 1 (ts.drop j) g (ts.drop jj)
theorem abK(n:Nat)(IH:l7 270 [Hx.bW] n):l7 262 [Hx.eO] n:=by
 intro w b gt cap tb ts j d o cs T h hd ho h1 h2 hn;have HU:=ae IH;have HP:=ae h;have HD:=ae hd;have tO:=(Array.getElem?_eq_some_iff.1 hd).1;have eS:=h.own;have ck:=h.lies;have iP:=h.lt;have aN:∀i (hi:i<ts.length),Hid (Hx.Good ts[i]):=λi hi=>ae (h.ok.good _ (List.getElem_mem hi))
 have lZ:Hx.aA Hx.eO (ts[j]'h.lt)=some [Hx.bW,Hx.fb]:=rfl;have zE:=ae lZ;clear hd IH lZ;go_enter Tryz.func262,Tryz.ntmps262;go_wp2_with fail;refine(HU.out w b gt cap tb ts j d o cs T HP.out HD.out ho h1 h2 hn).mono ?_;rintro e w1 ⟨ok,j1,v,rfl,hR⟩;have HR:=ae hR;clear hR
 cases ok with
 |false=>
  go_wp2_with fail;go_ret;refine⟨false,j1,v,rfl,HR.out.par,HR.out.kept,HR.out.box,HR.out.isIf,(λe=>by cases e),λ_=>?_⟩;have hb:=HR.out.bad rfl;rw[ak h.lt]at hb|-;exact Hx.eo.aU zE.out hb.cons
 |true=>
  have H0:Hid (∃jj g,FK w b gt cap tb ts j d o cs T 3002 jj g w1):=ae (by
   obtain⟨g,rfl,hj,cR,vh⟩:=HR.out.good rfl;refine⟨j1,g,HR.out.par,HR.out.kept,HR.out.box,hj,by have:=h.ok.oM;omega,λl' k=>?_,λln k=>?_,vh.gs,.c0 (by have:=vh.vj;grind[Hx.pH])⟩
   ·rw[ak h.lt]at cR|-;exact Hx.Ok.aU zE.out (cR.cons k)
   ·rw[ak h.lt]at cR|-;exact Hx.eo.aU zE.out (cR.dM k))
  clear HR;go_wp2_with fail
  go_loopg [] 3002 (λk wr=>∃jj g,FK w b gt cap tb ts j d o cs T k jj g wr)
  case atStart=>exact H0.out
  case round=>
   obtain⟨jj,g,hI⟩:=hrel;clear H0;have HI:=ae hI;clear hI;have hwr:=HI.out.kept.size;have hjj:=HI.out.lt;have arx:=HI.out.par.lt;have pP:=HI.out.left;go_wp2_with fail;refine(cY Hx.gY wr b gt cap tb ts jj _ rfl HI.out.par).mono ?_;rintro e w2 ⟨rfl,nD,fW⟩;have iG:=ae (HI.out.kept.trans fW (λ_ e=>.inl (.inl e)));have dH:=ae ((fW.block d (by omega) h1).trans HI.out.box);have jT:=fW.size;clear fW
   cases hm:aq (ts[jj]'HI.out.par.lt) Hx.gY with
   |false=>
    rw[hm]at nD;have HM:=ae hm;have fQ:=ae nD;clear nD hm;go_wp2_with fail;go_ret;refine⟨true,jj,eH g,rfl,fQ.out,iG.out,dH.out,lM g,λ_=>⟨g,rfl,hjj,?_,HI.out.gs,Vl HI.out.par.lt HM.out HI.out.vj⟩,(λe=>by cases e)⟩;exact HI.out.ok _ (Vj HI.out.par.lt HM.out (aN _ _).out)
   |true=>
    rw[hm]at nD;have pk:fJ w2 b gt cap tb ts (jj+1):=nD;have HM:=ae hm;have fQ:=ae pk;clear nD pk hm;have k8:w2.heap.size≠b:=by omega
    have my:w2.heap.size≠gt:=by omega
    go_wp2_with fail;refine(HU.out _ b gt cap tb ts (jj+1) w2.heap.size 0 _ _ (fQ.out.below ((Below.refl _ _).alloc (Nat.le_refl _) _)) (heap_alloc_new _ _) (by simp) k8 my (by omega)).mono ?_;rintro e w3 ⟨ok,j3,v,rfl,hR⟩;have D2:=(iG.out.alloc _).trans hR.kept (λ_ e=>e.elim (λe=>.inl (.inl e)) (λe=>.inr (by omega)));have pY:=(hR.kept.block d (by simp;omega) (by omega)).trans ((((Below.refl w2.heap.size w2).alloc (Nat.le_refl _) _).block d (by omega)).trans dH.out);have HR:=ae hR;have kj:=ae D2;have zX:=ae pY;clear hR D2 pY
    cases ok with
    |false=>
     go_wp2_with fail;go_ret;refine⟨false,j3,eH g,rfl,HR.out.par,kj.out,zX.out,lM g,(λe=>by cases e),λ_=>?_⟩;exact HI.out.bad _ (Qk HI.out.par.lt HM.out (aN _ _).out (HR.out.bad rfl))
    |true=>
     have hx:w3.heap[w2.heap.size]?=some (.cells #[v] 230 (0,0)):=HR.out.box;have x0:=dt hx;have hnd:d≠w2.heap.size:=by omega
     obtain⟨vg,hvg⟩:∃vg,vg=eH g:=⟨_,rfl⟩;have agR:=hvg▸lM g
     have xd:w3.cell? ⟨d,o,none⟩=some vg:=by rw[Lib.cell_of_heap zX.out o,hvg];simp[ho]
     have gd:w3.frozen? ⟨d,o,none⟩=false:=Lib.frozen_of_heap zX.out _;have HVG:=ae hvg;have hif:=HR.out.isIf;clear hx hvg
     have fin:Hid (∃jj' g',FK w b gt cap tb ts j d o cs T (ts.length-jj) jj' g' (w3.drew.setCell ⟨d,o,none⟩ (.iface 301 (.agg #[vg,v])))):=ae (by
      obtain⟨gr,mK,hj,cR,vh⟩:=HR.out.good rfl;refine⟨j3,.and g gr,?_,?_,?_,by grind[Hx.G.deep],?_,λl' k=>?_,λln k=>?_,?_,?_⟩
      ·exact(HR.out.par.kp (F:=λ_=>False) ((Kp.refl _ _).drew) id id).set h1 h2
      ·exact kj.out.drew.setCell (p:=⟨d,o,none⟩) (.inl (.inr rfl)) _
      ·have hd4:w3.drew.heap[d]?=some (.cells (cs.setIfInBounds o (eH g)) T (0,0)):=zX.out
       rw[aE hd4,mK,HVG.out];simp[eH]
      ·omega
      ·exact HI.out.ok _ (abI HI.out.par.lt HM.out (aN _ _).out cR k)
      ·exact HI.out.bad _ (Ql HI.out.par.lt HM.out (aN _ _).out cR k)
      ·exact HI.out.gs.trans ((wT Hx.gY (by decide) (by decide) HI.out.par.lt HM.out (aN _ _).out).trans vh.gs)
      ·exact abJ HI.out.par.lt HM.out HI.out.vj vh.vj)
     rcases hif with rfl|⟨T',x,rfl⟩<;>rcases agR with rfl|⟨T2,x2,rfl⟩
     all_goals
      go_wp2_with fail
      go_region
      all_goals
       go_wp2_with fail
       go_roundg (ts.length-jj)
       case measure=>omega
       case rel=>exact fin.out
structure yT(w:World)(b gt cap tb:Nat)(ts:List Hx.Tok)(j d o:Nat)(cs:Array Value)(T:TypeId)(k jj:Nat)(g:Hx.G)(wr:World):Prop where
 par:fJ wr b gt cap tb ts jj
 kept:Kp (λk=>k=b\/k=d) w wr
 box:wr.heap[d]?=some (.cells (cs.setIfInBounds o (eH g)) T (0,0))
 lt:j+g.deep<jj
 left:ts.length-jj<k
 ok:∀l',Hx.Ok [Hx.jg] (ts.drop jj) l'->Hx.Ok [Hx.dc] (ts.drop j) l'
 bad:∀ln,Hx.eo [Hx.jg] (ts.drop jj) ln->Hx.eo [Hx.dc] (ts.drop j) ln
 gs:Hx.GS (ts.drop j) (ts.drop jj) g.pC
 vj:Hx.jG 3 (ts.drop j) g (ts.drop jj)
theorem guard_of(n:Nat)(IH:l7 262 [Hx.eO] n):l7 247 [Hx.dc] n:=by
 intro w b gt cap tb ts j d o cs T h hd ho h1 h2 hn;have HU:=ae IH;have HP:=ae h;have HD:=ae hd;have tO:=(Array.getElem?_eq_some_iff.1 hd).1;have eS:=h.own;have ck:=h.lies;have iP:=h.lt;have aN:∀i (hi:i<ts.length),Hid (Hx.Good ts[i]):=λi hi=>ae (h.ok.good _ (List.getElem_mem hi))
 have lZ:Hx.aA Hx.dc (ts[j]'h.lt)=some [Hx.eO,Hx.jg]:=rfl;have zE:=ae lZ;clear hd IH lZ;go_enter Tryz.func247,Tryz.ntmps247;go_wp2_with fail;refine(HU.out w b gt cap tb ts j d o cs T HP.out HD.out ho h1 h2 hn).mono ?_;rintro e w1 ⟨ok,j1,v,rfl,hR⟩;have HR:=ae hR;clear hR
 cases ok with
 |false=>
  go_wp2_with fail;go_ret;refine⟨false,j1,v,rfl,HR.out.par,HR.out.kept,HR.out.box,HR.out.isIf,(λe=>by cases e),λ_=>?_⟩;have hb:=HR.out.bad rfl;rw[ak h.lt]at hb|-;exact Hx.eo.aU zE.out hb.cons
 |true=>
  have H0:Hid (∃jj g,yT w b gt cap tb ts j d o cs T 3002 jj g w1):=ae (by
   obtain⟨g,rfl,hj,cR,vh⟩:=HR.out.good rfl;refine⟨j1,g,HR.out.par,HR.out.kept,HR.out.box,hj,by have:=h.ok.oM;omega,λl' k=>?_,λln k=>?_,vh.gs,.g0 (by have:=vh.vj;grind[Hx.ET])⟩
   ·rw[ak h.lt]at cR|-;exact Hx.Ok.aU zE.out (cR.cons k)
   ·rw[ak h.lt]at cR|-;exact Hx.eo.aU zE.out (cR.dM k))
  clear HR;go_wp2_with fail
  go_loopg [] 3002 (λk wr=>∃jj g,yT w b gt cap tb ts j d o cs T k jj g wr)
  case atStart=>exact H0.out
  case round=>
   obtain⟨jj,g,hI⟩:=hrel;clear H0;have HI:=ae hI;clear hI;have hwr:=HI.out.kept.size;have hjj:=HI.out.lt;have arx:=HI.out.par.lt;have pP:=HI.out.left;go_wp2_with fail;refine(cY Hx.qh wr b gt cap tb ts jj _ rfl HI.out.par).mono ?_;rintro e w2 ⟨rfl,nD,fW⟩;have iG:=ae (HI.out.kept.trans fW (λ_ e=>.inl (.inl e)));have dH:=ae ((fW.block d (by omega) h1).trans HI.out.box);have jT:=fW.size;clear fW
   cases hm:aq (ts[jj]'HI.out.par.lt) Hx.qh with
   |false=>
    rw[hm]at nD;have HM:=ae hm;have fQ:=ae nD;clear nD hm;go_wp2_with fail;go_ret;refine⟨true,jj,eH g,rfl,fQ.out,iG.out,dH.out,lM g,λ_=>⟨g,rfl,hjj,?_,HI.out.gs,Qn HI.out.par.lt HM.out HI.out.vj⟩,(λe=>by cases e)⟩;exact HI.out.ok _ (Qm HI.out.par.lt HM.out (aN _ _).out)
   |true=>
    rw[hm]at nD;have pk:fJ w2 b gt cap tb ts (jj+1):=nD;have HM:=ae hm;have fQ:=ae pk;clear nD pk hm;have k8:w2.heap.size≠b:=by omega
    have my:w2.heap.size≠gt:=by omega
    go_wp2_with fail;refine(HU.out _ b gt cap tb ts (jj+1) w2.heap.size 0 _ _ (fQ.out.below ((Below.refl _ _).alloc (Nat.le_refl _) _)) (heap_alloc_new _ _) (by simp) k8 my (by omega)).mono ?_;rintro e w3 ⟨ok,j3,v,rfl,hR⟩;have D2:=(iG.out.alloc _).trans hR.kept (λ_ e=>e.elim (λe=>.inl (.inl e)) (λe=>.inr (by omega)));have pY:=(hR.kept.block d (by simp;omega) (by omega)).trans ((((Below.refl w2.heap.size w2).alloc (Nat.le_refl _) _).block d (by omega)).trans dH.out);have HR:=ae hR;have kj:=ae D2;have zX:=ae pY;clear hR D2 pY
    cases ok with
    |false=>
     go_wp2_with fail;go_ret;refine⟨false,j3,eH g,rfl,HR.out.par,kj.out,zX.out,lM g,(λe=>by cases e),λ_=>?_⟩;exact HI.out.bad _ (Mi HI.out.par.lt HM.out (aN _ _).out (HR.out.bad rfl))
    |true=>
     have hx:w3.heap[w2.heap.size]?=some (.cells #[v] 230 (0,0)):=HR.out.box;have x0:=dt hx;have hnd:d≠w2.heap.size:=by omega
     obtain⟨vg,hvg⟩:∃vg,vg=eH g:=⟨_,rfl⟩;have agR:=hvg▸lM g
     have xd:w3.cell? ⟨d,o,none⟩=some vg:=by rw[Lib.cell_of_heap zX.out o,hvg];simp[ho]
     have gd:w3.frozen? ⟨d,o,none⟩=false:=Lib.frozen_of_heap zX.out _;have HVG:=ae hvg;have hif:=HR.out.isIf;clear hx hvg
     have fin:Hid (∃jj' g',yT w b gt cap tb ts j d o cs T (ts.length-jj) jj' g' (w3.drew.setCell ⟨d,o,none⟩ (.iface 300 (.agg #[vg,v])))):=ae (by
      obtain⟨gr,mK,hj,cR,vh⟩:=HR.out.good rfl;refine⟨j3,.or g gr,?_,?_,?_,by grind[Hx.G.deep],?_,λl' k=>?_,λln k=>?_,?_,?_⟩
      ·exact(HR.out.par.kp (F:=λ_=>False) ((Kp.refl _ _).drew) id id).set h1 h2
      ·exact kj.out.drew.setCell (p:=⟨d,o,none⟩) (.inl (.inr rfl)) _
      ·have hd4:w3.drew.heap[d]?=some (.cells (cs.setIfInBounds o (eH g)) T (0,0)):=zX.out
       rw[aE hd4,mK,HVG.out];simp[eH]
      ·omega
      ·exact HI.out.ok _ (Vk HI.out.par.lt HM.out (aN _ _).out cR k)
      ·exact HI.out.bad _ (Mj HI.out.par.lt HM.out (aN _ _).out cR k)
      ·exact HI.out.gs.trans ((wT Hx.qh (by decide) (by decide) HI.out.par.lt HM.out (aN _ _).out).trans vh.gs)
      ·exact agQ HI.out.par.lt HM.out HI.out.vj vh.vj)
     rcases hif with rfl|⟨T',x,rfl⟩<;>rcases agR with rfl|⟨T2,x2,rfl⟩
     all_goals
      go_wp2_with fail
      go_region
      all_goals
       go_wp2_with fail
       go_roundg (ts.length-jj)
       case measure=>omega
       case rel=>exact fin.out
theorem agS(n:Nat):l7 270 [Hx.bW] n/\l7 247 [Hx.dc] n:=by
 induction n with
 |zero=>exact⟨λw b gt cap tb ts j d o cs T h _ _ _ _ hn=>absurd h.lt (by omega),λw b gt cap tb ts j d o cs T h _ _ _ _ hn=>absurd h.lt (by omega)⟩
 |succ n ih=>
  grind[guard_of,abK,Qi]
theorem zY:l7 247 [Hx.dc] 3001:=(agS 3001).2
end
section
open Go.RowKit
def oW:Option Hx.Tok->List Value
 |none=>[.bool true,.int .i64 0,.string ⟨#[]⟩,.int .i64 0,.int .i64 0]
 |some t=>[.bool false,.int .i64 (ao t.k),.string t.s,.int .i64 t.n,.int .i64 t.line]
def yU(ts:List Hx.Tok)(j j':Nat)(dest:Option Hx.Tok):Prop:=
 ∃hj:j<ts.length,(aq ts[j] Hx.kn=true/\dest=none/\j'=j+1)\/(aq ts[j] Hx.t6=true/\j'=j+2/\∃h:j+1<ts.length,dest=some ts[j+1]/\ts[j+1].k=110)
section
variable {ts:List Hx.Tok} {j j' ln:Nat}
theorem Ef(hj:j<ts.length)(hm:aq ts[j] Hx.t6=false)(hg:Hx.Good ts[j]):Hx.aA Hx.g9 ts[j]=some [Hx.kn]:=by
 rw[Hx.bY hg _ (by decide)]at hm;show some (if Hx.eQ ts[j] Hx.t6 then _ else _)=_
 grind
theorem NP(hj:j<ts.length)(hm:aq ts[j] Hx.t6=true)(hg:Hx.Good ts[j]):Hx.aA Hx.g9 ts[j]=some [Hx.t6,Hx.cB]:=by
 rw[Hx.bY hg _ (by decide)]at hm;show some (if Hx.eQ ts[j] Hx.t6 then _ else _)=_
 grind
theorem Jv{t:Hx.Tok}(h:aq t Hx.kn=true):aq t Hx.t6=false:=by
 simp_all[Hx.kn,aq]
end
theorem Fx{w:World}{A:Nat}{T:TypeId}{v0 v1 v2 v3 v4 v5 v6 v7 v8 v9:Value}(h:w.heap[A]?=some (.cells #[v0,v1,v2,v3,v4,v5,v6,v7,v8,v9] T (0,0))):
  w.cell? ⟨A,0,none⟩=some v0/\w.cell? ⟨A,1,none⟩=some v1/\w.cell? ⟨A,2,none⟩=some v2/\w.cell? ⟨A,3,none⟩=some v3/\w.cell? ⟨A,4,none⟩=some v4/\w.cell? ⟨A,5,none⟩=some v5/\w.cell? ⟨A,6,none⟩=some v6/\w.cell? ⟨A,7,none⟩=some v7/\w.cell? ⟨A,8,none⟩=some v8/\w.cell? ⟨A,9,none⟩=some v9:=
 ⟨Lib.cell_of_heap h 0,Lib.cell_of_heap h 1,Lib.cell_of_heap h 2,Lib.cell_of_heap h 3,Lib.cell_of_heap h 4,Lib.cell_of_heap h 5,Lib.cell_of_heap h 6,Lib.cell_of_heap h 7,Lib.cell_of_heap h 8,Lib.cell_of_heap h 9⟩
structure abM(w:World)(b gt cap tb:Nat)(ts:List Hx.Tok)(j R:Nat)(c:List Value)(ok:Bool)(j':Nat)(w':World):Prop where
 par:fJ w' b gt cap tb ts j'
 kept:Kp (λk=>k=b\/k=R) w w'
 good:ok=true->∃dest,w'.heap[R]?=some (.cells (c++oW dest).toArray 232 (0,0))/\Hx.Ok [Hx.g9] (ts.drop j) (ts.drop j')/\yU ts j j' dest
 bad:ok=false->Hx.eo [Hx.g9] (ts.drop j) (ts[j']'par.lt).line
theorem yV(w:World)(b gt cap tb:Nat)(ts:List Hx.Tok)(j R:Nat)(a0 a1 a2 a3 a4:Value)(h:fJ w b gt cap tb ts j)(h1:R≠b)(h2:R≠gt)
  (hd:w.heap[R]?=some (.cells #[a0,a1,a2,a3,a4,.bool false,.int .i64 0,.string ⟨#[]⟩,.int .i64 0,.int .i64 0] 232 (0,0))):
  Calls Tryz.prog 248 #[.pointer (some ⟨b,0,none⟩),.pointer (some ⟨R,0,none⟩)] w λe w'=>∃ok j',e=.returned (.bool ok)/\abM w b gt cap tb ts j R [a0,a1,a2,a3,a4] ok j' w':=by
 have HP:=ae h;have HD:=ae hd;have tO:=(Array.getElem?_eq_some_iff.1 hd).1;have eS:=h.own;have ck:=h.lies;have iP:=h.lt;have aN:∀i (hi:i<ts.length),Hid (Hx.Good ts[i]):=λi hi=>ae (h.ok.good _ (List.getElem_mem hi))
 clear hd;go_enter Tryz.func248,Tryz.ntmps248;go_wp2_with fail;refine(cY Hx.kn w b gt cap tb ts j _ rfl HP.out).mono ?_;rintro e w1 ⟨rfl,rD,fL⟩;have zQ:=(fL.block R tO h1).trans HD.out;have HD1:=ae zQ;have x5:=ZH zQ;have g5:w1.frozen? ⟨R,5,none⟩=false:=Lib.frozen_of_heap zQ _;have jW:=ae fL;have gI:=fL.size;clear zQ fL
 cases hst:aq (ts[j]'h.lt) Hx.kn with
 |true=>
  rw[hst]at rD;have yO:fJ w1 b gt cap tb ts (j+1):=rD;have lc:=ae yO;have HS:=ae hst;clear rD yO hst;go_wp2_with fail;go_ret;refine⟨true,j+1,rfl,lc.out.set h1 h2,(yR jW.out).setCell (p:=⟨R,5,none⟩) (.inl (.inr rfl)) _,λ_=>⟨none,?_,?_,h.lt,.inl ⟨HS.out,rfl,rfl⟩⟩,(λe=>by cases e)⟩
  ·rw[aE HD1.out];rfl
  ·have hb:=Ef h.lt (Jv HS.out) (aN _ h.lt).out
   rw[ak h.lt];exact Hx.Ok.aU hb (Hx.cE (aN _ h.lt).out _ (.inl (by decide)) _ HS.out)
 |false=>
  rw[hst]at rD;have yO:fJ w1 b gt cap tb ts j:=rD;have HS:=ae hst;have lc:=ae (yO.set (o:=5) (v:=.bool false) h1 h2);have Qf:=ae (aE (o:=5) (v:=.bool false) HD1.out);have iG:=ae ((yR (d:=R) jW.out).setCell (p:=⟨R,5,none⟩) (.inl (.inr rfl)) (.bool false));clear rD yO hst;go_wp2_with fail;refine(cY Hx.t6 _ b gt cap tb ts j _ rfl lc.out).mono ?_;rintro e w2 ⟨rfl,nD,fW⟩;have nh:w2.heap[R]?=some (.cells #[a0,a1,a2,a3,a4,.bool false,.int .i64 0,.string ⟨#[]⟩,.int .i64 0,.int .i64 0] 232 (0,0)):=(fW.block R (by simp[];omega) h1).trans Qf.out;have zX:=ae nh;have kj:=ae (iG.out.trans fW (λ_ e=>.inl (.inl e)));clear nh fW
  cases nX:aq (ts[j]'h.lt) Hx.t6 with
  |false=>
   rw[nX]at nD;have pk:fJ w2 b gt cap tb ts j:=nD;have HT:=ae nX;have fQ:=ae pk;clear nD pk nX;go_wp2_with fail;go_ret;refine⟨false,j,rfl,fQ.out,kj.out,(λe=>by cases e),λ_=>?_⟩;have hb:=Ef h.lt HT.out (aN _ h.lt).out;rw[ak h.lt];exact Hx.eo.aU hb (Hx.jO (aN _ h.lt).out _ (.inl (by decide)) _ HS.out)
  |true=>
   rw[nX]at nD;have pk:fJ w2 b gt cap tb ts (j+1):=nD;have HT:=ae nX;have fQ:=ae pk;clear nD pk nX;go_wp2_with fail;refine(iL w2 b gt cap tb ts (j+1) R 6 _ _ 1 fQ.out zX.out (by simp) h1 h2 (by decide)).mono ?_;intro e w3 hr;obtain rfl:=hr.ret;have HR:=ae hr;clear hr;go_wp2_with fail;go_ret;refine⟨_,_,rfl,HR.out.par,kj.out.trans HR.out.kept (λ_ e=>.inl e),λe=>⟨some (ts[j+1]'fQ.out.lt),?_,?_,h.lt,.inr ⟨HT.out,?_,fQ.out.lt,rfl,Hx.uq (aN _ fQ.out.lt).out e⟩⟩,λe=>?_⟩
   ·have:=HR.out.box
    rw[e,if_pos rfl]at this;exact this
   ·have hb:=NP h.lt HT.out (aN _ h.lt).out
    rw[e,if_pos rfl,ak h.lt];refine Hx.Ok.aU hb ((Hx.cE (aN _ h.lt).out _ (.inl (by decide)) _ HT.out).cons ?_);rw[ak fQ.out.lt];exact Hx.pF (aN _ fQ.out.lt).out _ e
   ·grind
   ·have hb:=NP h.lt HT.out (aN _ h.lt).out
    have hl:∀k (hk:k<ts.length),k=j+1->Hx.eo [Hx.g9] (ts.drop j) (ts[k]).line:=by
     rintro k hk rfl;rw[ak h.lt];refine Hx.eo.aU hb ((Hx.cE (aN _ h.lt).out _ (.inl (by decide)) _ HT.out).dM ?_);rw[ak fQ.out.lt];exact Hx.sC (aN _ fQ.out.lt).out _ e
    grind
end
section
open Go.RowKit
def fO(r:Hx.bD):List Value:=[.int .i64 (ao r.wh.k),.string r.wh.s,.int .i64 r.wh.n,.int .i64 r.wh.line,eH r.g]++oW r.dest
def alA:Array Value:=#[.int .i64 0,.string ⟨#[]⟩,.int .i64 0,.int .i64 0,.nilIface,.bool false,.int .i64 0,.string ⟨#[]⟩,.int .i64 0,.int .i64 0]
abbrev abN:List (List UInt8):=[Hx.dB,Hx.dc,Hx.g9,Hx.t7]
structure arz(w:World)(b gt cap tb:Nat)(ts:List Hx.Tok)(j R:Nat)(ok:Bool)(j':Nat)(w':World):Prop where
 par:fJ w' b gt cap tb ts j'
 kept:Kp (λk=>k=b\/k=R) w w'
 good:ok=true->∃r,w'.heap[R]?=some (.cells (fO r).toArray 232 (0,0))/\j<j'/\Hx.Ok abN (ts.drop j) (ts.drop j')/\
  Hx.EU (ts.drop j) r (ts.drop j')/\∀(inn dp:Int)(dear:Bool)(s:Hx.St),0<=inn/\inn<s.af.length->Hx.SS (ts.drop j) inn dp dear s (ts.drop j') inn dp dear (s.row inn.toNat r)
 bad:ok=false->Hx.eo abN (ts.drop j) (ts[j']'par.lt).line
theorem agT{g:Hx.G}(cR:Hx.S6 ts)(hj:j<ts.length)(hw:aq ts[j] Hx.dB=true)(hg:Hx.GS (ts.drop (j+1)) (ts.drop j2) g.pC)(hd:yU ts j2 j3 dest)(h3:j3<ts.length)(wM:∀a,dest=some a->a.s.toList≠[])(ud:g.deep<=3001)(inn dp:Int)(dear:Bool)(s:Hx.St)
  (tQ:0<=inn/\inn<s.af.length):Hx.SS (ts.drop j) inn dp dear s (ts.drop (j3+1)) inn dp dear (s.row inn.toNat ⟨ts[j],g,dest,Hx.xE (ts.drop (j+1)) (ts.drop (j2+1)),wM,ud⟩):=by
 obtain⟨h2,hd⟩:=hd;have gg:∀i (hi:i<ts.length),Hx.Good ts[i]:=λi hi=>cR.good _ (List.getElem_mem hi)
 rw[ak h2]at hg;rw[ak hj];rcases hd with⟨hm,rfl,rfl⟩|⟨hm,rfl,h4,rfl,_⟩
 ·have:=Hx.nu (gg _ h2) (by decide) hm
  exact Hx.SS.row (Hx.nu (gg _ hj) (by decide) hw) hg tQ wM ud (.inl ⟨this.1,this.2,rfl,ak h3⟩)
 ·have:=Hx.nu (gg _ h2) (by decide) hm
  exact Hx.SS.row (Hx.nu (gg _ hj) (by decide) hw) hg tQ wM ud (.inr ⟨this.1,this.2,rfl,ts[j2+2],by simp⟩)
theorem abO{g:Hx.G}(hj:j<ts.length)(hw:aq ts[j] Hx.dB=true)(hg:Hx.jG 4 (ts.drop (j+1)) g (ts.drop j2))(hd:yU ts j2 j3 dest)(h3:j3<ts.length)(hsc:aq ts[j3] Hx.t7=true)(wM:∀a,dest=some a->a.s.toList≠[])(ud:g.deep<=3001):
  Hx.EU (ts.drop j) ⟨ts[j],g,dest,Hx.xE (ts.drop (j+1)) (ts.drop (j2+1)),wM,ud⟩ (ts.drop (j3+1)):=by
 refine⟨_,_,ak hj,hw,hg,?_,by simp only [Hx.xE,List.length_drop];have:=hd.1;grind⟩;obtain⟨h2,⟨hm,hd,rfl⟩|⟨hm,rfl,h4,hd,hk⟩⟩:=hd
 ·exact .inl ⟨ts[j2],ts[j2+1],by simp,hm,hsc,hd⟩
 ·exact .inr ⟨ts[j2],ts[j2+1],ts[j2+2],by simp,hm,hk,hsc,hd⟩
theorem Vm(cR:Hx.S6 ts)(h:yU ts j j' dest):∀a,dest=some a->a.s.toList≠[]:=by
 intro a ha;obtain⟨_,⟨_,h,_⟩|⟨_,_,h1,h2,h3⟩⟩:=h
 ·grind
 ·rw[h2]at ha;cases ha;exact(cR.QX _ (List.getElem_mem _)).1 h3
theorem NQ(h:yU ts j j' dest):j<j':=by
 obtain⟨_,h|h⟩:=h<;>omega
theorem Jw(w:World)(b gt cap tb:Nat)(ts:List Hx.Tok)(j R:Nat)(h:fJ w b gt cap tb ts j)(h1:R≠b)(h2:R≠gt)(hw:aq (ts[j]'h.lt) Hx.dB=true)
  (hd:w.heap[R]?=some (.cells alA 232 (0,0))):
  Calls Tryz.prog 223 #[.pointer (some ⟨b,0,none⟩),.pointer (some ⟨R,0,none⟩)] w λe w'=>∃ok j',e=.returned (.bool ok)/\arz w b gt cap tb ts j R ok j' w':=by
 have HP:=ae h;have HD:=ae hd;have HW:=ae hw;have tO:=(Array.getElem?_eq_some_iff.1 hd).1;have eS:=h.own;have ck:=h.lies;have iP:=h.lt;have wA:=h.ok.oM;have aN:∀i (hi:i<ts.length),Hid (Hx.Good ts[i]):=λi hi=>ae (h.ok.good _ (List.getElem_mem hi))
 clear hd hw;go_enter Tryz.func223,Tryz.ntmps223;go_wp2_with fail;refine(gG w b gt cap tb ts j HP.out).mono ?_;rintro e w1 ⟨rfl,bH⟩;rw[pU];obtain⟨t,ht⟩:∃t,t=ts[j]'h.lt:=⟨_,rfl⟩;have HT:=ae ht;rw[<-ht];have zQ:=(bH.block R tO).trans HD.out;have HD1:=ae zQ;have lc:=ae (h.below bH);have b6:=ae bH;obtain⟨x0,x1,x2,x3⟩:=nE zQ;have g0:w1.frozen? ⟨R,0,none⟩=false:=Lib.frozen_of_heap zQ _;have g1:w1.frozen? ⟨R,1,none⟩=false:=Lib.frozen_of_heap zQ _;have g2:w1.frozen? ⟨R,2,none⟩=false:=Lib.frozen_of_heap zQ _;have g3:w1.frozen? ⟨R,3,none⟩=false:=Lib.frozen_of_heap zQ _;clear ht bH zQ;go_wp2_with fail;have nh:=aE (o:=3) (v:=.int .i64 t.line) (aE (o:=2) (v:=.int .i64 t.n) (aE (o:=1) (v:=.string t.s) (aE (o:=0) (v:=.int .i64 (ao t.k)) HD1.out)));have nD:=(((lc.out.set (o:=0) (v:=.int .i64 (ao t.k)) h1 h2).set (o:=1) (v:=.string t.s) h1 h2).set (o:=2) (v:=.int .i64 t.n) h1 h2).set (o:=3) (v:=.int .i64 t.line) h1 h2;have fW:=((((Kp.aK (F:=λk=>k=b\/k=R) b6.out).setCell (p:=⟨R,0,none⟩) (.inl (.inr rfl)) (.int .i64 (ao t.k))).setCell (p:=⟨R,1,none⟩) (.inl (.inr rfl)) (.string t.s)).setCell (p:=⟨R,2,none⟩) (.inl (.inr rfl)) (.int .i64 t.n)).setCell (p:=⟨R,3,none⟩) (.inl (.inr rfl)) (.int .i64 t.line);generalize (((w1.setCell ⟨R,0,none⟩ (.int .i64 (ao t.k))).setCell ⟨R,1,none⟩ (.string t.s)).setCell ⟨R,2,none⟩ (.int .i64 t.n)).setCell ⟨R,3,none⟩ (.int .i64 t.line)=w2 at*;have alB:w2.heap[R]?=some (.cells #[.int .i64 (ao t.k),.string t.s,.int .i64 t.n,.int .i64 t.line,.nilIface,.bool false,.int .i64 0,.string ⟨#[]⟩,.int .i64 0,.int .i64 0] 232 (0,0)):=nh;have Qf:=ae alB;have fQ:=ae nD;have iG:=ae fW;have jT:=fW.size;clear nh alB nD fW x0 x1 x2 x3 g0 g1 g2 g3;refine(cY Hx.dB w2 b gt cap tb ts j _ rfl fQ.out).mono ?_;rintro e w3 ⟨rfl,pS,jq⟩;rw[HW.out]at pS|-;have sY:fJ w3 b gt cap tb ts (j+1):=pS;have nT:=ae sY;have zX:=ae ((jq.block R (by omega) h1).trans Qf.out);have kj:=ae (iG.out.trans jq (λ_ e=>.inl (.inl e)));clear pS sY jq;go_wp2_with fail;refine(zY w3 b gt cap tb ts (j+1) R 4 _ _ nT.out zX.out (by simp) h1 h2 (by omega)).mono ?_;rintro e w4 ⟨ok,j4,v,rfl,hR⟩;have HR:=ae hR;have pT:=ae (kj.out.trans hR.kept (λ_ e=>.inl e));have hd4:w4.heap[R]?=some (.cells #[.int .i64 (ao t.k),.string t.s,.int .i64 t.n,.int .i64 t.line,v,.bool false,.int .i64 0,.string ⟨#[]⟩,.int .i64 0,.int .i64 0] 232 (0,0)):=hR.box;have HD4:=ae hd4;clear hR hd4;have Lw:=λln (k)=>(by rw[ak h.lt];exact(Hx.cE (aN _ h.lt).out _ (.inl (by decide)) _ HW.out).dM k:Hx.eo abN (ts.drop j) ln)
 have Ga:=ae Lw;clear Lw
 cases ok with
 |false=>
  go_wp2_with fail;go_ret;exact⟨false,j4,rfl,HR.out.par,pT.out,(λe=>by cases e),λ_=>Ga.out _ (HR.out.bad rfl).cons⟩
 |true=>
  go_wp2_with fail;refine(yV w4 b gt cap tb ts j4 R _ _ _ _ _ HR.out.par h1 h2 HD4.out).mono ?_;rintro e w5 ⟨ok,j5,rfl,hT⟩;have HTG:=ae hT;have zm:=ae (pT.out.trans hT.kept (λ_ e=>.inl e));clear hT
  cases ok with
  |false=>
   go_wp2_with fail;go_ret;refine⟨false,j5,rfl,HTG.out.par,zm.out,(λe=>by cases e),λ_=>Ga.out _ ?_⟩;obtain⟨g,hg,hj,cR,vh⟩:=HR.out.good rfl;exact cR.dM (HTG.out.bad rfl).cons
  |true=>
   go_wp2_with fail;refine(cY Hx.t7 w5 b gt cap tb ts j5 _ rfl HTG.out.par).mono ?_;rintro e w6 ⟨rfl,hp6,DU⟩;have HP6:=ae hp6;have Gb:=ae DU;clear hp6 DU;go_wp2_with fail;go_ret;obtain⟨g,hg,hj,cR,vh⟩:=HR.out.good rfl;obtain⟨dest,hb,alC,Vn⟩:=HTG.out.good rfl;have tA:=HTG.out.par.lt;have hds:=NQ Vn;have wM:=Vm h.ok Vn;have ud:g.deep<=3001:=by have:=h.ok.oM;have:=HTG.out.par.lt;have:=NQ Vn;omega
   refine⟨_,_,rfl,HP6.out,zm.out.trans Gb.out (λ_ e=>.inl (.inl e)),λe=>⟨⟨ts[j]'h.lt,g,dest,Hx.xE (ts.drop (j+1)) (ts.drop (j4+1)),wM,ud⟩,?_,?_,?_,?_,λinn dp dear s tQ=>?_⟩,λe=>?_⟩
   ·refine(Gb.out.block R (Array.getElem?_eq_some_iff.1 hb).1 h1).trans ?_
    rw[hb,hg,HT.out];rfl
   ·grind
   ·rw[e,if_pos rfl,ak h.lt]
    refine(Hx.cE (aN _ h.lt).out _ (.inl (by decide)) _ HW.out).cons (cR.cons (alC.cons ?_));rw[ak tA];exact Hx.cE (aN _ tA).out _ (.inr (by decide)) _ e
   ·rw[e,if_pos rfl]
    exact abO h.lt HW.out (by have:=vh.vj;grind[Hx.yb]) Vn tA e wM ud
   ·rw[e,if_pos rfl]
    exact agT h.ok h.lt HW.out vh.gs Vn tA wM ud inn dp dear s tQ
   ·have hl:∀k (hk:k<ts.length),k=j5->Hx.eo abN (ts.drop j) (ts[k]).line:=by
     rintro k hk rfl;refine Ga.out _ (cR.dM (alC.dM ?_));rw[ak tA];exact Hx.jO (aN _ tA).out _ (.inr (by decide)) _ e
    grind
