/- Walks of the parser's takeVar. -/
import Derived.Test.YtdjaiolfdbamcaaGreatDoorZWPar9
set_option maxRecDepth 20000
set_option maxHeartbeats 16000000
namespace Go.Proofs.YtdjaiolfdbamcaaGreatDoor
open Go.RowKit
theorem Tryz.infoVarA:(Tryz.prog.info? 166).map (λi=>(i.zero,i.size,i.bytes))=some (some (.agg #[.int .i64 0,.string ⟨#[]⟩,.int .i64 0,.int .i64 0,.int .i64 0,.string ⟨#[]⟩,.int .i64 0,.int .i64 0,.int .i64 0,.string ⟨#[]⟩,.int .i64 0,.int .i64 0]),12,120):=by kernel_rfl
theorem tr{w:World}{A:Nat}{T:TypeId}{v0 v1 v2 v3 v4 v5 v6 v7 v8 v9 v10 v11:Value}(h:w.heap[A]?=some (.cells #[v0,v1,v2,v3,v4,v5,v6,v7,v8,v9,v10,v11] T (0,0))):
  w.cell? ⟨A,0,none⟩=some v0/\w.cell? ⟨A,1,none⟩=some v1/\w.cell? ⟨A,2,none⟩=some v2/\w.cell? ⟨A,3,none⟩=some v3/\w.cell? ⟨A,4,none⟩=some v4/\w.cell? ⟨A,5,none⟩=some v5/\w.cell? ⟨A,6,none⟩=some v6/\w.cell? ⟨A,7,none⟩=some v7/\w.cell? ⟨A,8,none⟩=some v8/\w.cell? ⟨A,9,none⟩=some v9/\w.cell? ⟨A,10,none⟩=some v10/\w.cell? ⟨A,11,none⟩=some v11:=
 ⟨Lib.cell_of_heap h 0,Lib.cell_of_heap h 1,Lib.cell_of_heap h 2,Lib.cell_of_heap h 3,Lib.cell_of_heap h 4,Lib.cell_of_heap h 5,Lib.cell_of_heap h 6,Lib.cell_of_heap h 7,Lib.cell_of_heap h 8,Lib.cell_of_heap h 9,Lib.cell_of_heap h 10,Lib.cell_of_heap h 11⟩
def k7:Hx.Tok:=⟨101,⟨#[]⟩,0,0⟩
abbrev alD:List (List UInt8):=[Hx.eE,Hx.cB,Hx.eP,Hx.KO,Hx.eP,Hx.t7]
structure Vo(w:World)(b gt cap tb:Nat)(ts:List Hx.Tok)(j V:Nat)(ok:Bool)(j':Nat)(va:az)(wx:World):Prop where
 par:fJ wx b gt cap tb ts j'
 kept:Kp (λk=>k=b) w wx
 box:wx.heap[V]?=some (.cells (fp va).toArray 166 (0,0))
 good:ok=true->j'=j+6/\Hx.Ok alD (ts.drop j) (ts.drop j')/\∃x y r,ts.drop (j+1)=va.name::va.first::x::va.last::y::r/\r=ts.drop (j+6)
 bad:ok=false->Hx.eo alD (ts.drop j) (ts[j']'par.lt).line
theorem I7(w:World)(b gt cap tb:Nat)(ts:List Hx.Tok)(j base:Nat)(vt vv vm:Value)(vs:List az)(gs:List MG)(F:Nat->Prop)(h:fJ w b gt cap tb ts j)(hv:aq (ts[j]'h.lt) Hx.eE=true)
  (hT:PT w base tb vt vs gs F vv vm) (PQ:¬F b) (pQ:¬F gt) (kz:vs.length<=3001):
  Calls Tryz.prog 154 #[.pointer (some ⟨b,0,none⟩)] w λe w'=>∃ok j' va UJ,e=.returned (.bool ok)/\∃wx,Vo w b gt cap tb ts j w.heap.size ok j' va wx/\fJ w' b gt cap tb ts j'/\PT w' base tb vt (vs++[va]) gs (fresh F w) UJ vm/\Kp (λk=>k=b\/F k) w w':=by
 have HP:=ae h;have HV:=ae hv;have HT:=ae hT;have eS:=h.own;have ck:=h.lies;have iP:=h.lt;have k8:w.heap.size≠b:=by omega
 have my:w.heap.size≠gt:=by omega
 have aN:∀i (hi:i<ts.length),Hid (Hx.Good ts[i]):=λi hi=>ae (h.ok.good _ (List.getElem_mem hi))
 clear hv hT;go_enter Tryz.func154,Tryz.ntmps154;go_upto_region 2 with(fail)
 go_cut [4]from 5 to 29 (λv4 wx=>∃ok j' va,v4=.bool ok/\Vo w b gt cap tb ts j w.heap.size ok j' va wx)
 case first=>
  have LA:∀o,Hid (fJ (w.alloc o) b gt cap tb ts j):=λo=>ae (HP.out.below ((Below.refl _ _).alloc (Nat.le_refl _) o))
  go_wp2_with fail;refine(cY Hx.eE _ b gt cap tb ts j _ rfl (LA _).out).mono ?_;rintro e w1 ⟨rfl,rD,fL⟩;rw[HV.out]at rD|-;have yO:fJ w1 b gt cap tb ts (j+1):=rD;have lc:=ae yO;have ep:w1.heap[w.heap.size]?=some (.cells (fp ⟨k7,k7,k7⟩).toArray 166 (0,0)):=(fL.block w.heap.size (by simp) k8).trans (heap_alloc_new w _);have pJ:=ae ep;have jW:Hid (Kp (λk=>k=b) w w1):=ae (((Kp.refl _ w).alloc _).trans fL (λ_ e=>.inl e));have alE:Hx.Ok [Hx.eE] (ts.drop j) (ts.drop (j+1)):=by rw[ak h.lt];exact Hx.cE (aN _ h.lt).out _ (.inl (by decide)) _ HV.out
  have nZ:=ae alE;clear rD yO fL ep alE;go_wp2_with fail;refine(iL w1 b gt cap tb ts (j+1) w.heap.size 0 _ _ 1 lc.out pJ.out (by simp[fp,lz]) k8 my (by decide)).mono ?_;intro e w2 hr;obtain rfl:=hr.ret;obtain⟨a,ha⟩:∃a,a=ts[j+1]'lc.out.lt:=⟨_,rfl⟩;have HTa:=ae ha;rw[<-ha]at hr|-
  cases n1:(ao a.k==1)with
  |false=>
   rw[n1]at hr;have HR:=ae hr;have N1:=ae n1;clear hr n1 ha;go_wp2_with fail;go_meet
   case rel=>
    have hb:=nZ.out.bad (b:=[Hx.cB,Hx.eP,Hx.KO,Hx.eP,Hx.t7]) (by rw[ak lc.out.lt,<-HTa.out];exact Hx.sC (by rw[HTa.out];exact(aN _ lc.out.lt).out) _ N1.out:Hx.eo [Hx.cB] (ts.drop (j+1)) a.line).cons;rw[HTa.out]at hb;exact⟨false,j+1,⟨k7,k7,k7⟩,rfl,HR.out.par,jW.out.trans HR.out.kept (λ_ e=>e.elim .inl (λe=>.inr (by omega))),HR.out.box,(λe=>by cases e),λ_=>hb⟩
  |true=>
   rw[n1]at hr;have ER:fJ w2 b gt cap tb ts (j+2):=hr.par;have NT:w2.heap[w.heap.size]?=some (.cells (fp ⟨a,k7,k7⟩).toArray 166 (0,0)):=hr.box;have iG:Hid (Kp (λk=>k=b) w w2):=ae (jW.out.trans hr.kept (λ_ e=>e.elim .inl (λe=>.inr (by omega))));have lu:=ae (nZ.out.app (by rw[ak lc.out.lt,<-HTa.out];exact Hx.pF (by rw[HTa.out];exact(aN _ lc.out.lt).out) _ n1:Hx.Ok [Hx.cB] (ts.drop (j+1)) (ts.drop (j+2))));have fQ:=ae ER;have Qg:=ae NT;clear hr ER NT n1 ha;go_wp2_with fail;refine(iL w2 b gt cap tb ts (j+2) w.heap.size 4 _ _ 2 fQ.out Qg.out (by simp[fp,lz]) k8 my (by decide)).mono ?_;intro e w3 hr;obtain rfl:=hr.ret;obtain⟨c,hc⟩:∃c,c=ts[j+2]'fQ.out.lt:=⟨_,rfl⟩;have HTc:=ae hc;rw[<-hc]at hr|-
   cases n2:(ao c.k==2)with
   |false=>
    rw[n2]at hr;have HR:=ae hr;have N2:=ae n2;clear hr n2 hc;go_wp2_with fail;go_meet
    case rel=>
     have hb:=lu.out.bad (b:=[Hx.eP,Hx.KO,Hx.eP,Hx.t7]) (by rw[ak fQ.out.lt,<-HTc.out];exact Hx.ES (by rw[HTc.out];exact(aN _ fQ.out.lt).out) _ N2.out:Hx.eo [Hx.eP] (ts.drop (j+2)) c.line).cons;rw[HTc.out]at hb;exact⟨false,j+2,⟨a,k7,k7⟩,rfl,HR.out.par,iG.out.trans HR.out.kept (λ_ e=>e.elim .inl (λe=>.inr (by omega))),HR.out.box,(λe=>by cases e),λ_=>hb⟩
   |true=>
    rw[n2]at hr;have ER:fJ w3 b gt cap tb ts (j+3):=hr.par;have NT:w3.heap[w.heap.size]?=some (.cells (fp ⟨a,c,k7⟩).toArray 166 (0,0)):=hr.box;have kj:Hid (Kp (λk=>k=b) w w3):=ae (iG.out.trans hr.kept (λ_ e=>e.elim .inl (λe=>.inr (by omega))));have mH:=ae (lu.out.app (by rw[ak fQ.out.lt,<-HTc.out];exact Hx.Ld (by rw[HTc.out];exact(aN _ fQ.out.lt).out) _ n2:Hx.Ok [Hx.eP] (ts.drop (j+2)) (ts.drop (j+3))));have nT:=ae ER;have Dr:=ae NT;clear hr ER NT n2 hc;go_wp2_with fail;refine(cY Hx.KO w3 b gt cap tb ts (j+3) _ rfl nT.out).mono ?_;rintro e w4 ⟨rfl,hp,hk⟩;obtain⟨x,hx⟩:∃x,x=ts[j+3]'nT.out.lt:=⟨_,rfl⟩;have HTx:=ae hx;rw[<-hx]at hp|-
    cases n3:aq x Hx.KO with
    |false=>
     rw[n3]at hp;have HR:=ae hp;have FY:=ae hk;have N3:=ae n3;clear hp hk n3 hx;go_wp2_with fail;go_meet
     case rel=>
      have hb:=mH.out.bad (b:=[Hx.KO,Hx.eP,Hx.t7]) (by rw[ak nT.out.lt,<-HTx.out];exact Hx.jO (by rw[HTx.out];exact(aN _ nT.out.lt).out) _ (.inr (by decide)) _ N3.out:Hx.eo [Hx.KO] (ts.drop (j+3)) x.line).cons;rw[HTx.out]at hb;exact⟨false,j+3,⟨a,c,k7⟩,rfl,HR.out,kj.out.trans FY.out (λ_ e=>.inl e),(FY.out.block w.heap.size (Array.getElem?_eq_some_iff.1 Dr.out).1 k8).trans Dr.out,(λe=>by cases e),λ_=>hb⟩
    |true=>
     rw[n3]at hp;have ER:fJ w4 b gt cap tb ts (j+4):=hp;have NT:=(hk.block w.heap.size (Array.getElem?_eq_some_iff.1 Dr.out).1 k8).trans Dr.out;have pT:Hid (Kp (λk=>k=b) w w4):=ae (kj.out.trans hk (λ_ e=>.inl e));have Nz:=ae (mH.out.app (by rw[ak nT.out.lt,<-HTx.out];exact Hx.cE (by rw[HTx.out];exact(aN _ nT.out.lt).out) _ (.inr (by decide)) _ n3:Hx.Ok [Hx.KO] (ts.drop (j+3)) (ts.drop (j+4))));have FI:=ae ER;have HX4:=ae NT;clear hp hk ER NT n3 hx;go_wp2_with fail;refine(iL w4 b gt cap tb ts (j+4) w.heap.size 8 _ _ 2 FI.out HX4.out (by simp[fp,lz]) k8 my (by decide)).mono ?_;intro e w5 hr;obtain rfl:=hr.ret;obtain⟨d,hd⟩:∃d,d=ts[j+4]'FI.out.lt:=⟨_,rfl⟩;have HTd:=ae hd;rw[<-hd]at hr|-
     cases n4:(ao d.k==2)with
     |false=>
      rw[n4]at hr;have HR:=ae hr;have N4:=ae n4;clear hr n4 hd;go_wp2_with fail;go_meet
      case rel=>
       have hb:=Nz.out.bad (b:=[Hx.eP,Hx.t7]) (by rw[ak FI.out.lt,<-HTd.out];exact Hx.ES (by rw[HTd.out];exact(aN _ FI.out.lt).out) _ N4.out:Hx.eo [Hx.eP] (ts.drop (j+4)) d.line).cons;rw[HTd.out]at hb;exact⟨false,j+4,⟨a,c,k7⟩,rfl,HR.out.par,pT.out.trans HR.out.kept (λ_ e=>e.elim .inl (λe=>.inr (by omega))),HR.out.box,(λe=>by cases e),λ_=>hb⟩
     |true=>
      rw[n4]at hr;have ER:fJ w5 b gt cap tb ts (j+5):=hr.par;have NT:w5.heap[w.heap.size]?=some (.cells (fp ⟨a,c,d⟩).toArray 166 (0,0)):=hr.box;have zm:Hid (Kp (λk=>k=b) w w5):=ae (pT.out.trans hr.kept (λ_ e=>e.elim .inl (λe=>.inr (by omega))));have HO5:=ae (Nz.out.app (by rw[ak FI.out.lt,<-HTd.out];exact Hx.Ld (by rw[HTd.out];exact(aN _ FI.out.lt).out) _ n4:Hx.Ok [Hx.eP] (ts.drop (j+4)) (ts.drop (j+5))));have Kk:=ae ER;have HX5:=ae NT;clear hr ER NT n4 hd;go_wp2_with fail;refine(cY Hx.t7 w5 b gt cap tb ts (j+5) _ rfl Kk.out).mono ?_;rintro e w6 ⟨rfl,hp,hk⟩;obtain⟨y,hy⟩:∃y,y=ts[j+5]'Kk.out.lt:=⟨_,rfl⟩;have HTy:=ae hy;rw[<-hy]at hp|-
      cases n5:aq y Hx.t7 with
      |false=>
       rw[n5]at hp;have HR:=ae hp;have FY:=ae hk;have N5:=ae n5;clear hp hk n5 hy;go_wp2_with fail;go_meet
       case rel=>
        have hb:=HO5.out.bad (b:=[Hx.t7]) (by rw[ak Kk.out.lt,<-HTy.out];exact Hx.jO (by rw[HTy.out];exact(aN _ Kk.out.lt).out) _ (.inr (by decide)) _ N5.out:Hx.eo [Hx.t7] (ts.drop (j+5)) y.line);rw[HTy.out]at hb;exact⟨false,j+5,⟨a,c,d⟩,rfl,HR.out,zm.out.trans FY.out (λ_ e=>.inl e),(FY.out.block w.heap.size (Array.getElem?_eq_some_iff.1 HX5.out).1 k8).trans HX5.out,(λe=>by cases e),λ_=>hb⟩
      |true=>
       rw[n5]at hp;have ER:fJ w6 b gt cap tb ts (j+6):=hp;have NT:=(hk.block w.heap.size (Array.getElem?_eq_some_iff.1 HX5.out).1 k8).trans HX5.out;have Gb:Hid (Kp (λk=>k=b) w w6):=ae (zm.out.trans hk (λ_ e=>.inl e));have HO6:=ae (HO5.out.app (by rw[ak Kk.out.lt,<-HTy.out];exact Hx.cE (by rw[HTy.out];exact(aN _ Kk.out.lt).out) _ (.inr (by decide)) _ n5:Hx.Ok [Hx.t7] (ts.drop (j+5)) (ts.drop (j+6))));have HP6:=ae ER;have HX6:=ae NT;clear hp hk ER NT n5 hy;go_wp2_with fail;go_meet
       case rel=>
        refine⟨true,j+6,⟨a,c,d⟩,rfl,HP6.out,Gb.out,HX6.out,λ_=>⟨rfl,HO6.out,x,y,_,?_,rfl⟩,(λe=>by cases e)⟩;rw[ak lc.out.lt,ak fQ.out.lt,ak nT.out.lt,ak FI.out.lt,ak Kk.out.lt,<-HTa.out,<-HTc.out,<-HTx.out,<-HTd.out,<-HTy.out]
 case rest=>
  obtain⟨ok,j',va,rfl,hC⟩:=hcut;have HC:=ae hC;have om:PT wc base tb vt vs gs F vv vm:=HT.out.kept hC.kept (λk hF e=>PQ (e▸hF));have rP:=ae om;obtain⟨x0,x1,x2,x3,x4,x5,x6,x7,x8,x9,x10,x11⟩:=tr (w:=wc) (A:=w.heap.size) hC.box;have p2:=jr hC.par.box;have hO:=om.mem.own 1 _ rfl;simp only at hO;obtain⟨av,cv,nR,_,_⟩:=aj hO;obtain⟨c0,c1,c2,cf,ctb,ctl,cF⟩:=om.cells;rw[nR]at c1;have c1f:=cf 1;have HO:=ae hO;have lx:=om.low;have hzz:=hC.kept.size;have hVl:w.heap.size<wc.heap.size:=(Array.getElem?_eq_some_iff.1 hC.box).1;have aby:=hC.par.own;clear hC om hO cf c0 c2;obtain⟨i0,dl,eu,dA,eg⟩:=info_parts Tryz.infoVarA;have H1C:Hid (∀u∈fp va,u.oneCell'=true):=ae (by intro u hu;simp[fp,lz]at hu;rcases hu with rfl|rfl|rfl|rfl|rfl|rfl|rfl|rfl|rfl|rfl|rfl|rfl<;>rfl);have HML:Hid (vs.length+1<=maxLen):=ae (by unfold maxLen;omega);have fR:Hid ((vs.length+1)*120<=140737488355328):=ae (by omega);go_wp2_with fail
  go_region_law (refine aD rfl _ _ 84 rfl base 166 i0 _ 12 120 Tryz.underlying84 dl eu dA eg rfl (by decide) _ vs.length (vs.flatMap fp) nR.symm (by exact ah HO.out ⟨rfl,rfl,rfl,by simp,λk hk=>Below.heap_alloc _ _ _ hk⟩) ⟨_,0,none⟩ 1 1 (fp va) rfl rfl (aF _ _ (by simp) (fp va) _) H1C.out HML.out fR.out (by simp;omega) ?_;intro v' w7 bE ax bu;obtain⟨Ge,Gf,rfl,_,_⟩:=aj bE;have p7:=ax.cell (a:=⟨b,2,none⟩) (by exact(((Below.refl _ _).alloc (Nat.le_refl _) _).cell aby).trans p2) (λe=>PQ (rP.out.vF b ⟨1,_,rfl,e.symm⟩));obtain⟨jy,uQ,e5,e6⟩:=PT.addVar (x:=va) (rP.out.below (by exact⟨rfl,rfl,rfl,by simp,λk hk=>Below.heap_alloc _ _ _ hk⟩)) ax bE bu;rw[nR]at e5;have jc:=ae jy;have vo:=ae uQ;clear jy uQ bE ax bu)
  all_goals
   have kc:=HC.out.kept.size;have qg:Below wc.heap.size wc (wc.drew.alloc (.cells (fp va).toArray 166)):=⟨rfl,rfl,rfl,by simp,λk hk=>Below.heap_alloc _ _ _ hk⟩;have UN:=(HC.out.par.below qg).kp vo.out PQ pQ;have NM:=((HC.out.kept.mono (G:=λk=>k=b\/F k) (λ_ _ e=>.inl e)).below qg).trans vo.out (λ_ h=>.inl (.inr h));have uC:=jc.out.mono (G:=fresh F w) (λk h=>h.elim .inl (λh=>.inr (by have:(wc.drew.alloc (.cells (fp va).toArray 166)).heap.size<=k:=h;simp at this;omega)));have HE:=ae (And.intro UN (And.intro uC NM));clear UN NM uC jc vo e5 e6 qg;go_wp2_with fail;go_ret;exact⟨ok,j',va,_,rfl,wc,HC.out,HE.out⟩
