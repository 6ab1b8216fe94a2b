/- Walks of helmref's number and sameToks. -/
import Derived.Test.YtdjaiolfdbamcaaGreatDoorZWTabs
set_option maxRecDepth 20000
set_option maxHeartbeats 4000000
namespace Go.Proofs.YtdjaiolfdbamcaaGreatDoor
variable {w:World}{gt i:Nat}{r ts:List Hx.Tok}{F:Nat->Prop}{a b t:Hx.Tok}{y:List UInt8}
section
open Go.RowKit
theorem rq(w:World)(base bx:Nat)(vt:Value)(gt:Nat)(ts:List Hx.Tok)(s:Hx.St)(F:Nat->Prop)(t:Hx.Tok)(least:Int)(h:db w base bx vt gt ts s F):
  Calls Tryz.prog 142 #[.pointer (some ⟨bx,0,none⟩),ii t,.int .i64 least] w λe w'=>e=.returned (.int .i64 t.n)/\l5 w base bx vt gt ts F w' (s.number t least):=by
 have HT:=ae h.tight;clear h;have hne:¬tight F w w.heap.size:=λh=>Nat.lt_irrefl _ h.2
 have key:∀(b:Bool)(w1:World),(Hid (s.number t least=s.aS b 4 t.line))->l5 (w.alloc (.cells #[.int .u8 t.k,.string t.s,.int .i64 t.n,.int .i64 t.line] 130)) base bx vt gt ts (tight F w) w1 (s.aS b 4 t.line)->
   l5 w base bx vt gt ts F w1 (s.number t least)/\w1.cell? ⟨w.heap.size,2,none⟩=some (.int .i64 t.n):=by
  intro b w1 hb hr;refine⟨by rw[hb.out];exact l5.step ((Kp.refl _ _).alloc _) _ vD hr,?_⟩;rw[hr.2.cell (by simp) hne];simp
 have HK:=ae key;clear key hne;unfold ii
 by_cases h1:1000<t.n
 ·have HN:=ae (show s.number t least=s.aS true 4 t.line by simp[Hx.St.number,Hx.lT,h1])
  go_enter Tryz.func142,Tryz.ntmps142;go_wp2_with fail;refine(dI _ base bx vt gt ts s _ true 4 t (HT.out.alloc _)).mono ?_;rintro e w1 ⟨rfl,hr,_⟩;obtain⟨k1,k2⟩:=HK.out true w1 HN hr;have K1:=ae k1;clear k1 hr;go_wp2;go_ret;exact⟨rfl,K1.out⟩
 ·have h1':decide (1000<t.n)=false:=by simpa using h1
  by_cases h2:t.n< -1000
  ·have HN:=ae (show s.number t least=s.aS true 4 t.line by simp[Hx.St.number,Hx.lT,h2])
   go_enter Tryz.func142,Tryz.ntmps142;go_wp2_with fail;refine(dI _ base bx vt gt ts s _ true 4 t (HT.out.alloc _)).mono ?_;rintro e w1 ⟨rfl,hr,_⟩;obtain⟨k1,k2⟩:=HK.out true w1 HN hr;have K1:=ae k1;clear k1 hr;go_wp2;go_ret;exact⟨rfl,K1.out⟩
  ·have h2':decide (t.n< -1000)=false:=by simpa using h2
   have HN:=ae (show s.number t least=s.aS (decide (t.n<least)) 4 t.line by grind[Hx.St.number,Hx.lT]);go_enter Tryz.func142,Tryz.ntmps142;go_wp2_with fail;refine(dI _ base bx vt gt ts s _ (decide (t.n<least)) 4 t (HT.out.alloc _)).mono ?_;rintro e w1 ⟨rfl,hr,_⟩;obtain⟨k1,k2⟩:=HK.out _ w1 HN hr;have K1:=ae k1;clear k1 hr;go_wp2;go_ret;exact⟨rfl,K1.out⟩
def br(w:World)(gt:Nat)(ts:List Hx.Tok):Prop:=∀i (hi:i<ts.length),
 w.cell? ⟨gt,i*4,none⟩=some (.int .u8 ts[i].k)/\w.cell? ⟨gt,i*4+1,none⟩=some (.string ts[i].s)/\w.cell? ⟨gt,i*4+2,none⟩=some (.int .i64 ts[i].n)/\w.cell? ⟨gt,i*4+3,none⟩=some (.int .i64 ts[i].line)
theorem br.shift(h:br w gt ts)(o i:Nat)(hi:o+i<ts.length):
  w.cell? ⟨gt,o*4+i*4,none⟩=some (.int .u8 ts[o+i].k)/\w.cell? ⟨gt,o*4+i*4+1,none⟩=some (.string ts[o+i].s)/\w.cell? ⟨gt,o*4+i*4+2,none⟩=some (.int .i64 ts[o+i].n)/\w.cell? ⟨gt,o*4+i*4+3,none⟩=some (.int .i64 ts[o+i].line):=by
 rw[<-Nat.add_mul];exact h (o+i) hi
theorem U4(w:World)(gt:Nat)(ts:List Hx.Tok)(hm:br w gt ts)(hl:ts.length<=3001)(hk:∀t∈ts,t.k<256)(o1 n1 c1 o2 n2 c2:Nat)(h1:o1+n1<=ts.length)(h2:o2+n2<=ts.length):
  Calls Tryz.prog 216 #[.slice (some ⟨gt,o1*4,none⟩) n1 c1,.slice (some ⟨gt,o2*4,none⟩) n2 c2] w λe w'=>e=.returned (.bool (Hx.dj ((ts.drop o1).take n1) ((ts.drop o2).take n2)))/\∃k,w'=w.drewN k:=by
 have HM:=ae hm;have FY:=ae hk;clear hm hk
 by_cases hn:n1=n2
 ·subst hn
  have l1:((ts.drop o1).take n1).length=n1:=by simp;omega
  have l2:((ts.drop o2).take n1).length=n1:=by simp;omega
  have L1:=ae l1;have L2:=ae l2;clear l1 l2;have hne:((n1) !=(n1:Int))=false:=by simp
  go_enter Tryz.func216,Tryz.ntmps216;go_wp2
  go_loopw [5] (λvi wq=>∃i k:Nat,i<=n1/\vi=.int .i64 i/\Hx.dj ((ts.drop o1).take n1) ((ts.drop o2).take n1)=Hx.dj (((ts.drop o1).take n1).drop i) (((ts.drop o2).take n1).drop i)/\wq=w.drewN k) (λvi _=>n1-(intOf vi).toNat)
  case atStart=>exact⟨0,0,Nat.zero_le _,rfl,rfl,rfl⟩
  case round=>
   obtain⟨i,k,hi,rfl,hs,rfl⟩:=hrel;have HS:=ae hs;clear hs
   by_cases hlt:i<n1
   ·obtain⟨a0,a1,_,_⟩:=HM.out.shift o1 i (by omega)
    obtain⟨b0,b1,_,_⟩:=HM.out.shift o2 i (by omega);have kx:=FY.out _ (List.getElem_mem (show o1+i<ts.length by omega));have ky:=FY.out _ (List.getElem_mem (show o2+i<ts.length by omega));have e1:((ts.drop o1).take n1)[i]'(by grind)=ts[o1+i]:=by simp
    have e2:((ts.drop o2).take n1)[i]'(by grind)=ts[o2+i]:=by simp
    have hst:=Hx.Ox ((ts.drop o1).take n1) ((ts.drop o2).take n1) i (by grind) (by grind);rw[e1,e2]at hst;have lj:=ae hst;clear hst e1 e2;generalize ts[o1+i]=x at*;generalize ts[o2+i]=y at*;have ayY:(i:Int)<n1:=by omega
    cases g1:((x.k:Int) !=(y.k:Int))with
    |true=>
     have HF:=ae (show Hx.fe x y=false by grind[Bool.and_eq_false_iff,Hx.fe]);go_wp2
     go_quiet (fail)
     go_wp2;go_ret;exact⟨bC (by rw[HS.out,lj.out,HF.out];rfl),_,World.drewN_drewN _ _ _⟩
    |false=>
     cases g2:(x.s.toList==y.s.toList)with
     |false=>
      have HF:=ae (show Hx.fe x y=false by grind[Hx.fe]);have g2':(x.s.toList !=y.s.toList)=true:=by simp[bne,g2]
      go_wp2
      go_quiet (fail)
      go_wp2;go_ret;exact⟨bC (by rw[HS.out,lj.out,HF.out];rfl),_,World.drewN_drewN _ _ _⟩
     |true=>
      have HF:=ae (show Hx.fe x y=true by grind[Hx.fe]);have g2':(x.s.toList !=y.s.toList)=false:=by simp[bne,g2]
      go_wp2
      go_quiet (fail)
      go_wp2
      go_roundw
      case rel=>exact⟨i+1,_,by omega,by go_num,by rw[HS.out,lj.out,HF.out];rfl,rfl⟩
      case measure=>grind[intOf]
   ·have HE:=ae (Hx.Sf ((ts.drop o1).take n1) ((ts.drop o2).take n1) i (by grind) (by grind))
    go_wp2;go_ret;exact⟨bC (by rw[HS.out,HE.out]),_,rfl⟩
 ·have hne:((n1) !=(n2:Int))=true:=by simp;omega
  have HF:=ae (Hx.Se ((ts.drop o1).take n1) ((ts.drop o2).take n2) (by grind));go_enter Tryz.func216,Tryz.ntmps216;go_wp2;go_ret;exact⟨bC HF.out.symm,0,rfl⟩
theorem Tryz.infoAtoms:(Tryz.prog.info? 112).map (λi=>(i.zero,i.size,i.bytes))=some (some (.slice none 0 0),1,24):=by kernel_rfl
theorem br.kept{w':World}(h:br w gt ts)(hk:Kp F w w')(hl:gt<w.heap.size)(hn:¬F gt):br w' gt ts:=by
 intro i hi;obtain⟨h1,h2,h3,h4⟩:=h i hi;exact⟨(hk.cell hl hn).trans h1,(hk.cell hl hn).trans h2,(hk.cell hl hn).trans h3,(hk.cell hl hn).trans h4⟩
theorem br.drewN(h:br w gt ts)(n:Nat):br (w.drewN n) gt ts:=h
theorem yI(w:World)(base bx:Nat)(vt:Value)(gt:Nat)(ts:List Hx.Tok)(s:Hx.St)(F:Nat->Prop)(h:db w base bx vt gt ts s F)(hm:br w gt ts)(hl:ts.length<=3001)(cR:∀t∈ts,Hx.lD t)
  (ip:gt<w.heap.size) (qp:¬F gt) (o m c:Nat) (h4:o+(m+3)<=ts.length) (hc:m+3<=c) (tJ:s.vars.length<=10000) (Xn:s.atoms.length<=10000):
  Calls Tryz.prog 186 #[.pointer (some ⟨bx,0,none⟩),.slice (some ⟨gt,o*4,none⟩) (m+3) c] w λe w'=>e=.returned (.tuple #[])/\l5 w base bx vt gt ts F w' (s.atom ((ts.drop o).take (m+3)) (ts[o+m]'(by omega)) (ts[o+(m+2)]'(by omega))):=by
 obtain⟨g,hT,hF⟩:=h;obtain⟨_,_,_,c3,_⟩:=hT.cellAt;obtain⟨vv,vm,va,ms,ats⟩:=g;have hr:(bL bx vt ⟨vv,vm,va,ms,ats⟩ s)[3]?=some ⟨112,1,ats.length,va,ats.map (·.1)⟩:=rfl;have ho:=hT.mem.own 3 _ hr;have abs:=hT.atoms;simp only at abs;have alo:s.atoms.length=ats.length:=by rw[<-abs];simp
 obtain⟨av,cv,hv,_,_⟩:=dv ho;simp only at hv c3;subst hv;have oX:∀i (hi:i<ats.length),∃gv oo nn cc,av=some ⟨gv,0,none⟩/\w.cell? ⟨gv,i,none⟩=some (.slice (some ⟨gt,oo*4,none⟩) nn cc)/\oo+nn<=ts.length/\s.atoms[i]'(by omega)=(ts.drop oo).take nn:=by
  intro i hi;obtain⟨gv,cap,he,_,_,_,_,hcc⟩:=aR ho (by grind);simp only [Value.slice.injEq]at he;have h1:=hcc i (by grind);obtain⟨oo,cc,e1,e2,e3,_⟩:=hT.slices ats[i] (List.getElem_mem hi);refine⟨gv,oo,_,cc,he.1,?_,e2,?_⟩
  ·grind
  ·grind
 have HC:=ae oX;have HT:Hid (db w base bx vt gt ts s (tight F w)):=db.tight ⟨_,hT,hF⟩;have HM:=ae hm;have pf:=ae cR;have nB:=ae qp;have aq5:=hT.place.2;clear oX ho hr hT hF hm cR qp abs;go_enter Tryz.func186,Tryz.ntmps186;go_wp2
 go_loopw [5] (λvi wq=>∃i q:Nat,i<=ats.length/\vi=.int .i64 i/\wq=w.drewN q/\s.atoms.any (λa=>Hx.dj a ((ts.drop o).take (m+3)))=(s.atoms.drop i).any (λa=>Hx.dj a ((ts.drop o).take (m+3)))) (λvi _=>ats.length-(intOf vi).toNat)
 case atStart=>exact⟨0,0,Nat.zero_le _,rfl,rfl,rfl⟩
 case round=>
  obtain⟨i,q,hi,rfl,rfl,hs⟩:=hrel;have HS:=ae hs;clear hs
  by_cases hlt:i<ats.length
  ·obtain⟨gv,oo,nn,cc,rfl,hcell,hoo,bu⟩:=HC.out i hlt
   have HAT:=ae bu;clear bu;go_wp2_with fail;refine(U4 _ gt ts (HM.out.drewN q) hl (λt ht=>(pf.out t ht).kind) oo nn cc o (m+3) c hoo h4).mono ?_;rintro e w1 ⟨rfl,k1,rfl⟩
   cases hsm:Hx.dj ((ts.drop oo).take nn) ((ts.drop o).take (m+3))with
   |true=>
    have HA:=ae (show s.atom ((ts.drop o).take (m+3)) (ts[o+m]'(by omega)) (ts[o+(m+2)]'(by omega))=s by
     rw[Hx.St.atom,if_pos];rw[HS.out];exact Hx.wG _ _ i (by omega) (by rw[HAT.out];exact hsm))
    clear hsm;go_wp2;refine bodyPost_ret (results_none rfl _ _ _) rfl ?_;exact⟨rfl,by rw[HA.out];exact⟨(HT.out.drewN _).mono (λk hk=>Or.inl hk.1),(Kp.refl _ _).drewN _⟩⟩
   |false=>
    have HA:=ae (HS.out.trans (Hx.kP _ _ i (by omega) (by rw[HAT.out];exact hsm)));clear hsm;go_wp2
    go_roundw
    case rel=>exact⟨i+1,q+k1,by omega,by go_num,rfl,HA.out⟩
    case measure=>grind[intOf]
  ·have HA:=ae (HS.out.trans (Hx.wH _ _ i (by omega)))
   clear HC HS;have hgT:¬tight F w gt:=λh=>nB.out h.1
   have hn8:(((ats.length):Int)==8)=(s.atoms.length==8):=by rw[alo,Bool.eq_iff_iff];simp;omega
   have HN8:=ae hn8;clear hn8;obtain⟨x0,x1,x2,x3⟩:=HM.out.shift o m (by omega);have hm0:(0)<=(m:Int):=by omega
   have hm3:(m)<(m:Int)+3:=by omega
   have hwm:IntKind.i64.wrap ((m))=(m):=IntWalk.i64_in _ (by omega);go_wp2_with fail;refine(yJ _ base bx vt gt ts s _ _ (HT.out.drewN q) tJ).mono ?_;rintro e w1 ⟨rfl,rfl⟩;go_wp2_with fail;generalize nU:ts[o+m]'(by omega)=nm at*;have zh:=ae nU;clear nU
   go_region_held3 (λW=>W.cell? ⟨bx,3,none⟩=some (.slice av ats.length cv)/\W.cell? ⟨gt,o*4+m*4,none⟩=some (.int .u8 nm.k)/\W.cell? ⟨gt,o*4+m*4+1,none⟩=some (.string nm.s)/\W.cell? ⟨gt,o*4+m*4+2,none⟩=some (.int .i64 nm.n)/\W.cell? ⟨gt,o*4+m*4+3,none⟩=some (.int .i64 nm.line)) (first|go_keep|(exact⟨by assumption,by assumption,by assumption,by assumption,by assumption⟩))
    ((go_at_call 140;refine(dI _ base bx vt gt ts s (tight F w) _ 1 nm ?_).mono ?_;exact HT.out.below ⟨rfl,rfl,rfl,Nat.le_refl _,λ_ _=>rfl⟩;rintro e w1 ⟨rfl,dw,iH⟩;have z3:=(iH 3 (by omega)).trans c3;have z4:=(dw.2.cell ip hgT).trans x0;have z5:=(dw.2.cell ip hgT).trans x1;have z6:=(dw.2.cell ip hgT).trans x2;have z7:=(dw.2.cell ip hgT).trans x3))
   generalize hb8:(((ats.length:Nat):Int)==8)=b8 at*;have HB8:=ae hb8;clear hb8 x0 x1 x2 x3;have zk:=ae dw;clear dw;have DK:=Nat.lt_of_lt_of_le ip zk.out.2.size;have hF1:¬fresh (tight F w) (w.drewN (q+1)) gt:=λh=>h.elim hgT (λh=>by simp at h;omega)
   go_wp2_with fail;refine(dI _ base bx vt gt ts _ _ _ 3 nm zk.out.1).mono ?_;rintro e w2 ⟨rfl,fv,lQ⟩;have mR:=ae fv;have rF:=Nat.lt_of_lt_of_le DK mR.out.2.size;have hF2:¬fresh (fresh (tight F w) (w.drewN (q+1))) w1 gt:=λh=>h.elim hF1 (λh=>by omega)
   have Ra:=(((HM.out.drewN (q+1)).kept zk.out.2 ip hgT).kept mR.out.2 DK hF1);obtain⟨y0,y1,y2,y3⟩:=Ra.shift o (m+2) (by omega);have Rh:=ae Ra;clear fv Ra z4 z5 z6 z7 z3 lQ;generalize vZ:ts[o+(m+2)]'(by omega)=num at*;have aq7:=ae vZ;clear vZ;have ey:((m)+3-1)=((m+2:Nat):Int):=by omega
   go_wp2_with fail;refine(rq _ base bx vt gt ts _ _ num (-1000) mR.out.1).mono ?_;rintro e w3 ⟨rfl,ft⟩;obtain⟨⟨g3,Rf,Nt⟩,jq⟩:=ft;obtain⟨_,_,_,d3,_⟩:=Rf.cellAt;have f3:=Rf.free 3;have pS:=Rf.place.2;have nL:=ae Rf;have TI:=ae Nt;have kj:=ae jq;have au3:=Rf.low;clear Rf Nt jq y0 y1 y2 y3;obtain⟨i0,dl,eu,dA,eg⟩:=info_parts Tryz.infoAtoms;have ft:(bL bx vt g3 (((s.aS b8 1 nm.line).aS (decide (Hx.place nm.s 0 (s.vars.map (·.name))<0)) 3 nm.line).number num (-1000)))[3]?=some ⟨112,1,g3.ats.length,g3.va,g3.ats.map (·.1)⟩:=rfl;have fZ:=nL.out.mem.own 3 _ ft;have mH:=ae fZ;clear fZ ft;have QO:g3.ats.length<=10000:=by
    have:=nL.out.atoms;rw[Hx.St.iU,Hx.St.bN,Hx.St.bN]at this;have:=congrArg List.length this;simp at this;omega
   go_wp2_with (at_builtin;refine wpList_append_own_at _ rfl _ _ 115 rfl base 112 i0 _ 1 24 Tryz.underlying115 dl eu dA eg rfl (by decide) _ _ _ rfl (mH.out.alloc _) ⟨_,0,none⟩ 1 1 [.slice (some ⟨gt,o*4,none⟩) (m+3) c] rfl rfl ?c1 ?c2 ?c3 ?c4 ?c5 ?_)
   case c1=>simp_all[aF]
   case c2=>intro u hu;simp at hu;subst hu;rfl
   case c3=>unfold maxLen;omega
   case c4=>omega
   case c5=>simp;omega
   intro v' w4 bE ax _ bu;obtain⟨av4,cv4,rfl,_,_⟩:=dv bE;obtain⟨jy,e3,e4⟩:=(nL.out.below ((Below.refl _ _).alloc (Nat.le_refl _) _)).addAtom TI.out ax bE (by simp_all) (Jj gt ts o (m+3) c h4 hc (by omega));have jc:=ae jy;clear jy ax bE bu;go_wp2;go_end0;have k1:=((Kp.refl F w).drewN _).trans zk.out.2 vD;have q1:∀k,fresh (tight F w) (w.drewN (q+1)) k->F k\/w.heap.size<=k:=λk hk=>hk.elim (λh=>.inl h.1) (λh=>.inr h)
   have k2:=k1.trans mR.out.2 q1;have q2:∀k,fresh (fresh (tight F w) (w.drewN (q+1))) w1 k->F k\/w.heap.size<=k:=λk hk=>hk.elim (q1 k) (λh=>.inr (Nat.le_trans k1.size h))
   have k3:=k2.trans kj.out q2;have q3:∀k,fresh (fresh (fresh (tight F w) (w.drewN (q+1))) w1) w2 k->F k\/w.heap.size<=k:=λk hk=>hk.elim (q2 k) (λh=>.inr (Nat.le_trans k2.size h))
   refine⟨rfl,?_⟩;rw[zh.out,aq7.out,Hx.St.rZ _ _ _ _ HA.out];have hb8:=HN8.out;rw[<-hb8,<-Hx.Sg];exact l5.step (k3.alloc _) _ q3 jc.out
def alp(ts:List Hx.Tok)(w:World)(base bx:Nat)(vt:Value)(gt:Nat)(F:Nat->Prop)(R:Hx.St×List Hx.Tok)(nv i0 k:Nat)(v1 v5:Value)(wr:World):Prop:=
 ∃(i:Nat)(p:Hx.Tok)(deep:Int)(s:Hx.St),v1=.int .i64 i/\v5=.int .i64 deep/\1<=i/\i<=ts.length/\i0<=i/\ts[i-1]?=some p/\-(i:Int)<=deep/\deep<=i/\Hx.gF k p (ts.drop i) deep s=some R/\
  s.vars.length=nv/\s.atoms.length<=i/\db wr base bx vt gt ts s (fresh F w)/\Kp F w wr/\br wr gt ts
theorem tz{wr w2:World}{base bx:Nat}{vt:Value}{s2:Hx.St}(hk:Kp F w wr)(o:Obj)(h:l5 (wr.alloc o) base bx vt gt ts (fresh F w) w2 s2)(hm:br wr gt ts)(ip:gt<w.heap.size)(qp:¬F gt):
  db w2 base bx vt gt ts s2 (fresh F w)/\Kp F w w2/\br w2 gt ts:=by
 have fL:=hk.alloc o;have hlt:=Nat.lt_of_lt_of_le ip hk.size;refine⟨h.1.mono (λk hq=>hq.elim id (λh=>.inr (Nat.le_trans fL.size h))),fL.trans h.2 (λ_ h=>h),?_⟩;have Q0:=hm.kept (F:=λ_=>False) ((Kp.refl _ _).alloc o) hlt (λh=>h);exact Q0.kept h.2 (Nat.lt_of_lt_of_le hlt (by simp)) (λh=>h.elim qp (λh=>by omega))
theorem kK(h:i<ts.length):ts[i+1-1]?=some ts[i]:=by simp[h]
theorem FD:(((t.k:Int)==115)&&(t.s.toList==y))=Hx.isS t y:=by
 rw[Hx.isS,Lib.toList_data];grind
theorem L9:(((t.k:Int)==119)&&(t.s.toList==y))=Hx.eQ t y:=by
 rw[Hx.eQ,Lib.toList_data];grind
theorem Jk(h1:ts.drop i=t::ts.drop (i+1))(h2:ts.drop (i+1)=a::b::r):
  (ts.drop i).take (0+3)=[t,a,b]/\ts[i+0]?=some t/\ts[i+(0+2)]?=some b/\ts.drop (i+3)=r/\ts[i+3-1]?=some b:=by
 have h3:ts.drop i=t::a::b::r:=by rw[h1,h2]
 have g:∀k,ts[i+k]?=(t::a::b::r)[k]?:=λk=>by grind
 refine⟨by grind,by rw[g];rfl,by grind,?_,?_⟩
 ·have:ts.drop (i+3)=(ts.drop i).drop 3:=by rw[List.drop_drop]
  grind
 grind
theorem abt{p:Hx.Tok}(h0:ts.drop i=p::ts.drop (i+1))(h1:ts.drop (i+1)=t::ts.drop (i+1+1))(h2:ts.drop (i+1+1)=a::b::r):
  (ts.drop i).take (1+3)=[p,t,a,b]/\ts[i+1]?=some t/\ts[i+(1+2)]?=some b:=by
 have h3:ts.drop i=p::t::a::b::r:=by rw[h0,h1,h2]
 have g:∀k,ts[i+k]?=(p::t::a::b::r)[k]?:=λk=>by grind
 grind
theorem l6(hi:i<ts.length)(h:ts[i]?=some t):ts[i]=t:=Option.some.inj ((List.getElem?_eq_getElem hi).symm.trans h)
theorem P9(w:World)(base bx:Nat)(gt bP:Nat)(ts:List Hx.Tok)(s:Hx.St)(F:Nat->Prop)(h:db w base bx (.slice (some ⟨gt,0,none⟩) ts.length bP) gt ts s F)(hm:br w gt ts)(hl:ts.length<=3001)(cR:∀t∈ts,Hx.lD t)
  (ip:gt<w.heap.size) (qp:¬F gt) (II:ts.length<=bP) (i n:Nat) (p:Hx.Tok) (h1:1<=i) (hi:i<=ts.length) (hp:ts[i-1]?=some p) (R:Hx.St×List Hx.Tok) (hg:Hx.gF n p (ts.drop i) 0 s=some R) (tJ:s.vars.length<=10000) (Xn:s.atoms.length<=i):
  Calls Tryz.prog 144 #[.pointer (some ⟨bx,0,none⟩),.int .i64 i] w λe w'=>∃j:Nat,e=.returned (.int .i64 j)/\j<=ts.length/\i<=j/\ts.drop j=R.2/\l5 w base bx (.slice (some ⟨gt,0,none⟩) ts.length bP) gt ts F w' R.1:=by
 have H0:Hid (alp ts w base bx (.slice (some ⟨gt,0,none⟩) ts.length bP) gt F R s.vars.length i n (.int .i64 i) (.int .i64 0) w):=⟨i,p,0,s,rfl,rfl,h1,hi,Nat.le_refl _,hp,by omega,by omega,hg,rfl,Xn,h.mono (λ_ h=>.inl h),Kp.refl _ _,hm⟩;have pf:=ae cR;have nB:=ae qp;generalize s.vars.length=nv at*;clear h hm cR qp hg hp Xn s p h1;go_enter Tryz.func144,Tryz.ntmps144;go_wp2
 go_loopg [1,5] n (λk v1 v5 wr=>alp ts w base bx (.slice (some ⟨gt,0,none⟩) ts.length bP) gt F R nv i k v1 v5 wr)
 case atStart=>exact H0.out
 case round=>
  obtain⟨j,p,deep,s,rfl,rfl,Ri,iP,Kd,hp,zQ,nh,hg,hnv,Xn,hT,hk,hm⟩:=hrel;clear H0;obtain⟨f,rfl⟩:∃f,gk=f+1:=by
   cases gk with
   |zero=>simp[Hx.gF]at hg
   |succ k=>simp
  have hlt:j<ts.length:=by
   by_cases h:j<ts.length
   ·exact h
   ·rw[List.drop_of_length_le (by omega)]at hg
    simp[Hx.gF]at hg
  have d9:=List.drop_eq_getElem_cons hlt;rw[d9]at hg;obtain⟨c0,c1,c2,c3⟩:=hm j hlt;have cR:=pf.out ts[j] (List.getElem_mem hlt);have aed:=kK hlt;have U5:=hT;obtain⟨g,vE,om⟩:=U5;have b0:=vE.cellAt.1;have eS:=vE.place.2;have ck:=Nat.lt_of_lt_of_le ip hk.size;clear vE om;generalize ts[j]=t at*;have HG:=ae hg;have HT:=ae hT;have HK:=ae hk;have HM:=ae hm;have HP:=ae hp;have HD:=ae d9;have HPV:=ae aed;have Jl:=cR.kind;have hsz:=cR.size;have HBL:=ae cR.blank;have HV:=ae hnv;clear hg hT hk hm hp d9 aed cR hnv
  cases e1:Hx.isS t Hx.jY with
  |true=>
   have HN:=ae (Hx.ZN HG.out e1);rw[<-FD,Bool.and_eq_true]at e1;obtain⟨a1,a2⟩:=e1;go_wp2_with fail;refine(dI _ base bx _ gt ts s (fresh F w) _ 1 t (HT.out.alloc _)).mono ?_;rintro e w2 ⟨rfl,hr,_⟩;have HX:=ae (tz HK.out _ hr HM.out ip nB.out);clear hr;go_wp2
   go_roundg f
   case measure=>omega
   case rel=>exact⟨j+1,t,deep+1,_,by go_num,by go_num,by omega,by omega,by omega,HPV.out,by omega,by omega,HN.out,by rw[Hx.St.bR];exact HV.out,by rw[Hx.St.bN];omega,HX.out.1,HX.out.2.1,HX.out.2.2⟩
  |false=>
   cases e2:Hx.isS t Hx.qU with
   |true=>
    have HN:=ae (Hx.ZO HG.out e1 e2);rw[<-FD,Bool.and_eq_true]at e2;obtain⟨a1,a2⟩:=e2;rw[<-FD,a1,Bool.true_and]at e1;go_wp2
    go_roundg f
    case measure=>omega
    case rel=>exact⟨j+1,t,deep-1,s,by go_num,by go_num,by omega,by omega,by omega,HPV.out,by omega,by omega,HN.out,HV.out,by omega,HT.out.alloc _,HK.out.alloc _,HM.out.kept (F:=λ_=>False) ((Kp.refl _ _).alloc _) (Nat.lt_of_lt_of_le ip HK.out.size) (λh=>h)⟩
   |false=>
    by_cases e3:t.k=110
    ·obtain⟨ta,tb,r',PJ,hN⟩:=Hx.ZP HG.out e1 e2 e3
     have a3:((t.k:Int)==110)=true:=by simp;omega
     have a4:((t.k:Int)==115)=false:=by rw[beq_eq_false_iff_ne];omega
     have au4:j+3<=ts.length:=by
      have:=congrArg List.length PJ;simp at this;omega
     obtain⟨jj,rfl⟩:∃jj,j=jj+1:=⟨j-1,by omega⟩;have hpj:=by
      have:=HP.out;simp only [Nat.add_sub_cancel]at this;exact Option.some.inj ((List.getElem?_eq_getElem (by omega)).symm.trans this)
     obtain⟨p0,p1,_,_⟩:=HM.out jj (by omega);rw[hpj]at p0 p1;have HE:=ae (show e1=e1/\PJ=PJ from⟨rfl,rfl⟩);have HN:=ae hN;have HR':=ae PJ;have HPJ:=ae hpj;clear hN PJ hpj e1 e2 e3 HE
     cases e5:Hx.eQ p Hx.ew with
     |true=>
      rw[<-L9,Bool.and_eq_true]at e5;obtain⟨a5,a6⟩:=e5;obtain⟨t1,t2,t3,t4,t5⟩:=Jk HD.out HR'.out;obtain⟨u1,u2,u3⟩:=abt (by rw[List.drop_eq_getElem_cons (by omega),HPJ.out]) HD.out HR'.out;have g2:=l6 (by omega) u2;have g3:=l6 (by omega) u3;have H1:=ae t4;have H2:=ae t5
      have HU:=ae (show s.atom ((ts.drop jj).take (1+3)) (ts[jj+1]'(by omega)) (ts[jj+(1+2)]'(by omega))=s.atom (if Hx.eQ p Hx.ew then [p,t,ta,tb]else [t,ta,tb]) t tb by
       rw[u1,g2,g3,if_pos];rw[<-L9,a5,a6];rfl)
      clear t1 t2 t3 t4 t5 u1 u2 u3 g2 g3;have tM:=ae (HM.out.kept (F:=λ_=>False) ((Kp.refl _ _).alloc (.cells #[.int .u8 t.k,.string t.s,.int .i64 t.n,.int .i64 t.line] 130)) ck (λh=>h));go_wp2_with fail;rw[show jj+1+3-jj=1+3 by omega];refine(yI _ base bx _ gt ts s (fresh F w) (HT.out.alloc _) tM.out hl pf.out (by simp;omega) (λh=>h.elim nB.out (λh=>by omega)) jj 1 (bP-jj) (by omega) (by omega) (by rw[HV.out];exact tJ) (by omega)).mono ?_;rintro e w2 ⟨rfl,hr⟩;rw[HU.out]at hr;have HX:=ae (tz HK.out _ hr HM.out ip nB.out);clear hr;go_wp2
      go_roundg f
      case measure=>omega
      case rel=>exact⟨jj+1+3,tb,deep,_,by go_num,rfl,by omega,by omega,by omega,H2.out,by omega,by omega,by rw[H1.out];exact HN.out,by rw[Hx.St.mv];exact HV.out,by have:=Hx.St.oH s (if Hx.eQ p Hx.ew then [p,t,ta,tb]else [t,ta,tb]) t tb;omega,HX.out.1,HX.out.2.1,HX.out.2.2⟩
     |false=>
      obtain⟨t1,t2,t3,t4,t5⟩:=Jk HD.out HR'.out;have g2:=l6 (by omega) t2;have g3:=l6 (by omega) t3;have H1:=ae t4;have H2:=ae t5
      have HU:=ae (show s.atom ((ts.drop (jj+1)).take (0+3)) (ts[jj+1+0]'(by omega)) (ts[jj+1+(0+2)]'(by omega))=s.atom (if Hx.eQ p Hx.ew then [p,t,ta,tb]else [t,ta,tb]) t tb by
       rw[t1,g2,g3,if_neg (by rw[e5];simp)])
      clear t1 t2 t3 t4 t5 g2 g3;have tM:=ae (HM.out.kept (F:=λ_=>False) ((Kp.refl _ _).alloc (.cells #[.int .u8 t.k,.string t.s,.int .i64 t.n,.int .i64 t.line] 130)) ck (λh=>h));rw[<-L9]at e5
      cases a5:((p.k:Int)==119)with
      |false=>
       clear e5;go_wp2_with fail;rw[show jj+1+3-(jj+1)=0+3 by omega];refine(yI _ base bx _ gt ts s (fresh F w) (HT.out.alloc _) tM.out hl pf.out (by simp;omega) (λh=>h.elim nB.out (λh=>by omega)) (jj+1) 0 (bP-(jj+1)) (by omega) (by omega) (by rw[HV.out];exact tJ) (by omega)).mono ?_;rintro e w2 ⟨rfl,hr⟩;rw[HU.out]at hr;have HX:=ae (tz HK.out _ hr HM.out ip nB.out);clear hr;go_wp2
       go_roundg f
       case measure=>omega
       case rel=>exact⟨jj+1+3,tb,deep,_,by go_num,rfl,by omega,by omega,by omega,H2.out,by omega,by omega,by rw[H1.out];exact HN.out,by rw[Hx.St.mv];exact HV.out,by have:=Hx.St.oH s (if Hx.eQ p Hx.ew then [p,t,ta,tb]else [t,ta,tb]) t tb;omega,HX.out.1,HX.out.2.1,HX.out.2.2⟩
      |true=>
       rw[a5,Bool.true_and]at e5;go_wp2_with fail;rw[show jj+1+3-(jj+1)=0+3 by omega];refine(yI _ base bx _ gt ts s (fresh F w) (HT.out.alloc _) tM.out hl pf.out (by simp;omega) (λh=>h.elim nB.out (λh=>by omega)) (jj+1) 0 (bP-(jj+1)) (by omega) (by omega) (by rw[HV.out];exact tJ) (by omega)).mono ?_;rintro e w2 ⟨rfl,hr⟩;rw[HU.out]at hr;have HX:=ae (tz HK.out _ hr HM.out ip nB.out);clear hr;go_wp2
       go_roundg f
       case measure=>omega
       case rel=>exact⟨jj+1+3,tb,deep,_,by go_num,rfl,by omega,by omega,by omega,H2.out,by omega,by omega,by rw[H1.out];exact HN.out,by rw[Hx.St.mv];exact HV.out,by have:=Hx.St.oH s (if Hx.eQ p Hx.ew then [p,t,ta,tb]else [t,ta,tb]) t tb;omega,HX.out.1,HX.out.2.1,HX.out.2.2⟩
    ·have a3:((t.k:Int)==110)=false:=by rw[beq_eq_false_iff_ne];omega
     cases a4:((t.k:Int)==115)with
     |true=>
      have a9:((t.k:Int)==119)=false:=by rw[beq_iff_eq]at a4;rw[beq_eq_false_iff_ne];omega
      have sZ:=ae (Hx.KS HG.out e1 e2 e3 (by rw[Bool.and_eq_false_iff];left;rw[beq_eq_false_iff_ne];rw[beq_iff_eq]at a4;omega));rw[<-FD,a4,Bool.true_and]at e1 e2;clear e3;go_wp2;go_ret;exact⟨j,rfl,by omega,by omega,by rw[sZ.out];exact HD.out,by rw[sZ.out];exact⟨HT.out.alloc _,HK.out.alloc _⟩⟩
     |false=>
      cases a9:((t.k:Int)==119)with
      |false=>
       have sZ:=ae (Hx.KS HG.out e1 e2 e3 (by rw[Bool.and_eq_false_iff];left;rw[beq_eq_false_iff_ne];rw[beq_eq_false_iff_ne]at a9;omega));clear e1 e2 e3;go_wp2;go_ret;exact⟨j,rfl,by omega,by omega,by rw[sZ.out];exact HD.out,by rw[sZ.out];exact⟨HT.out.alloc _,HK.out.alloc _⟩⟩
      |true=>
       have k9:(t.k==119)=true:=by rw[beq_iff_eq]at a9|-;omega
       cases OY:Hx.oG.contains t.s.data.toList with
       |true=>
        have HN:=ae (Hx.ZQ HG.out e1 e2 e3 (by rw[k9,OY];rfl));have HSK:=ae OY;clear e1 e2 e3 OY k9;go_wp2_with fail;refine(jz _ _ _ (by omega) (by decide)).mono ?_;rintro e w2 ⟨rfl,rfl⟩;rw[Hx.xC _ HBL.out,HSK.out];go_wp2
        go_roundg f
        case measure=>omega
        case rel=>exact⟨j+1,t,deep,s,by go_num,rfl,by omega,by omega,by omega,HPV.out,by omega,by omega,HN.out,HV.out,by omega,HT.out.alloc _,HK.out.alloc _,HM.out.kept (F:=λ_=>False) ((Kp.refl _ _).alloc _) ck (λh=>h)⟩
       |false=>
        have sZ:=ae (Hx.KS HG.out e1 e2 e3 (by rw[k9,OY];rfl));have HSK:=ae OY;clear e1 e2 e3 OY k9;go_wp2_with fail;refine(jz _ _ _ (by omega) (by decide)).mono ?_;rintro e w2 ⟨rfl,rfl⟩;rw[Hx.xC _ HBL.out,HSK.out];go_wp2;go_ret;exact⟨j,rfl,by omega,by omega,by rw[sZ.out];exact HD.out,by rw[sZ.out];exact⟨HT.out.alloc _,HK.out.alloc _⟩⟩
