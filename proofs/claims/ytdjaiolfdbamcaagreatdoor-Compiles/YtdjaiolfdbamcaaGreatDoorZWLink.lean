/- The walk of helmref's link. -/
import Derived.Test.YtdjaiolfdbamcaaGreatDoorZWTabs
import Derived.Deep.CutRange
import Derived.Deep.DrawnRows
set_option maxRecDepth 20000
set_option maxHeartbeats 8000000
namespace Go.Proofs.YtdjaiolfdbamcaaGreatDoor
open Go.RowKit
attribute [local go_sem↓] Go.wp_at_zero Go.wp_at_succ
variable {w:World}{base bx gt:Nat}{vt:Value}{ts:List Hx.Tok}{F:Nat->Prop}
theorem pX{W w2:World}{s2:Hx.St}{G:Nat->Prop}(hG:∀k,G k->fresh F w k)(hk:Kp F w W)(h:l5 W base bx vt gt ts G w2 s2):
  db w2 base bx vt gt ts s2 (fresh F w)/\Kp F w w2:=
 ⟨h.1.mono (λk hq=>hq.elim (hG k) (λh=>.inr (Nat.le_trans hk.size h))),hk.trans h.2 hG⟩
def jK(s0:Hx.St)(s:Hx.St)(r:Hx.vV):Hx.St:=s.aS (!(r.to.toList==[])&& !(s0.dx r.to)) 3 r.line
theorem qI(s0 s:Hx.St)(r:Hx.vV):(jK s0 s r).af=s.af:=Hx.St.bw _ _ _ _
theorem Qa(s:Hx.St)(n:ByteArray):decide (Hx.place n 0 (s.af.map (·.name))<0)=!s.dx n:=by
 rw[Hx.St.dx,<-Hx.kG n _ 0]
 grind
def yK(l:List Hx.fX)(i k:Nat):Nat:=((l.take k).filter λm=>decide (m.outer=(i:Int))).length
def yL(l:List Hx.fX)(i k:Nat):Nat:=(((l.take k).filter λm=>decide (m.outer=(i:Int))).filter λm=>m.dflt).length
theorem take_one{α:Type}(l:List α)(k:Nat)(h:k<l.length):l.take (k+1)=l.take k++[l[k]]:=by simp
theorem agB(l:List Hx.fX)(i k:Nat)(h:k<l.length)(e:¬l[k].outer=(i:Int)):yK l i (k+1)=yK l i k/\yL l i (k+1)=yL l i k:=by
 unfold yK yL;rw[take_one l k h,List.filter_append,List.filter_cons_of_neg (by grind),List.filter_nil,List.append_nil];omega
theorem abu(l:List Hx.fX)(i k:Nat)(h:k<l.length)(e:l[k].outer=(i:Int)):yK l i (k+1)=yK l i k+1/\yL l i (k+1)=yL l i k+(if l[k].dflt then 1 else 0):=by
 unfold yK yL;rw[take_one l k h,List.filter_append,List.filter_cons_of_pos (by grind),List.filter_nil,List.filter_append]
 grind
theorem abv(l:List Hx.fX)(i k:Nat):yK l i k<=l.length:=Nat.le_trans (List.length_filter_le _ _) (by grind)
theorem abw(l:List Hx.fX)(i k:Nat):yL l i k<=l.length:=Nat.le_trans (List.length_filter_le _ _) (Nat.le_trans (List.length_filter_le _ _) (by grind))
theorem Qb(s0 s:Hx.St)(i:Nat)(m:Hx.fX):oK s0 s i m=s.aS (decide (0<yK s0.af i s0.af.length)&&decide (yL s0.af i s0.af.length≠1)) 5 m.line:=by
 simp only [oK,yK,yL,List.take_length]
theorem Jm(s0 s:Hx.St)(i:Nat)(h:i<s0.af.length):kQ s0 i (s0.af.drop i) s=kQ s0 (i+1) (s0.af.drop (i+1)) (oK s0 s i s0.af[i]):=by
 rw[List.drop_eq_getElem_cons h];rfl
structure Qc(w:World)(base bx:Nat)(vt:Value)(gt:Nat)(ts:List Hx.Tok)(F:Nat->Prop)(s0 s:Hx.St)(wr:World):Prop where
 jU:db wr base bx vt gt ts s (fresh F w)
 kp:Kp F w wr
 af:s.af=s0.af
theorem Qc.mode{s0 s:Hx.St}{wr:World}(h:Qc w base bx vt gt ts F s0 s wr):bx<wr.heap.size/\NL wr bx gt ts s0.af:=by
 refine⟨?_,h.af▸h.jU.mode⟩;obtain⟨g,hT,_⟩:=h.jU;exact hT.place.2
theorem U6(w:World)(base bx:Nat)(vt:Value)(gt:Nat)(ts:List Hx.Tok)(s0:Hx.St)(F:Nat->Prop)(h:db w base bx vt gt ts s0 F)(hn:s0.af.length<=10000)(hrn:∀m∈s0.af,m.rows.length<=10000):
  Calls Tryz.prog 94 #[.pointer (some ⟨bx,0,none⟩)] w λe w'=>e=.returned (.tuple #[])/\l5 w base bx vt gt ts F w' (fi s0):=by
 have H0:Hid (Qc w base bx vt gt ts F s0 s0 w):=ae ⟨h.mono (λ_ h=>.inl h),Kp.refl _ _,rfl⟩;have F0:=ae hrn;clear h hrn;go_enter Tryz.func94,Tryz.ntmps94;go_wp2_with fail
 go_loopw [2] (λv2 wr=>∃(i:Nat)(s:Hx.St),i<=s0.af.length/\v2=.int .i64 i/\Qc w base bx vt gt ts F s0 s wr/\(s0.af.drop i).foldl (eR s0) s=s0.af.foldl (eR s0) s0) (λv2 _=>s0.af.length-(intOf v2).toNat)
 case atStart=>exact⟨0,s0,by omega,rfl,H0.out,rfl⟩
 case round=>
  obtain⟨i,s,hi,rfl,hI,hF⟩:=hrel;have HI:=ae hI;have HF:=ae hF;clear hI hF H0;obtain⟨jX,av,cv,c2,hc⟩:=HI.out.mode
  by_cases hlt:i<s0.af.length
  ·have mQ:(i:Int)<s0.af.length:=by omega
   clear hc;obtain⟨m,hm⟩:∃m,m=s0.af[i]:=⟨_,rfl⟩;have HM:=ae hm;have hmr:m.rows.length<=10000:=by rw[hm];exact F0.out _ (List.getElem_mem _)
   clear hm;go_wp2_with fail;clear c2
   go_loopg [3] (m.rows.length) (λk v3 wq=>∃(j:Nat)(s':Hx.St),j+k=m.rows.length/\v3=.int .i64 j/\Qc w base bx vt gt ts F s0 s' wq/\(m.rows.drop j).foldl (jK s0) s'=eR s0 s m)
   case atStart=>exact⟨0,s,by omega,rfl,HI.out,rfl⟩
   case round=>
    obtain⟨j,s',hj,rfl,hI2,hF2⟩:=hrel;have rO:=ae hI2;have Fe:=ae hF2;clear hI2 hF2;obtain⟨ay2,av2,cv2,c2,hc⟩:=rO.out.mode;obtain⟨gm,ar,cr,rfl,_,_,_,_,e4,hrr⟩:=hc i hlt;have HRR:=ae hrr;clear hc hrr;rw[<-HM.out]at e4
    by_cases Q9:j<m.rows.length
    ·have iP:j<s0.af[i].rows.length:=by rw[<-HM.out];exact Q9
     obtain⟨gr,off,n,c,rfl,f0,f1,f2,_⟩:=HRR.out j iP;obtain⟨r,hr⟩:∃r,r=s0.af[i].rows[j]:=⟨_,rfl⟩;rw[<-hr]at f1 f2;have hrm:m.rows[j]=r:=by rw[hr];simp only [HM.out]
     have HR:=ae hrm;clear hr hrm HRR;have agy:(j:Int)<m.rows.length:=by omega
     have lj:=ae (show(m.rows.drop (j+1)).foldl (jK s0) (jK s0 s' r)=eR s0 s m by
      rw[<-Fe.out,List.drop_eq_getElem_cons Q9,List.foldl_cons,HR.out])
     have wS:=ae (rO.out.jU.alloc (.cells #[.slice (some ⟨gt,off*4,none⟩) n c,.string r.to,.int .i64 r.line] 253));go_wp2_with fail
     cases nX:(r.to.toList==[])with
     |true=>
      have HS:=ae (show s'.aS false 3 r.line=jK s0 s' r by rw[jK,nX];rfl);have hre:r.to=⟨#[]⟩:=by
       have:r.to.data.toList=[]:=by rw[<-Lib.toList_data];simpa using nX
       exact ByteArray.ext (by simpa using this)
      rw[hre]at f1 wS|-;have Zu:=ae hre;clear nX hre
      first|go_region_with (go_at_call 140;refine(dI _ base bx vt gt ts s' (fresh F w) _ 3 ⟨0,⟨#[]⟩,0,r.line⟩ ?_).mono ?_;exact wS.out.below ⟨rfl,rfl,rfl,Nat.le_refl _,λ_ _=>rfl⟩;rintro e w1 ⟨rfl,dw,iH⟩)|fail
      all_goals
       have NX:=ae (pX (λ_ h=>h) ((rO.out.kp.alloc _).drew) dw);clear dw iH;go_wp2_with fail
       go_roundg (m.rows.length-(j+1))
       case measure=>omega
       case rel=>exact⟨j+1,jK s0 s' r,by omega,by go_num,⟨by rw[<-HS.out];exact NX.out.1,NX.out.2,by rw[qI];exact rO.out.af⟩,lj.out⟩
     |false=>
      have HS:=ae (show s'.aS (decide (Hx.place r.to 0 (s'.af.map (·.name))<0)) 3 r.line=jK s0 s' r by
       rw[jK,nX,Qa];simp only [Hx.St.dx,rO.out.af];rfl)
      have nG:s'.af.length<=10000:=by rw[rO.out.af];exact hn
      have HTT:=ae (rO.out.jU.tight.alloc (.cells #[.slice (some ⟨gt,off*4,none⟩) n c,.string r.to,.int .i64 r.line] 253));have nb:¬tight (fresh F w) wr wr.heap.size:=λh=>Nat.lt_irrefl _ h.2
      have q1:(wr.alloc (.cells #[.slice (some ⟨gt,off*4,none⟩) n c,.string r.to,.int .i64 r.line] 253)).cell? ⟨wr.heap.size,1,none⟩=some (.string r.to):=by simp
      have q2:(wr.alloc (.cells #[.slice (some ⟨gt,off*4,none⟩) n c,.string r.to,.int .i64 r.line] 253)).cell? ⟨wr.heap.size,2,none⟩=some (.int .i64 r.line):=by simp
      have hsz:wr.heap.size<(wr.alloc (.cells #[.slice (some ⟨gt,off*4,none⟩) n c,.string r.to,.int .i64 r.line] 253)).heap.size:=by simp
      have Q1:=ae q1;have Q2:=ae q2;clear q1 q2
      go_region_held3 (λW=>W.cell? ⟨wr.heap.size,1,none⟩=some (.string r.to)/\W.cell? ⟨wr.heap.size,2,none⟩=some (.int .i64 r.line)) (first|go_keep|(exact⟨by with_reducible assumption,by with_reducible assumption⟩))
       (first
        |(go_at_call 143;refine(yM _ base bx vt gt ts s' (tight (fresh F w) wr) r.to ?_ nG).mono ?_;exact HTT.out.below ⟨rfl,rfl,rfl,Nat.le_refl _,λ_ _=>rfl⟩;rintro e w' ⟨rfl,rfl⟩)
        |(go_at_call 140;refine(dI _ base bx vt gt ts s' (tight (fresh F w) wr) _ 3 ⟨0,⟨#[]⟩,0,r.line⟩ ?_).mono ?_;exact HTT.out.below ⟨rfl,rfl,rfl,Nat.le_refl _,λ_ _=>rfl⟩;rintro e w1 ⟨rfl,dw,iH⟩;have z1:=(dw.2.cell hsz nb).trans Q1.out;have z2:=(dw.2.cell hsz nb).trans Q2.out))
      have NX:=ae (pX (λ_ h=>h.1) ((rO.out.kp.alloc _).drew) dw);clear dw iH;go_wp2_with fail
      go_roundg (m.rows.length-(j+1))
      case measure=>omega
      case rel=>exact⟨j+1,jK s0 s' r,by omega,by go_num,⟨by rw[<-HS.out];exact NX.out.1,NX.out.2,by rw[qI];exact rO.out.af⟩,lj.out⟩
    ·have agy:¬(j:Int)<m.rows.length:=by omega
     have HE:=ae (show s'=eR s0 s m by rw[<-Fe.out,List.drop_of_length_le (by omega)];rfl);go_wp2_with fail
     go_roundw
     case rel=>exact⟨i+1,s',by omega,by go_num,rO.out,by rw[<-HF.out,List.drop_eq_getElem_cons hlt,List.foldl_cons,<-HM.out,<-HE.out]⟩
     case measure=>simp[intOf];omega
  ·have mQ:¬(i:Int)<s0.af.length:=by omega
   have HE:=ae (show s=s0.af.foldl (eR s0) s0 by rw[<-HF.out,List.drop_of_length_le (by omega)];rfl);clear hc;go_wp2_with fail;clear c2
   go_loopw [5] (λv5 wr=>∃(q:Nat)(s:Hx.St),q<=s0.af.length/\v5=.int .i64 q/\Qc w base bx vt gt ts F s0 s wr/\kQ s0 q (s0.af.drop q) s=fi s0) (λv5 _=>s0.af.length-(intOf v5).toNat)
   case atStart=>exact⟨0,s,by omega,rfl,HI.out,by rw[HE.out];rfl⟩
   case round=>
    obtain⟨q,sq,hq,rfl,hI3,Nt⟩:=hrel;have Ka:=ae hI3;have TI:=ae Nt;clear hI3 Nt;obtain⟨Jn,av3,cv3,c3,lA⟩:=Ka.out.mode;have rN:=ae lA;clear lA
    by_cases hlq:q<s0.af.length
    ·have ard:(q:Int)<s0.af.length:=by omega
     obtain⟨gm,ar,cr,rfl,_,e1,_,_,_,_⟩:=rN.out q hlq;go_wp2_with fail
     go_loop [6,7,8] (λv6 v7 v8=>∃k:Nat,k<=s0.af.length/\v8=.int .i64 k/\v6=.int .i64 (yK s0.af q k)/\v7=.int .i64 (yL s0.af q k)) (λ_ _ v8=>s0.af.length-(intOf v8).toNat)
     case atStart=>exact⟨0,by omega,rfl,rfl,rfl⟩
     case round=>
      obtain⟨k,hk,rfl,rfl,rfl⟩:=hrel;have vS:=abv s0.af q k;have hcd:=abw s0.af q k
      by_cases hlk:k<s0.af.length
      ·have arf:(k:Int)<s0.af.length:=by omega
       obtain⟨gm',_,_,QY,_,_,k2,k3,_,_⟩:=rN.out k hlk
       cases QY
       by_cases ho:s0.af[k].outer=(q:Int)
       ·obtain⟨y1,y2⟩:=abu s0.af q k hlk ho
        cases hd:s0.af[k].dflt with
        |true=>
         rw[hd]at k3 y2;rw[ho]at k2;have Y1:=ae y1;have Y2:=ae y2;clear y1 y2 ho hd;go_wp2_with fail
         go_round
         case rel=>exact⟨k+1,by omega,by go_num,by rw[Y1.out];go_num,by rw[Y2.out];go_num⟩
         case measure=>simp[intOf];omega
        |false=>
         rw[hd]at k3 y2;rw[ho]at k2;have Y1:=ae y1;have Y2:=ae y2;clear y1 y2 ho hd;go_wp2_with fail
         go_round
         case rel=>exact⟨k+1,by omega,by go_num,by rw[Y1.out];go_num,by rw[Y2.out];go_num⟩
         case measure=>simp[intOf];omega
       ·obtain⟨y1,y2⟩:=agB s0.af q k hlk ho
        have hob:=beq_eq_false_iff_ne.2 ho;have Y1:=ae y1;have Y2:=ae y2;clear y1 y2 ho;go_wp2_with fail
        go_round
        case rel=>exact⟨k+1,by omega,by go_num,by rw[Y1.out],by rw[Y2.out]⟩
        case measure=>simp[intOf];omega
      ·have arf:¬(k:Int)<s0.af.length:=by omega
       obtain rfl:k=s0.af.length:=by omega
       have HS:=ae (Qb s0 sq q s0.af[q]);have HN:=ae (TI.out.symm.trans (Jm s0 sq q hlq));generalize yK s0.af q s0.af.length=ci at*;generalize yL s0.af q s0.af.length=cd at*
       have ki:=ae (show∀b:Bool,decide (0<ci)=b->sq.aS (b&&((cd:Int) !=1)) 5 s0.af[q].line=oK s0 sq q s0.af[q]from λb hb=>by
        rw[HS.out,hb];congr 2
        rw[Bool.eq_iff_iff];simp;omega)
       have Zs:(oK s0 sq q s0.af[q]).af=s0.af:=by rw[HS.out,Hx.St.bw];exact Ka.out.af
       have HLM:=ae Zs;clear Zs
       by_cases FX:0<ci
       ·have arh:(0:Int)<ci:=by omega
        have HB:=ae (ki.out true (by simpa using FX));go_wp2_with fail;refine(dI _ base bx vt gt ts sq (fresh F w) _ 5 ⟨0,⟨#[]⟩,0,s0.af[q].line⟩ Ka.out.jU).mono ?_;rintro e w1 ⟨rfl,dw,iH⟩;have NX:=ae (pX (λ_ h=>h) Ka.out.kp dw);clear dw iH;go_wp2_with fail
        go_roundw
        case rel=>exact⟨q+1,oK s0 sq q s0.af[q],by omega,by go_num,⟨by rw[<-HB.out];exact NX.out.1,NX.out.2,HLM.out⟩,HN.out.symm⟩
        case measure=>simp[intOf];omega
       ·have arh:¬(0:Int)<ci:=by omega
        have HB:=ae (ki.out false (by simpa using FX));go_wp2_with fail;refine(dI _ base bx vt gt ts sq (fresh F w) _ 5 ⟨0,⟨#[]⟩,0,s0.af[q].line⟩ Ka.out.jU).mono ?_;rintro e w1 ⟨rfl,dw,iH⟩;have NX:=ae (pX (λ_ h=>h) Ka.out.kp dw);clear dw iH;go_wp2_with fail
        go_roundw
        case rel=>exact⟨q+1,oK s0 sq q s0.af[q],by omega,by go_num,⟨by rw[<-HB.out];exact NX.out.1,NX.out.2,HLM.out⟩,HN.out.symm⟩
        case measure=>simp[intOf];omega
    ·have ard:¬(q:Int)<s0.af.length:=by omega
     have HE:=ae (show sq=fi s0 by rw[<-TI.out,List.drop_of_length_le (by omega)];rfl);go_wp2_with fail;go_end0;exact⟨rfl,by rw[<-HE.out];exact Ka.out.jU,Ka.out.kp⟩
