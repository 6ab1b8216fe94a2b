/- Walks of helmref's Leaf. -/
import Derived.Test.YtdjaiolfdbamcaaGreatDoorZWReadB
import Derived.Test.YtdjaiolfdbamcaaGreatDoorZKS
set_option maxRecDepth 20000
set_option maxHeartbeats 4000000
namespace Go.Proofs.YtdjaiolfdbamcaaGreatDoor
variable {s:Hx.St}{k:Int}{a base bx gt i m n off:Nat}{bs xs:List Int}{ts:List Hx.Tok}{vs:List az}{w0:World}{vt:Value}{F:Nat->Prop}{ab an:Option Addr}
section
open Go.RowKit
def je(s:Hx.St)(k:Int):Bool:=s.af.all λm=>!decide (m.outer=k)
theorem ab6(hi:i<s.af.length)(h:s.af[i].outer=k):je s k=false:=by
 grind[List.getElem_mem,List.all_eq_false,je]
theorem Ei(w:World)(base bx:Nat)(vt:Value)(gt:Nat)(ts:List Hx.Tok)(s:Hx.St)(F:Nat->Prop)(k:Int)(h:db w base bx vt gt ts s F)(hn:s.af.length<=10000):
  Calls Tryz.prog 63 #[.pointer (some ⟨bx,0,none⟩),.int .i64 k] w λe w'=>e=.returned (.bool (je s k))/\w'=w:=by
 obtain⟨av,cv,c2,hc⟩:=h.mode;have HC:=ae hc;clear hc h;go_enter Tryz.func63,Tryz.ntmps63;go_wp2_with fail
 go_loopg [5] s.af.length (λm v5 wr=>∃i:Nat,i+m=s.af.length/\v5=.int .i64 i/\wr=w/\∀j (hj:j<s.af.length),j<i->s.af[j].outer≠k)
 case atStart=>simp
 case round=>
  obtain⟨i,RM,rfl,rfl,iO⟩:=hrel;have HA:=ae iO;clear iO
  by_cases hlt:i<s.af.length
  ·obtain⟨gv,_,_,rfl,_,_,hcell,_⟩:=HC.out i hlt
   have mQ:(i:Int)<s.af.length:=by omega
   have dl:(0:Int)<=i:=by omega
   by_cases hq:s.af[i].outer=k
   ·have HH:=ae (ab6 hlt hq)
    have ND:(s.af[i].outer==k)=true:=by simp[hq]
    obtain⟨o,ho⟩:∃o,o=s.af[i].outer:=⟨_,rfl⟩;rw[<-ho]at hcell ND;clear hq ho;go_wp2_with fail;go_ret;exact⟨by rw[HH.out];rfl,rfl⟩
   ·have HN:Hid (∀j (hj:j<s.af.length),j<i+1->s.af[j].outer≠k):=ae (λj hj Kv=>by
     by_cases e:j=i
     ·grind
     ·exact HA.out j hj (by omega))
    have ND:=beq_eq_false_iff_ne.2 hq;obtain⟨o,ho⟩:∃o,o=s.af[i].outer:=⟨_,rfl⟩;rw[<-ho]at hcell ND;clear hq ho;go_wp2_with fail
    go_roundg (s.af.length-(i+1))
    case measure=>omega
    case rel=>exact⟨i+1,by omega,by go_num,rfl,HN.out⟩
  ·have mQ:¬(i:Int)<s.af.length:=by omega
   have HH:Hid (je s k=true):=ae (by
    unfold je;rw[List.all_eq_true];intro m hm;obtain⟨j,hj,rfl⟩:=List.getElem_of_mem hm;have:=HA.out j hj (by omega)
    grind)
   go_wp2_with fail;go_ret;exact⟨by rw[HH.out];rfl,rfl⟩
def Xt(w:World)(sa:Option Addr)(xs:List Int):Prop:=∀i (hi:i<xs.length),∃g o,sa=some ⟨g,o,none⟩/\w.cell? ⟨g,o+i,none⟩=some (.int .i64 xs[i])
def yY(v:Hx.Sd)(x:Int):Bool:=decide (v.lo<=x)&&decide (x<=v.hi)
def gS(s:Hx.St)(xs:List Int):Bool:=xs.length==s.vars.length&&(s.vars.zip xs).all λq=>yY q.1 q.2
theorem Qw(h1:i<xs.length)(h2:i<s.vars.length)(h:yY s.vars[i] xs[i]=false):gS s xs=false:=by
 unfold gS;rw[Bool.and_eq_false_iff];refine .inr (List.all_eq_false.2 ⟨(s.vars[i],xs[i]),?_,by simp[h]⟩)
 grind[List.mem_iff_getElem]
theorem vK(w:World)(base bx:Nat)(vt:Value)(gt:Nat)(ts:List Hx.Tok)(s:Hx.St)(F:Nat->Prop)(sa:Option Addr)(cs:Nat)(xs:List Int)(h:db w base bx vt gt ts s F)(hn:s.vars.length<=10000)(hx:Xt w sa xs):
  Calls Tryz.prog 64 #[.pointer (some ⟨bx,0,none⟩),.slice sa xs.length cs] w λe w'=>e=.returned (.bool (gS s xs))/\Below w.heap.size w w':=by
 obtain⟨av,cv,c1,hc⟩:=h.var;have HC:=ae hc;have HX:=ae hx;clear hc h hx;go_enter Tryz.func64,Tryz.ntmps64
 by_cases hlen:xs.length=s.vars.length
 ·have R0:((xs.length:Int) !=s.vars.length)=false:=by simp[hlen]
  have HL:=ae hlen;clear hlen;go_wp2_with fail
  go_loopg [5] xs.length (λm v5 wr=>∃i:Nat,i+m=xs.length/\v5=.int .i64 i/\Below w.heap.size w wr/\(∀p,wr.cell? p=w.cell? p)/\∀j (hj:j<xs.length) (hj':j<s.vars.length),j<i->yY s.vars[j] xs[j]=true)
  case atStart=>exact⟨0,by omega,rfl,Below.refl _ _,λ_=>rfl,λj _ _ h=>by omega⟩
  case round=>
   obtain⟨i,RM,rfl,eS,aeq,iO⟩:=hrel;have HA:=ae iO;have HB:=ae eS;have HS:=ae aeq;clear iO eS aeq
   by_cases hlt:i<xs.length
   ·have kz:i<s.vars.length:=by rw[<-HL.out];exact hlt
    obtain⟨gv,rfl,_,e1,e2⟩:=HC.out i kz;obtain⟨gx,ox,rfl,e3⟩:=HX.out i hlt;have mQ:(i:Int)<xs.length:=by omega
    have hlv:(i:Int)<s.vars.length:=by omega
    have dl:(0:Int)<=i:=by omega
    have y1:=(HS.out ⟨gv,i*3+1,none⟩).trans e1;have y2:=(HS.out ⟨gv,i*3+2,none⟩).trans e2;have y3:=(HS.out ⟨gx,ox+i,none⟩).trans e3;have y4:=(HS.out ⟨bx,1,none⟩).trans c1;have Oj:=ae (λh=>Qw (s:=s) (xs:=xs) hlt kz h)
    have VC:Hid (yY s.vars[i] xs[i]=true->∀j (hj:j<xs.length) (hj':j<s.vars.length),j<i+1->yY s.vars[j] xs[j]=true):=ae (λhy j hj hj' Kv=>by
     by_cases e:j=i
     ·subst e;exact hy
     ·exact HA.out j hj hj' (by omega))
    unfold yY at Oj VC;clear e1 e2 e3;obtain⟨lo,vW⟩:∃lo,lo=s.vars[i].lo:=⟨_,rfl⟩;obtain⟨qe,Nd⟩:∃qe,qe=s.vars[i].hi:=⟨_,rfl⟩;obtain⟨x,hxe⟩:∃x,x=xs[i]:=⟨_,rfl⟩;rw[<-vW]at y1;rw[<-Nd]at y2;rw[<-hxe]at y3
    by_cases q1:x<lo
    ·have d1:decide (x<lo)=true:=decide_eq_true q1
     have HR:Hid (gS s xs=false):=ae (Oj.out (by rw[<-vW,<-hxe,decide_eq_false (by omega)];rfl));clear vW Nd hxe Oj VC;go_upto_region 6 with(fail)
     go_quiet (fail)
     go_wp2_with fail;go_ret;exact⟨by rw[HR.out];rfl,HB.out.trans ⟨rfl,rfl,rfl,Nat.le_refl _,λ_ _=>rfl⟩⟩
    ·have d1:decide (x<lo)=false:=decide_eq_false q1
     by_cases q2:qe<x
     ·have d2:decide (qe<x)=true:=decide_eq_true q2
      have HR:Hid (gS s xs=false):=ae (Oj.out (by rw[<-vW,<-Nd,<-hxe,decide_eq_true (by omega:lo<=x),decide_eq_false (by omega)];rfl));clear vW Nd hxe Oj VC;go_upto_region 6 with(fail)
      go_quiet (fail)
      go_wp2_with fail;go_ret;exact⟨by rw[HR.out];rfl,HB.out.trans ⟨rfl,rfl,rfl,Nat.le_refl _,λ_ _=>rfl⟩⟩
     ·have d2:decide (qe<x)=false:=decide_eq_false q2
      have HR:=ae (VC.out (by rw[<-vW,<-Nd,<-hxe,decide_eq_true (by omega:lo<=x),decide_eq_true (by omega)];rfl));clear vW Nd hxe Oj VC;go_upto_region 6 with(fail)
      go_quiet (fail)
      go_wp2_with fail
      go_roundg (xs.length-(i+1))
      case measure=>omega
      case rel=>exact⟨i+1,by omega,by go_num,HB.out.trans ⟨rfl,rfl,rfl,Nat.le_refl _,λ_ _=>rfl⟩,HS.out,HR.out⟩
   ·have mQ:¬(i:Int)<xs.length:=by omega
    have HR:Hid (gS s xs=true):=ae (by
     unfold gS;rw[HL.out,beq_self_eq_true,Bool.true_and,List.all_eq_true];intro q hq;obtain⟨j,hj,rfl⟩:=List.getElem_of_mem hq;simp only [List.length_zip]at hj;have:=HA.out j (by omega) (by omega) (by omega)
     simpa using this)
    go_wp2_with fail;go_ret;exact⟨by rw[HR.out];rfl,HB.out⟩
 ·have R0:((xs.length:Int) !=s.vars.length)=true:=by simp[bne];omega
  have HR:Hid (gS s xs=false):=ae (by unfold gS;simp[hlen]);clear hlen;go_wp2_with fail;go_ret;exact⟨by rw[HR.out];rfl,Below.refl _ _⟩
def tD(s:Hx.St)(k:Int)(i:Nat):Option Nat:=(List.range s.af.length).find? λj=>decide (i<=j)&&(match s.af[j]? with|some m=>decide (m.outer=k)&&m.dflt|none=>false)
def rA(s:Hx.St):Nat->Int->Int
 |0,k=>k
 |f+1,k=>match tD s k 0 with|some i=>rA s f i|none=>k
theorem Mz(p:Nat->Bool)(hi:i<n)(h1:p i=true)(h2:∀j,j<i->p j=false):(List.range n).find? p=some i:=by
 simp_all
theorem ab7(hi:i<s.af.length)(h1:s.af[i].outer=k)(h2:s.af[i].dflt=true)(h3:∀j (hj:j<s.af.length),j<i->¬(s.af[j].outer=k/\s.af[j].dflt=true)):tD s k 0=some i:=by
 refine Mz _ hi ?_ (λj hj=>?_)
 all_goals grind
theorem VD(h3:∀j (hj:j<s.af.length),¬(s.af[j].outer=k/\s.af[j].dflt=true)):tD s k 0=none:=by
 simp_all[Nat.zero_le,decide_true,Bool.true_and,List.mem_range,List.find?_eq_none,tD]
theorem Mt(w:World)(base bx:Nat)(vt:Value)(gt:Nat)(ts:List Hx.Tok)(s:Hx.St)(F:Nat->Prop)(h:db w base bx vt gt ts s F)(hn:s.af.length<=10000)(zK:∀i (hi:i<s.af.length),s.af[i].outer<i):∀(f:Nat)(k:Int),(s.af.length:Int)<=k+f->
  Calls Tryz.prog 83 #[.pointer (some ⟨bx,0,none⟩),.int .i64 k] w λe w'=>e=.returned (.int .i64 (rA s f k))/\w'=w:=by
 obtain⟨av,cv,c2,hc⟩:=h.mode;have HC:=ae hc;clear hc h;intro f
 induction f with
 |zero=>
  intro k hk;have Oj:Hid (∀j (hj:j<s.af.length),s.af[j].outer≠k):=ae (λj hj e=>by grind);go_enter Tryz.func83,Tryz.ntmps83;go_wp2_with fail
  go_loopg [5] s.af.length (λm v5 wr=>∃i:Nat,i+m=s.af.length/\v5=.int .i64 i/\wr=w)
  case atStart=>simp
  case round=>
   obtain⟨i,RM,rfl,rfl⟩:=hrel
   by_cases hlt:i<s.af.length
   ·obtain⟨gv,_,_,rfl,_,_,e1,_,_⟩:=HC.out i hlt
    have mQ:(i:Int)<s.af.length:=by omega
    have dl:(0:Int)<=i:=by omega
    have ND:=beq_eq_false_iff_ne.2 (Oj.out i hlt);obtain⟨o,LQ⟩:∃o,o=s.af[i].outer:=⟨_,rfl⟩;rw[<-LQ]at e1 ND;clear LQ;go_wp2_with fail
    go_roundg (s.af.length-(i+1))
    case measure=>omega
    case rel=>exact⟨i+1,by omega,by go_num,rfl⟩
   ·have mQ:¬(i:Int)<s.af.length:=by omega
    go_wp2_with fail;go_ret;exact⟨rfl,rfl⟩
 |succ f ih=>
  intro k hk;have HI:=ae ih;clear ih;have lj:Hid (rA s (f+1) k=match tD s k 0 with|some i=>rA s f i|none=>k):=ae rfl;go_enter Tryz.func83,Tryz.ntmps83;go_wp2_with fail
  go_loopg [5] s.af.length (λm v5 wr=>∃i:Nat,i+m=s.af.length/\v5=.int .i64 i/\wr=w/\∀j (hj:j<s.af.length),j<i->¬(s.af[j].outer=k/\s.af[j].dflt=true))
  case atStart=>simp
  case round=>
   obtain⟨i,RM,rfl,rfl,iO⟩:=hrel;have HA:=ae iO;clear iO
   by_cases hlt:i<s.af.length
   ·obtain⟨gv,_,_,rfl,_,_,e1,e2,_⟩:=HC.out i hlt
    have mQ:(i:Int)<s.af.length:=by omega
    have dl:(0:Int)<=i:=by omega
    have hoi:=zK i hlt
    by_cases hq:s.af[i].outer=k
    ·have ND:(s.af[i].outer==k)=true:=by simp[hq]
     cases hd:s.af[i].dflt with
     |true=>
      have HD:=ae (ab7 hlt hq hd HA.out);have ki:=ae (HI.out i (by omega));obtain⟨o,LQ⟩:∃o,o=s.af[i].outer:=⟨_,rfl⟩;rw[<-LQ]at e1 ND;rw[hd]at e2;clear LQ hq hd hoi;go_wp2_with fail;refine ki.out.mono ?_;rintro e w' ⟨rfl,Og⟩;rw[Og];clear Og w';go_wp2_with fail;go_ret;exact⟨by rw[lj.out,HD.out];rfl,rfl⟩
     |false=>
      have HN:Hid (∀j (hj:j<s.af.length),j<i+1->¬(s.af[j].outer=k/\s.af[j].dflt=true)):=ae (λj hj Kv=>by
       by_cases e:j=i
       ·subst e;rw[hd];simp
       ·exact HA.out j hj (by omega))
      obtain⟨o,LQ⟩:∃o,o=s.af[i].outer:=⟨_,rfl⟩;rw[<-LQ]at e1 ND;rw[hd]at e2;clear LQ hq hd hoi;go_wp2_with fail
      go_roundg (s.af.length-(i+1))
      case measure=>omega
      case rel=>exact⟨i+1,by omega,by go_num,rfl,HN.out⟩
    ·have ND:=beq_eq_false_iff_ne.2 hq
     have HN:Hid (∀j (hj:j<s.af.length),j<i+1->¬(s.af[j].outer=k/\s.af[j].dflt=true)):=ae (λj hj Kv=>by
      by_cases e:j=i
      ·subst e;omega
      ·exact HA.out j hj (by omega))
     obtain⟨o,LQ⟩:∃o,o=s.af[i].outer:=⟨_,rfl⟩;rw[<-LQ]at e1 ND;clear LQ hq hoi;go_wp2_with fail
     go_roundg (s.af.length-(i+1))
     case measure=>omega
     case rel=>exact⟨i+1,by omega,by go_num,rfl,HN.out⟩
   ·have mQ:¬(i:Int)<s.af.length:=by omega
    have HD:=ae (VD (λj hj=>HA.out j hj (by omega)));go_wp2_with fail;go_ret;exact⟨by rw[lj.out,HD.out];rfl,rfl⟩
structure Eg(w:World)(jb bx gt off n c a:Nat)(vb vn:Value):Prop where
 box:w.heap[jb]?=some (.cells #[.pointer (some ⟨bx,0,none⟩),.slice (some ⟨gt,off*4,none⟩) n c,.int .i64 a,vb,vn] 257 (0,0))
def gR(ts:List Hx.Tok)(off n:Nat):List Hx.Tok:=(ts.drop off).take n
theorem FM(h:off+n<=ts.length)(ha:a<n):(gR ts off n).drop a=ts[off+a]'(by omega)::(gR ts off n).drop (a+1):=by
 grind[gR,List.drop_eq_getElem_cons]
theorem ab8(ha:n<=a):(gR ts off n).drop a=[]:=by
 grind[gR,List.drop_eq_nil_iff]
theorem ix(w:World)(jb bx gt off n c a:Nat)(vb vn:Value)(ts:List Hx.Tok)(m:ByteArray)(h:Eg w jb bx gt off n c a vb vn)(hT:br w gt ts)(hn:off+n<=ts.length)(ha:a<=n)(hb:n<=10000):
  Calls Tryz.prog 188 #[.pointer (some ⟨jb,0,none⟩),.string m] w λe w'=>e=.returned (.bool (Cx.fc ((gR ts off n).drop a) m.toList).isSome)/\Eg w' jb bx gt off n c (if(Cx.fc ((gR ts off n).drop a) m.toList).isSome then a+1 else a) vb vn/\Kp (λk=>k=jb) w w':=by
 have b1:=Lib.cell_of_heap h.box 1;have b2:=Lib.cell_of_heap h.box 2;have f2:=Lib.frozen_of_heap h.box 2;have HB:=ae h.box;have ha0:(0:Int)<=a:=by omega
 clear h
 by_cases hlt:a<n
 ·have mQ:(a:Int)<n:=by omega
  obtain⟨t0,t1,_,_⟩:=hT.shift off a (by omega)
  have HM:Hid ((Cx.fc ((gR ts off n).drop a) m.toList).isSome=(((ts[off+a]'(by omega)).s.toList==m.toList)&& !((ts[off+a]'(by omega)).k==110))):=ae (by
   rw[FM hn hlt];show(if _ then some _ else none).isSome=_
   grind)
  generalize ts[off+a]'(by omega)=t at*;have dlt:=decide_eq_true mQ;rw[HM.out];clear HM
  cases hs:(t.s.toList==m.toList)with
  |false=>
   go_enter Tryz.func188,Tryz.ntmps188;go_upto_region 1 with(fail)
   go_quiet (fail)
   go_wp2_with fail;go_ret;exact⟨rfl,⟨HB.out⟩,⟨rfl,rfl,rfl,Nat.le_refl _,λ_ _ _=>rfl⟩⟩
  |true=>
   cases hk:(t.k==110)with
   |true=>
    have QP:((t.k:Int) !=110)=false:=by
     have:=by simpa using hk
     simp[this]
    go_enter Tryz.func188,Tryz.ntmps188;go_upto_region 1 with(fail)
    go_quiet (fail)
    go_wp2_with fail;go_ret;exact⟨rfl,⟨HB.out⟩,⟨rfl,rfl,rfl,Nat.le_refl _,λ_ _ _=>rfl⟩⟩
   |false=>
    have QP:((t.k:Int) !=110)=true:=by
     have:=by simpa using hk
     simp[];omega
    go_enter Tryz.func188,Tryz.ntmps188;go_upto_region 1 with(fail)
    go_quiet (fail)
    go_wp2_with fail;go_ret;have Fj:Kp (λk=>k=jb) w (w.drewN nq):=⟨rfl,rfl,rfl,Nat.le_refl _,λ_ _ _=>rfl⟩;refine⟨rfl,⟨?_⟩,Fj.setCell (.inl rfl) _⟩;have jT:=aE (o:=2) (v:=.int .i64 ((a)+1)) (show(w.drewN nq).heap[jb]?=_ from HB.out)
    grind
 ·have mQ:¬(a:Int)<n:=by omega
  have HM:Hid ((Cx.fc ((gR ts off n).drop a) m.toList).isSome=false):=ae (by rw[ab8 (by omega)];rfl);have dlt:=decide_eq_false mQ;rw[HM.out];clear HM;go_enter Tryz.func188,Tryz.ntmps188;go_upto_region 1 with(fail)
  go_quiet (fail)
  go_wp2_with fail;go_ret;exact⟨rfl,⟨HB.out⟩,⟨rfl,rfl,rfl,Nat.le_refl _,λ_ _ _=>rfl⟩⟩
def JuR(jb bx gt off n c:Nat)(vb vn:Value)(ts:List Hx.Tok)(P:World->Prop)(b:Bool)(R:List Hx.Tok)(w:World)(e:Ending)(w':World):Prop:=
 e=.returned (.bool b)/\∃a,a<=n/\(gR ts off n).drop a=R/\Eg w' jb bx gt off n c a vb vn/\P w'/\Kp (λk=>k=jb) w w'
def JuC(F:Nat)(m:Cx.JM)(jb bx gt off n c:Nat)(vb vn:Value)(ts:List Hx.Tok)(P:World->Prop)(vs:List az)(xs:List Int)(f:Nat):Prop:=
 ∀(w:World)(a:Nat)(b:Bool)(R:List Hx.Tok),Eg w jb bx gt off n c a vb vn->P w->a<=n->Cx.jx vs xs f m ((gR ts off n).drop a)=some (b,R)->Calls Tryz.prog F #[.pointer (some ⟨jb,0,none⟩)] w (JuR jb bx gt off n c vb vn ts P b R w)
theorem ld{m:List UInt8}{r:List Hx.Tok}(h:Cx.fc ((gR ts off n).drop a) m=some r):(gR ts off n).drop (a+1)=r/\a<n:=by
 by_cases hl:a<(gR ts off n).length
 all_goals grind[List.drop_of_length_le,Cx.fc,List.drop_eq_getElem_cons,List.cons.injEq,gR]
theorem abX(jb bx gt off n c:Nat)(vb vn:Value)(ts:List Hx.Tok)(P:World->Prop)(vs:List az)(xs:List Int)(hT:∀w,P w->br w gt ts)(hP:∀w w',Kp (λk=>k=jb) w w'->P w->P w')(hn:off+n<=ts.length)(hb:n<=10000)(f:Nat)(H1:∀f',f'<=f->JuC 217 .one jb bx gt off n c vb vn ts P vs xs f'):
  JuC 187 .all jb bx gt off n c vb vn ts P vs xs (f+1):=by
 intro w a b R hj hp ha hx;unfold Cx.jx at hx;rw[Option.bind_eq_some_iff]at hx;obtain⟨⟨b1,R1⟩,ep,iB⟩:=hx;have ot:=ae (H1 f (Nat.le_refl _) w a b1 R1 hj hp ha ep);have HH:=ae H1;have HX:=ae iB;clear ep iB hj hp H1;go_enter Tryz.func187,Tryz.ntmps187;go_wp2_with fail;refine ot.out.mono ?_;rintro e w1 ⟨rfl,a1,ha1,zQ,Ri,rD,fL⟩;have HS:Hid (Eg w1 jb bx gt off n c a1 vb vn/\P w1/\Kp (λk=>k=jb) w w1/\Cx.jx vs xs f (.uh b1) ((gR ts off n).drop a1)=some (b,R)):=ae ⟨Ri,rD,fL,by rw[zQ];exact HX.out⟩;clear zQ Ri rD fL HX ot;go_upto_region 2 with(fail);go_wp2_with fail
 go_loopg [3,4,5] f (λm v3 _ _ wr=>∃(a':Nat)(b':Bool),m<=f/\v3=.bool b'/\a'<=n/\Eg wr jb bx gt off n c a' vb vn/\P wr/\Kp (λk=>k=jb) w wr/\Cx.jx vs xs m (.uh b') ((gR ts off n).drop a')=some (b,R))
 case atStart=>exact⟨a1,b1,Nat.le_refl _,rfl,ha1,HS.out⟩
 case round=>
  obtain⟨a',b',XG,rfl,ha',hj,hp,hk,hx⟩:=hrel;have Ek:=ae (ix wr jb bx gt off n c a' vb vn ts ⟨#[97,110,100]⟩ hj (hT wr hp) hn ha' hb);have qm:(⟨#[97,110,100]⟩:ByteArray).toList=Hx.gY:=by rw[Lib.toList_data]
  rw[qm]at Ek;obtain⟨g,rfl⟩:∃g,gk=g+1:=by
   cases gk with
   |zero=>simp[Cx.jx]at hx
   |succ g=>simp
  unfold Cx.jx at hx
  cases hm:Cx.fc ((gR ts off n).drop a') Hx.gY with
  |none=>
   rw[hm]at hx Ek;simp only [Option.some.injEq,Prod.mk.injEq]at hx;obtain⟨KX,hRR⟩:=hx;have HR:=ae hRR;have HK:=ae hk;have HP:=ae hp;have HBB:=ae KX;clear hm hj hk hp KX hRR;go_wp2_with fail;refine Ek.out.mono ?_;rintro e w2 ⟨rfl,px,fW⟩;have HF:Hid (Eg w2 jb bx gt off n c a' vb vn/\P w2/\Kp (λk=>k=jb) w w2):=ae ⟨px,hP _ _ fW HP.out,HK.out.trans fW (λ_ e=>.inl e)⟩;clear px fW Ek;go_wp2_with fail;go_ret;exact⟨by rw[HBB.out];rfl,a',ha',HR.out,HF.out.1,HF.out.2.1,HF.out.2.2⟩
  |some r=>
   rw[hm]at hx Ek;simp only at hx;rw[Option.bind_eq_some_iff]at hx;obtain⟨⟨b2,R2⟩,ep,iB⟩:=hx;obtain⟨hd,hlt⟩:=ld hm;rw[<-hd]at ep;have pJ:=ae ep;have Qg:=ae iB;have HK:=ae hk;have HP:=ae hp;clear ep iB hm hj hk hp hd;go_wp2_with fail;refine Ek.out.mono ?_;rintro e w2 ⟨rfl,px,fW⟩;have MY:=ae (HH.out g (by omega) w2 (a'+1) b2 R2 px (hP _ _ fW HP.out) (by omega) pJ.out);have iG:=ae (HK.out.trans fW (λ_ e=>.inl e));clear px fW Ek;go_upto_region 5 with(fail);go_wp2_with fail;refine MY.out.mono ?_;rintro e w3 ⟨rfl,a3,ha3,pY,Ea,pS,jq⟩;have HF:Hid (Eg w3 jb bx gt off n c a3 vb vn/\P w3/\Kp (λk=>k=jb) w w3/\Cx.jx vs xs g (.uh (b'&&b2)) ((gR ts off n).drop a3)=some (b,R)):=ae ⟨Ea,pS,iG.out.trans jq (λ_ e=>.inl e),by rw[pY];exact Qg.out⟩;clear pY Ea pS jq MY pJ Qg
   cases b' with
   |true=>
    go_wp2_with fail
    go_roundg g
    case measure=>omega
    case rel=>exact⟨a3,b2,by omega,rfl,ha3,HF.out⟩
   |false=>
    go_wp2_with fail
    go_roundg g
    case measure=>omega
    case rel=>exact⟨a3,false,by omega,rfl,ha3,HF.out⟩
theorem abY(jb bx gt off n c:Nat)(vb vn:Value)(ts:List Hx.Tok)(P:World->Prop)(vs:List az)(xs:List Int)(hT:∀w,P w->br w gt ts)(hP:∀w w',Kp (λk=>k=jb) w w'->P w->P w')(hn:off+n<=ts.length)(hb:n<=10000)(f:Nat)(H1:∀f',f'<=f->JuC 187 .all jb bx gt off n c vb vn ts P vs xs f'):
  JuC 146 .any jb bx gt off n c vb vn ts P vs xs (f+1):=by
 intro w a b R hj hp ha hx;unfold Cx.jx at hx;rw[Option.bind_eq_some_iff]at hx;obtain⟨⟨b1,R1⟩,ep,iB⟩:=hx;have ot:=ae (H1 f (Nat.le_refl _) w a b1 R1 hj hp ha ep);have HH:=ae H1;have HX:=ae iB;clear ep iB hj hp H1;go_enter Tryz.func146,Tryz.ntmps146;go_wp2_with fail;refine ot.out.mono ?_;rintro e w1 ⟨rfl,a1,ha1,zQ,Ri,rD,fL⟩;have HS:Hid (Eg w1 jb bx gt off n c a1 vb vn/\P w1/\Kp (λk=>k=jb) w w1/\Cx.jx vs xs f (.ui b1) ((gR ts off n).drop a1)=some (b,R)):=ae ⟨Ri,rD,fL,by rw[zQ];exact HX.out⟩;clear zQ Ri rD fL HX ot;go_upto_region 2 with(fail);go_wp2_with fail
 go_loopg [3,4,5] f (λm v3 _ _ wr=>∃(a':Nat)(b':Bool),m<=f/\v3=.bool b'/\a'<=n/\Eg wr jb bx gt off n c a' vb vn/\P wr/\Kp (λk=>k=jb) w wr/\Cx.jx vs xs m (.ui b') ((gR ts off n).drop a')=some (b,R))
 case atStart=>exact⟨a1,b1,Nat.le_refl _,rfl,ha1,HS.out⟩
 case round=>
  obtain⟨a',b',XG,rfl,ha',hj,hp,hk,hx⟩:=hrel;have Ek:=ae (ix wr jb bx gt off n c a' vb vn ts ⟨#[111,114]⟩ hj (hT wr hp) hn ha' hb);have qm:(⟨#[111,114]⟩:ByteArray).toList=Hx.qh:=by rw[Lib.toList_data]
  rw[qm]at Ek;obtain⟨g,rfl⟩:∃g,gk=g+1:=by
   cases gk with
   |zero=>simp[Cx.jx]at hx
   |succ g=>simp
  unfold Cx.jx at hx
  cases hm:Cx.fc ((gR ts off n).drop a') Hx.qh with
  |none=>
   rw[hm]at hx Ek;simp only [Option.some.injEq,Prod.mk.injEq]at hx;obtain⟨KX,hRR⟩:=hx;have HR:=ae hRR;have HK:=ae hk;have HP:=ae hp;have HBB:=ae KX;clear hm hj hk hp KX hRR;go_wp2_with fail;refine Ek.out.mono ?_;rintro e w2 ⟨rfl,px,fW⟩;have HF:Hid (Eg w2 jb bx gt off n c a' vb vn/\P w2/\Kp (λk=>k=jb) w w2):=ae ⟨px,hP _ _ fW HP.out,HK.out.trans fW (λ_ e=>.inl e)⟩;clear px fW Ek;go_wp2_with fail;go_ret;exact⟨by rw[HBB.out];rfl,a',ha',HR.out,HF.out.1,HF.out.2.1,HF.out.2.2⟩
  |some r=>
   rw[hm]at hx Ek;simp only at hx;rw[Option.bind_eq_some_iff]at hx;obtain⟨⟨b2,R2⟩,ep,iB⟩:=hx;obtain⟨hd,hlt⟩:=ld hm;rw[<-hd]at ep;have pJ:=ae ep;have Qg:=ae iB;have HK:=ae hk;have HP:=ae hp;clear ep iB hm hj hk hp hd;go_wp2_with fail;refine Ek.out.mono ?_;rintro e w2 ⟨rfl,px,fW⟩;have MY:=ae (HH.out g (by omega) w2 (a'+1) b2 R2 px (hP _ _ fW HP.out) (by omega) pJ.out);have iG:=ae (HK.out.trans fW (λ_ e=>.inl e));clear px fW Ek;go_upto_region 5 with(fail);go_wp2_with fail;refine MY.out.mono ?_;rintro e w3 ⟨rfl,a3,ha3,pY,Ea,pS,jq⟩;have HF:Hid (Eg w3 jb bx gt off n c a3 vb vn/\P w3/\Kp (λk=>k=jb) w w3/\Cx.jx vs xs g (.ui (b'||b2)) ((gR ts off n).drop a3)=some (b,R)):=ae ⟨Ea,pS,iG.out.trans jq (λ_ e=>.inl e),by rw[pY];exact Qg.out⟩;clear pY Ea pS jq MY pJ Qg
   cases b' with
   |true=>
    go_wp2_with fail
    go_roundg g
    case measure=>omega
    case rel=>exact⟨a3,true,by omega,rfl,ha3,HF.out⟩
   |false=>
    go_wp2_with fail
    go_roundg g
    case measure=>omega
    case rel=>exact⟨a3,b2,by omega,rfl,ha3,HF.out⟩
theorem Jy(jb bx gt off n c:Nat)(vb vn:Value)(ts:List Hx.Tok)(P:World->Prop)(vs:List az)(xs:List Int)(hT:∀w,P w->br w gt ts)(hP:∀w w',Kp (λk=>k=jb) w w'->P w->P w')(hn:off+n<=ts.length)(hb:n<=10000)(f:Nat)(H1:JuC 217 .one jb bx gt off n c vb vn ts P vs xs f)
  (w:World) (a:Nat) (b:Bool) (R:List Hx.Tok) (hj:Eg w jb bx gt off n c a vb vn) (hp:P w) (ha:a<=n) (hx:Cx.jx vs xs (f+1) .one ((gR ts off n).drop a)=some (b,R)) (hw:(Cx.fc ((gR ts off n).drop a) Hx.eK).isSome=true\/(Cx.fc ((gR ts off n).drop a) Hx.dQ).isSome=true):
  Calls Tryz.prog 217 #[.pointer (some ⟨jb,0,none⟩)] w (JuR jb bx gt off n c vb vn ts P b R w):=by
 have tM:=ae (ix w jb bx gt off n c a vb vn ts ⟨#[110,111,116]⟩ hj (hT w hp) hn ha hb);have qm:(⟨#[110,111,116]⟩:ByteArray).toList=Hx.eK:=by rw[Lib.toList_data]
 have hmt:(⟨#[116,114,117,101]⟩:ByteArray).toList=Hx.dQ:=by rw[Lib.toList_data]
 rw[qm]at tM;have HP:=ae hp;unfold Cx.jx at hx
 cases hm:Cx.fc ((gR ts off n).drop a) Hx.eK with
 |some r=>
  rw[hm]at hx tM;simp only at hx;rw[Option.map_eq_some_iff]at hx;obtain⟨⟨b1,R1⟩,ep,iB⟩:=hx;simp only [Prod.mk.injEq]at iB;obtain⟨rfl,rfl⟩:=iB;obtain⟨hd,hlt⟩:=ld hm;rw[<-hd]at ep;have pJ:=ae ep;have HH:=ae H1;clear ep hm hj hp hd hw H1;go_enter Tryz.func217,Tryz.ntmps217;go_wp2_with fail;refine tM.out.mono ?_;rintro e w2 ⟨rfl,px,fW⟩;have MY:=ae (HH.out w2 (a+1) b1 R1 px (hP _ _ fW HP.out) (by omega) pJ.out);have iG:=ae fW;clear px fW tM;go_upto_region 3 with(fail);go_wp2_with fail;refine MY.out.mono ?_;rintro e w3 ⟨rfl,a3,ha3,pY,Ea,pS,jq⟩;have HF:Hid (∃a',a'<=n/\(gR ts off n).drop a'=R1/\Eg w3 jb bx gt off n c a' vb vn/\P w3/\Kp (λk=>k=jb) w w3):=ae ⟨a3,ha3,pY,Ea,pS,iG.out.trans jq (λ_ e=>.inl e)⟩;clear pY Ea pS jq MY ha3;go_wp2_with fail;go_ret;exact⟨rfl,HF.out⟩
 |none=>
  rw[hm]at hx tM hw
  cases ht:Cx.fc ((gR ts off n).drop a) Hx.dQ with
  |none=>rw[ht]at hw;simp at hw
  |some r=>
   rw[ht]at hx;simp only [Option.some.injEq,Prod.mk.injEq]at hx;obtain⟨rfl,rfl⟩:=hx;obtain⟨hd,hlt⟩:=ld ht;have HD:=ae hd;have HT:=ae ht;have Rj:=ae hT;clear hm hj hp hd hw H1 ht hT;go_enter Tryz.func217,Tryz.ntmps217;go_wp2_with fail;refine tM.out.mono ?_;rintro e w2 ⟨rfl,px,fW⟩;have fQ:=ae (hP _ _ fW HP.out);have Rh:=ae (ix w2 jb bx gt off n c a vb vn ts ⟨#[116,114,117,101]⟩ px (Rj.out w2 fQ.out) hn ha hb);rw[hmt,HT.out]at Rh;have iG:=ae fW;clear px fW tM;go_upto_region 5 with(fail);go_wp2_with fail;refine Rh.out.mono ?_;rintro e w3 ⟨rfl,Ea,jq⟩;have HF:Hid (∃a',a'<=n/\(gR ts off n).drop a'=r/\Eg w3 jb bx gt off n c a' vb vn/\P w3/\Kp (λk=>k=jb) w w3):=ae ⟨a+1,by omega,HD.out,Ea,hP _ _ jq fQ.out,iG.out.trans jq (λ_ e=>.inl e)⟩;clear Ea jq Rh;go_wp2_with fail;go_ret;exact⟨rfl,HF.out⟩
theorem Vu(jb bx gt off n c:Nat)(vb vn:Value)(ts:List Hx.Tok)(P:World->Prop)(vs:List az)(xs:List Int)(hT:∀w,P w->br w gt ts)(hP:∀w w',Kp (λk=>k=jb) w w'->P w->P w')(hn:off+n<=ts.length)(hb:n<=10000)(f:Nat)(H2:JuC 146 .any jb bx gt off n c vb vn ts P vs xs f)
  (w:World) (a:Nat) (b:Bool) (R:List Hx.Tok) (hj:Eg w jb bx gt off n c a vb vn) (hp:P w) (ha:a<=n) (hx:Cx.jx vs xs (f+1) .one ((gR ts off n).drop a)=some (b,R)) (h1:Cx.fc ((gR ts off n).drop a) Hx.eK=none) (h2:Cx.fc ((gR ts off n).drop a) Hx.dQ=none) (r:List Hx.Tok) (h3:Cx.fc ((gR ts off n).drop a) Hx.jY=some r):
  Calls Tryz.prog 217 #[.pointer (some ⟨jb,0,none⟩)] w (JuR jb bx gt off n c vb vn ts P b R w):=by
 have tM:=ae (ix w jb bx gt off n c a vb vn ts ⟨#[110,111,116]⟩ hj (hT w hp) hn ha hb);have qm:(⟨#[110,111,116]⟩:ByteArray).toList=Hx.eK:=by rw[Lib.toList_data]
 have hmt:(⟨#[116,114,117,101]⟩:ByteArray).toList=Hx.dQ:=by rw[Lib.toList_data]
 have iq:(⟨#[40]⟩:ByteArray).toList=Hx.jY:=by rw[Lib.toList_data]
 have hmr:(⟨#[41]⟩:ByteArray).toList=Hx.qU:=by rw[Lib.toList_data]
 rw[qm,h1]at tM;have HP:=ae hp;unfold Cx.jx at hx;rw[h1,h2,h3]at hx;simp only at hx;rw[Option.map_eq_some_iff]at hx;obtain⟨⟨b1,R1⟩,ep,iB⟩:=hx;simp only [Prod.mk.injEq]at iB;obtain⟨rfl,hR⟩:=iB;obtain⟨hd,hlt⟩:=ld h3;rw[<-hd]at ep;have pJ:=ae ep;have HR:=ae hR;have HH:=ae H2;have Rj:=ae hT;have H2N:=ae h2;have H3S:=ae h3;clear ep hR hj hp hd H2 hT h1 h2 h3;go_enter Tryz.func217,Tryz.ntmps217;go_wp2_with fail;refine tM.out.mono ?_;rintro e w2 ⟨rfl,px,fW⟩;have fQ:=ae (hP _ _ fW HP.out);have Rh:=ae (ix w2 jb bx gt off n c a vb vn ts ⟨#[116,114,117,101]⟩ px (Rj.out w2 fQ.out) hn ha hb);rw[hmt,H2N.out]at Rh;have iG:=ae fW;clear px fW tM;go_upto_region 5 with(fail);go_wp2_with fail;refine Rh.out.mono ?_;rintro e w3 ⟨rfl,Ea,jq⟩;have nT:=ae (hP _ _ jq fQ.out);have HM3:=ae (ix w3 jb bx gt off n c a vb vn ts ⟨#[40]⟩ Ea (Rj.out w3 nT.out) hn ha hb);rw[iq,H3S.out]at HM3;have kj:=ae (iG.out.trans jq (λ_ e=>.inl e));clear Ea jq Rh iG;go_upto_region 8 with(fail);go_wp2_with fail;refine HM3.out.mono ?_;rintro e w4 ⟨rfl,hj4,tL⟩;have HC4:=ae (HH.out w4 (a+1) b1 R1 hj4 (hP _ _ tL nT.out) (by omega) pJ.out);have pT:=ae (kj.out.trans tL (λ_ e=>.inl e));clear hj4 tL HM3 kj;go_upto_region 10 with(fail);go_wp2_with fail;refine HC4.out.mono ?_;rintro e w5 ⟨rfl,a5,ha5,hd5,hj5,XC,lm⟩;have Kk:=ae XC;have HM5:=ae (ix w5 jb bx gt off n c a5 vb vn ts ⟨#[41]⟩ hj5 (Rj.out w5 XC) hn ha5 hb);rw[hmr]at HM5;have zm:=ae (pT.out.trans lm (λ_ e=>.inl e));have HD5:=ae hd5;clear hj5 lm XC hd5 HC4 pT;go_upto_region 11 with(fail);go_wp2_with fail;refine HM5.out.mono ?_;rintro e w6 ⟨rfl,hj6,DU⟩
 have HF:Hid (∃a',a'<=n/\(gR ts off n).drop a'=R/\Eg w6 jb bx gt off n c a' vb vn/\P w6/\Kp (λk=>k=jb) w w6):=ae (by
  have hk:=zm.out.trans DU (λ_ e=>.inl e);have hp6:=hP _ _ DU Kk.out;have hr:=HR.out;rw[<-HD5.out]at hr
  cases hm:Cx.fc ((gR ts off n).drop a5) Hx.qU with
  |none=>
   rw[hm]at hj6 hr;exact⟨a5,ha5,hr,hj6,hp6,hk⟩
  |some r6=>
   rw[hm]at hj6 hr;obtain⟨hd6,azZ⟩:=ld hm
   exact⟨a5+1,by omega,hd6.trans hr,hj6,hp6,hk⟩)
 clear hj6 DU HM5;go_wp2_with fail;go_ret;exact⟨rfl,HF.out⟩
end
section
open Go.RowKit
attribute [local go_sem↓] Go.wp_at_zero Go.wp_at_succ
theorem Vs{f:Nat}{b:Bool}{R:List Hx.Tok}(hn:off+n<=ts.length)(ha:a<=n)(hx:Cx.jx vs xs (f+1) .one ((gR ts off n).drop a)=some (b,R))(h1:Cx.fc ((gR ts off n).drop a) Hx.eK=none)(h2:Cx.fc ((gR ts off n).drop a) Hx.dQ=none)(h3:Cx.fc ((gR ts off n).drop a) Hx.jY=none):
  ∃(was:Bool)(j:Nat)(h:off+(j+2)<ts.length),j+3<=n/\(ts[off+j]'(by omega)).k=110/\ts[off+j]'(by omega)∈gR ts off n/\b=Cx.EP vs xs was (ts[off+j]'(by omega)) (ts[off+(j+1)]'(by omega)) (ts[off+(j+2)]'h)/\R=(gR ts off n).drop (j+3)/\(Cx.fc ((gR ts off n).drop a) Hx.ew).isSome=was/\(if was then a+1 else a)=j:=by
 have key:∀(was:Bool)(j:Nat),j<=n->Cx.atJ vs xs was ((gR ts off n).drop j)=some (b,R)->∃h:off+(j+2)<ts.length,j+3<=n/\(ts[off+j]'(by omega)).k=110/\ts[off+j]'(by omega)∈gR ts off n/\b=Cx.EP vs xs was (ts[off+j]'(by omega)) (ts[off+(j+1)]'(by omega)) (ts[off+(j+2)]'h)/\R=(gR ts off n).drop (j+3):=by
  intro was j hj e;have hl:(gR ts off n).length=n:=by simp[gR];omega
  have h3':j+3<=n:=by
   rcases Nat.lt_or_ge n (j+3)with q|q
   ·exfalso
    have hlen:((gR ts off n).drop j).length<3:=by rw[List.length_drop,hl];omega
    revert e;generalize (gR ts off n).drop j=l at hlen
    match l,hlen with
    |[],_=>intro e;cases e
    |[_],_=>intro e;cases e
    |[_,_],_=>intro e;cases e
    |_::_::_::_,h=>grind
   ·exact q
  have hm:ts[off+j]'(by omega)∈gR ts off n:=by
   rw[List.mem_iff_getElem];exact⟨j,by omega,by simp[gR]⟩
  rw[FM hn (show j<n by omega),FM hn (show j+1<n by omega),FM hn (show j+1+1<n by omega)]at e
  by_cases hk:(ts[off+j]'(by omega)).k=110
  ·have e2:=(if_pos hk).symm.trans e
   grind
  ·have e2:=(if_neg hk).symm.trans e
   cases e2
 unfold Cx.jx at hx;rw[h1,h2,h3]at hx;simp only at hx
 cases hm:Cx.fc ((gR ts off n).drop a) Hx.ew with
 |none=>
  grind
 |some r=>
  rw[hm]at hx;obtain⟨hd,hlt⟩:=ld hm
  grind
theorem uL(n:ByteArray):∀(l:List ByteArray)(k:Nat),l.findIdx (λa=>a.toList==n.toList)<l.length->Hx.place n k l=((k+l.findIdx (λa=>a.toList==n.toList):Nat):Int)
 |[],k,h=>by simp at h
 |v::l,k,h=>by
  rw[List.findIdx_cons]at h|-
  cases e:(v.toList==n.toList)with
  |true=>rw[Hx.place,if_pos e];rfl
  |false=>
   rw[e]at h;rw[Hx.place,if_neg (by simp[e]),uL n l (k+1) (by grind)]
   grind
theorem Qr(vs:List az)(n:ByteArray)(h:Cx.dY vs n<vs.length):Hx.place n 0 ((vs.map az.p).map (·.name))=Cx.dY vs n:=by
 have e:((vs.map az.p).map (·.name)).findIdx (λa=>a.toList==n.toList)=Cx.dY vs n:=by simp only [List.findIdx_map];rfl
 simp_all[uL,Nat.zero_add]
theorem Mm(ms:List Hx.MA)(n:ByteArray)(h:Cx.fE ms n<ms.length):Hx.place n 0 ((ms.map Hx.MA.p).map (·.name))=Cx.fE ms n:=by
 have e:((ms.map Hx.MA.p).map (·.name)).findIdx (λa=>a.toList==n.toList)=Cx.fE ms n:=by simp only [List.findIdx_map];rfl
 simp_all[uL,Nat.zero_add]
theorem abS{ns:List Int}{k:Nat}(hb:bs.length=m)(hk:k<m):(bs++ns).getD (k+0) 0=bs[k]'(by omega):=by
 grind
theorem abT{ns:List Int}{k:Nat}(hb:bs.length=m)(hk:k<ns.length):(bs++ns).getD (k+m) 0=ns[k]:=by
 grind
structure JCx(w0:World)(base bx:Nat)(vt:Value)(gt:Nat)(ts:List Hx.Tok)(s:Hx.St)(F:Nat->Prop)(vs:List az)(ab an:Option Addr)(bs ns:List Int):Prop where
 jU:db w0 base bx vt gt ts s F
 tok:br w0 gt ts
 vars:s.vars=vs.map az.p
 oM:vs.length<=3
 bl:bs.length=vs.length
 nl:ns.length=vs.length
 bef:Xt w0 ab bs
 now:Xt w0 an ns
theorem abU(o:ByteArray):(o.toList==[60])=true\/((o.toList==[60])=false/\(o.toList==[60,61])=true)\/((o.toList==[60])=false/\(o.toList==[60,61])=false/\(o.toList==[61,61])=true)\/((o.toList==[60])=false/\(o.toList==[60,61])=false/\(o.toList==[61,61])=false/\(o.toList==[33,61])=true)\/
  ((o.toList==[60])=false/\(o.toList==[60,61])=false/\(o.toList==[61,61])=false/\(o.toList==[33,61])=false/\(o.toList==[62,61])=true)\/((o.toList==[60])=false/\(o.toList==[60,61])=false/\(o.toList==[61,61])=false/\(o.toList==[33,61])=false/\(o.toList==[62,61])=false):=by
 grind
theorem Vt{ns:List Int}(hC:JCx w0 base bx vt gt ts s F vs ab an bs ns)(jb off n c cb cn:Nat)(hjb:w0.heap.size<=jb)(hn:off+n<=ts.length)(hb:n<=10000)(hV:∀t∈gR ts off n,t.k=110->Cx.dY vs t.s<vs.length)(f:Nat)
  (w:World) (a:Nat) (b:Bool) (R:List Hx.Tok) (hj:Eg w jb bx gt off n c a (.slice ab bs.length cb) (.slice an ns.length cn)) (hp:Below w0.heap.size w0 w) (ha:a<=n) (hx:Cx.jx vs (bs++ns) (f+1) .one ((gR ts off n).drop a)=some (b,R)) (h1:Cx.fc ((gR ts off n).drop a) Hx.eK=none) (h2:Cx.fc ((gR ts off n).drop a) Hx.dQ=none) (h3:Cx.fc ((gR ts off n).drop a) Hx.jY=none):
  Calls Tryz.prog 217 #[.pointer (some ⟨jb,0,none⟩)] w (JuR jb bx gt off n c (.slice ab bs.length cb) (.slice an ns.length cn) ts (λw=>Below w0.heap.size w0 w) b R w):=by
 have hT:∀w,Below w0.heap.size w0 w->br w gt ts:=λw h=>by
  intro i hi;obtain⟨t0,t1,t2,t3⟩:=hC.tok i hi;have hl:gt<w0.heap.size:=World.block_lt_of_cell? w0 ⟨gt,i*4,none⟩ t0;exact⟨(h.cell hl).trans t0,(h.cell hl).trans t1,(h.cell hl).trans t2,(h.cell hl).trans t3⟩
 have hP:∀w w',Kp (λk=>k=jb) w w'->Below w0.heap.size w0 w->Below w0.heap.size w0 w':=λw w' hk h=>h.trans (hk.toBelow (λk e=>by omega) h.size)
 obtain⟨was,j,iP,Ea,hk,LC,rfl,rfl,Ve,hjj⟩:=Vs hn ha hx h1 h2 h3;have hv:=hV _ LC hk;have HW:=ae Ve;have HJJ:=ae hjj;clear Ve hjj;obtain⟨tn,Xi⟩:∃tn,tn=ts[off+j]'(by omega):=⟨_,rfl⟩;obtain⟨tp,hgo⟩:∃tp,tp=ts[off+(j+1)]'(by omega):=⟨_,rfl⟩;obtain⟨ti,hgi⟩:∃ti,ti=ts[off+(j+2)]'(by omega):=⟨_,rfl⟩;rw[<-Xi]at hv;rw[<-Xi,<-hgo,<-hgi];have HGN:=ae Xi;have HGO:=ae hgo;have HGI:=ae hgi;have qm:(⟨#[110,111,116]⟩:ByteArray).toList=Hx.eK:=by rw[Lib.toList_data]
 have hmt:(⟨#[116,114,117,101]⟩:ByteArray).toList=Hx.dQ:=by rw[Lib.toList_data]
 have iq:(⟨#[40]⟩:ByteArray).toList=Hx.jY:=by rw[Lib.toList_data]
 have hmw:(⟨#[119,97,115]⟩:ByteArray).toList=Hx.ew:=by rw[Lib.toList_data]
 have tM:=ae (ix w jb bx gt off n c a _ _ ts ⟨#[110,111,116]⟩ hj (hT w hp) hn ha hb);rw[qm,h1]at tM;have HP:=ae hp;have Rj:=ae hT;have HHP:=ae hP;have HC:=ae hC;have H2:=ae h2;have H3:=ae h3;clear Xi hgo hgi hj hp hT hP hx h1 h2 h3 LC hk hV qm hC;go_enter Tryz.func217,Tryz.ntmps217;go_wp2_with fail;refine tM.out.mono ?_;rintro e w2 ⟨rfl,px,fW⟩;have fQ:=ae (HHP.out _ _ fW HP.out);have Rh:=ae (ix w2 jb bx gt off n c a _ _ ts ⟨#[116,114,117,101]⟩ px (Rj.out w2 fQ.out) hn ha hb);rw[hmt,H2.out]at Rh;have iG:=ae fW;clear px fW tM hmt;go_upto_region 5 with(fail);go_wp2_with fail;refine Rh.out.mono ?_;rintro e w3 ⟨rfl,alK,jq⟩;have nT:=ae (HHP.out _ _ jq fQ.out);have HM3:=ae (ix w3 jb bx gt off n c a _ _ ts ⟨#[40]⟩ alK (Rj.out w3 nT.out) hn ha hb);rw[iq,H3.out]at HM3;have kj:=ae (iG.out.trans jq (λ_ e=>.inl e));clear alK jq Rh iG fQ iq;go_upto_region 8 with(fail);go_wp2_with fail;refine HM3.out.mono ?_;rintro e w4 ⟨rfl,hj4,tL⟩;have FI:=ae (HHP.out _ _ tL nT.out);have HM4:=ae (ix w4 jb bx gt off n c a _ _ ts ⟨#[119,97,115]⟩ hj4 (Rj.out w4 FI.out) hn ha hb);rw[hmw,HW.out,HJJ.out]at HM4;have pT:=ae (kj.out.trans tL (λ_ e=>.inl e));clear hj4 tL HM3 kj nT hmw;go_upto_region 13 with(fail);go_wp2_with fail;refine HM4.out.mono ?_;rintro e w5 ⟨rfl,hj5,lm⟩;have hP5:=HHP.out _ _ lm FI.out;have zm:=ae (pT.out.trans lm (λ_ e=>.inl e));obtain⟨b0,b1,b2,b3,b4⟩:=eN hj5.box;have f2:=Lib.frozen_of_heap hj5.box 2;obtain⟨_,t1,_,_⟩:=(Rj.out _ hP5).shift off j (by omega);obtain⟨_,o1,_,_⟩:=(Rj.out _ hP5).shift off (j+1) (by omega);obtain⟨_,_,i2,_⟩:=(Rj.out _ hP5).shift off (j+2) (by omega)
 have xh:Hid (∀Y,Below w5.heap.size w5 Y->Calls Tryz.prog 141 #[.pointer (some ⟨bx,0,none⟩),.string tn.s] Y λe w'=>e=.returned (.int .i64 (Cx.dY vs tn.s))/\w'=Y):=ae (λY hY=>by
  have:=yJ Y base bx vt gt ts s F tn.s (HC.out.jU.below (hP5.trans (hY.mono hP5.size))) (by rw[HC.out.vars,List.length_map];have:=HC.out.oM;omega);rw[HC.out.vars,Qr vs _ hv]at this
  exact this)
 rw[<-HGN.out]at t1;rw[<-HGO.out]at o1;rw[<-HGI.out]at i2;have fM:=ae hj5.box;have Kk:=ae hP5;clear hP5 hj5 lm HM4 pT FI;obtain⟨v,hve⟩:∃v,v=Cx.dY vs tn.s:=⟨_,rfl⟩;rw[<-hve]at hv xh;have HVE:=ae hve;obtain⟨gb,ob,hab,n3⟩:=HC.out.bef v (by rw[HC.out.bl];exact hv);obtain⟨gn,on,Xn,n4⟩:=HC.out.now v (by rw[HC.out.nl];exact hv);have hbv:v<bs.length:=by rw[HC.out.bl];exact hv
 have hnv:v<ns.length:=by rw[HC.out.nl];exact hv
 have l3:gb<w0.heap.size:=World.block_lt_of_cell? w0 ⟨gb,ob+v,none⟩ n3;have l4:gn<w0.heap.size:=World.block_lt_of_cell? w0 ⟨gn,on+v,none⟩ n4;have m3:=(Kk.out.cell l3).trans n3;have m4:=(Kk.out.cell l4).trans n4;subst hab Xn;rw[show bs[v]=(bs++ns).getD (v+0) 0 from(abS HC.out.bl hv).symm]at m3;rw[(abT HC.out.bl hnv).symm]at m4;have hjn:(j:Int)<n:=by omega
 have zg:(0:Int)<=j:=by omega
 clear hve n3 n4 hv;go_upto_region 14 with(fail)
 go_region_held3 (λW=>W.cell? ⟨jb,0,none⟩=some (.pointer (some ⟨bx,0,none⟩))/\W.cell? ⟨jb,1,none⟩=some (.slice (some ⟨gt,off*4,none⟩) n c)/\W.cell? ⟨jb,2,none⟩=some (.int .i64 j)/\W.cell? ⟨gt,off*4+j*4+1,none⟩=some (.string tn.s)) (first|go_keep|(exact⟨by with_reducible assumption,by with_reducible assumption,by with_reducible assumption,by with_reducible assumption⟩))
  ((go_at_call 141;with_reducible refine(xh.out _ ?_).mono ?_;exact⟨rfl,rfl,rfl,Nat.le_refl _,λ_ _=>rfl⟩;rintro e w6 ⟨rfl,rfl⟩))
 have Ri:(j:Int)+1<n:=by omega
 have azv:(0)<=(j:Int)+1:=by omega
 have wj1:IntKind.i64.wrap ((j)+1)=(j)+1:=IntWalk.i64_in _ (by omega);have tj1:((j:Int)+1).toNat=j+1:=by omega
 have px:(j:Int)+2<n:=by omega
 have aoA:(0)<=(j:Int)+2:=by omega
 have wj2:IntKind.i64.wrap ((j)+2)=(j)+2:=IntWalk.i64_in _ (by omega);have tj2:((j:Int)+2).toNat=j+2:=by omega
 have wj3:IntKind.i64.wrap ((j)+3)=(j)+3:=IntWalk.i64_in _ (by omega);go_upto_region 15 with(fail)
 go_quiet (fail)
 go_upto_region 16 with(fail)
 go_quiet (fail)
 have azz:¬jb=gn:=by omega
 have azA:¬jb=gb:=by omega
 have azB:¬gn=jb:=by omega
 have azC:¬gb=jb:=by omega
 have xi:(v:Int)<bs.length:=by omega
 have tJ:(v:Int)<ns.length:=by omega
 have hv0:(0:Int)<=v:=by omega
 obtain⟨xb,hxb⟩:∃xb,xb=(bs++ns).getD (v+0) 0:=⟨_,rfl⟩;obtain⟨xn,hxn⟩:∃xn,xn=(bs++ns).getD (v+vs.length) 0:=⟨_,rfl⟩;rw[<-hxb]at m3;rw[<-hxn]at m4
 have jc:Hid (∀q,∀b,b=Cx.EP vs (bs++ns) was tn tp ti->JuR jb bx gt off n c (.slice (some ⟨gb,ob,none⟩) bs.length cb) (.slice (some ⟨gn,on,none⟩) ns.length cn) ts (λw=>Below w0.heap.size w0 w) (Cx.EP vs (bs++ns) was tn tp ti) ((gR ts off n).drop (j+3)) w (.returned (.bool b)) ((w5.drewN q).setCell ⟨jb,2,none⟩ (.int .i64 ((j)+3)))):=ae (λq b zj=>by
  have hk:Kp (λk=>k=jb) w5 ((w5.drewN q).setCell ⟨jb,2,none⟩ (.int .i64 ((j)+3))):=((Kp.refl (λk=>k=jb) w5).drewN q).setCell (.inl rfl) _
  exact⟨by rw[zj],j+3,Ea,rfl,⟨aE (fM.out)⟩,HHP.out _ _ hk Kk.out,zm.out.trans hk (λ_ e=>.inl e)⟩)
 have abV:Hid (Cx.EP vs (bs++ns) was tn tp ti=if Cx.fx tp.s [60]then decide ((if was then xb else xn)<ti.n)else if Cx.fx tp.s [60,61]then decide ((if was then xb else xn)<=ti.n)else if Cx.fx tp.s [61,61]then(if was then xb else xn)==ti.n else if Cx.fx tp.s [33,61]then(if was then xb else xn) !=ti.n else if Cx.fx tp.s [62,61]then decide (ti.n<=(if was then xb else xn))else decide (ti.n<(if was then xb else xn))):=ae (by
  unfold Cx.EP;rw[<-HVE.out,hxb,hxn]
  cases was<;>rfl)
 unfold Cx.fx at abV;clear hxb hxn fM
 cases was
 all_goals
  simp only [if_true,Bool.false_eq_true,if_false]at abV;go_upto_region 21 with(fail);rcases abU tp.s with p0|⟨p0,p1⟩|⟨p0,p1,p2⟩|⟨p0,p1,p2,p3⟩|⟨p0,p1,p2,p3,p4⟩|⟨p0,p1,p2,p3,p4⟩
  all_goals
   simp only [*,if_true,Bool.false_eq_true,if_false]at abV;go_wp2_with fail;go_ret;exact jc.out _ _ abV.out.symm
theorem Qs{ns:List Int}(hC:JCx w0 base bx vt gt ts s F vs ab an bs ns)(jb off n c cb cn:Nat)(hjb:w0.heap.size<=jb)(hn:off+n<=ts.length)(hb:n<=10000)(hV:∀t∈gR ts off n,t.k=110->Cx.dY vs t.s<vs.length):∀f,
  JuC 217 .one jb bx gt off n c (.slice ab bs.length cb) (.slice an ns.length cn) ts (λw=>Below w0.heap.size w0 w) vs (bs++ns) f/\JuC 187 .all jb bx gt off n c (.slice ab bs.length cb) (.slice an ns.length cn) ts (λw=>Below w0.heap.size w0 w) vs (bs++ns) f/\JuC 146 .any jb bx gt off n c (.slice ab bs.length cb) (.slice an ns.length cn) ts (λw=>Below w0.heap.size w0 w) vs (bs++ns) f:=by
 have hT:∀w,Below w0.heap.size w0 w->br w gt ts:=λw h i hi=>by
  obtain⟨t0,t1,t2,t3⟩:=hC.tok i hi;have hl:gt<w0.heap.size:=World.block_lt_of_cell? w0 ⟨gt,i*4,none⟩ t0;exact⟨(h.cell hl).trans t0,(h.cell hl).trans t1,(h.cell hl).trans t2,(h.cell hl).trans t3⟩
 have hP:∀w w',Kp (λk=>k=jb) w w'->Below w0.heap.size w0 w->Below w0.heap.size w0 w':=λw w' hk h=>h.trans (hk.toBelow (λk e=>by omega) h.size)
 intro f
 induction f using Nat.strongRecOn with
 |ind f ih=>
  cases f with
  |zero=>exact⟨λw a b R _ _ _ h=>by simp[Cx.jx]at h,λw a b R _ _ _ h=>by simp[Cx.jx]at h,λw a b R _ _ _ h=>by simp[Cx.jx]at h⟩
  |succ f=>
   refine⟨λw a b R hj hp ha hx=>?_,abX jb bx gt off n c _ _ ts _ vs _ hT hP hn hb f (λg hg=>(ih g (by omega)).1),abY jb bx gt off n c _ _ ts _ vs _ hT hP hn hb f (λg hg=>(ih g (by omega)).2.1)⟩
   cases h1:Cx.fc ((gR ts off n).drop a) Hx.eK with
   |some r=>exact Jy jb bx gt off n c _ _ ts _ vs _ hT hP hn hb f (ih f (by omega)).1 w a b R hj hp ha hx (.inl (by grind))
   |none=>
    cases h2:Cx.fc ((gR ts off n).drop a) Hx.dQ with
    |some r=>exact Jy jb bx gt off n c _ _ ts _ vs _ hT hP hn hb f (ih f (by omega)).1 w a b R hj hp ha hx (.inr (by grind))
    |none=>
     cases h3:Cx.fc ((gR ts off n).drop a) Hx.jY with
     |some r=>exact Vu jb bx gt off n c _ _ ts _ vs _ hT hP hn hb f (ih f (by omega)).2.2 w a b R hj hp ha hx h1 h2 r h3
     |none=>exact Vt hC jb off n c cb cn hjb hn hb hV f w a b R hj hp ha hx h1 h2 h3
theorem Mn{ns:List Int}(hC:JCx w0 base bx vt gt ts s F vs ab an bs ns)(jb off n c cb cn:Nat)(hjb:w0.heap.size<=jb)(hn:off+n<=ts.length)(hb:n<=10000)(hV:∀t∈gR ts off n,t.k=110->Cx.dY vs t.s<vs.length)(b:Bool)(hx:Cx.Jx vs (bs++ns) .any (gR ts off n) b [])
  (w:World) (hj:Eg w jb bx gt off n c 0 (.slice ab bs.length cb) (.slice an ns.length cn)) (hp:Below w0.heap.size w0 w):
  Calls Tryz.prog 146 #[.pointer (some ⟨jb,0,none⟩)] w λe w'=>e=.returned (.bool b)/\Kp (λk=>k=jb) w w':=by
 obtain⟨f,hf⟩:=hx;refine((Qs hC jb off n c cb cn hjb hn hb hV f).2.2 w 0 b [] hj hp (Nat.zero_le _) hf).mono ?_;rintro e w' ⟨he,_,_,_,_,_,hk⟩
 grind
