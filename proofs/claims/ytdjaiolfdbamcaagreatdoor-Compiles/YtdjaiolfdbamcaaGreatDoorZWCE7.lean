/- The walk of Encode. -/
import Derived.Test.YtdjaiolfdbamcaaGreatDoorZWCF8
import Derived.Lib.SlBytesConst
set_option maxRecDepth 20000
set_option maxHeartbeats 4000000
namespace Go.Proofs.YtdjaiolfdbamcaaGreatDoor
variable {w:World}{T b base e n s:Nat}{v:Value}{xs:List Value}{l:List UInt8}
section
open Go.RowKit
attribute [local go_sem↓] Go.wp_at_zero Go.wp_at_succ
theorem du{size:Nat}{c:Array Value}(h:w.ownsRow base e size v n xs)(hb:w.heap[b]?=some (.cells c T (0,0)))(hT:T≠e):∀k,v.ownBlock=some k->k≠b:=by
 intro k hk;rcases h.2 with⟨rfl,_⟩|⟨g,cap,cur,rfl,_,hg,_⟩
 ·cases hk
 ·simp[Value.ownBlock]at hk
  grind
theorem Po(s:ByteArray):Lib.strCells s=s.data.toList.map Cx.bV:=by
 simp[Lib.strCells,Cx.bV]
namespace Cx
def ez(p:Int×Int):List UInt8:=two p.1++two p.2
def eX(p:ByteArray×List UInt8):List UInt8:=UInt8.ofNat p.1.size::(p.1.data.toList++two p.2.length++p.2)
def eh(vars:List (Int×Int)):List UInt8:=[72,69,76,77,49,UInt8.ofNat vars.length]
def ng(vars:List (Int×Int))(lp:List (ByteArray×List UInt8))(first:Nat):List UInt8:=
 eh vars++vars.flatMap ez++[UInt8.ofNat lp.length,UInt8.ofNat first]++lp.flatMap eX
end Cx
structure aj7(w:World)(c:Nat)(av al:Option Addr)(vars:List (Int×Int))(lp:List (ByteArray×List UInt8)):Prop where
 vars:∀i (hi:i<vars.length),∃g,av=some ⟨g,0,none⟩/\g<c/\w.cell? ⟨g,i*2,none⟩=some (.int .i64 vars[i].1)/\w.cell? ⟨g,i*2+1,none⟩=some (.int .i64 vars[i].2)
 lp:∀i (hi:i<lp.length),∃g gp cp,al=some ⟨g,0,none⟩/\g<c/\w.cell? ⟨g,i*2,none⟩=some (.string lp[i].1)/\w.cell? ⟨g,i*2+1,none⟩=some (.slice (some ⟨gp,0,none⟩) lp[i].2.length cp)/\gp<c/\∀k (hk:k<lp[i].2.length),w.cell? ⟨gp,k,none⟩=some (Cx.bV lp[i].2[k])
 le:c<=w.heap.size
theorem Ls(w:World)(av al:Option Addr)(cv cl first:Nat)(vars:List (Int×Int))(lp:List (ByteArray×List UInt8))(h:aj7 w w.heap.size av al vars lp)(hv:vars.length<=100)(hl:lp.length<=100)(hf:first<=200)(hn:∀p∈lp,p.1.size<=100/\p.2.length<=80000)(zj:(Cx.ng vars lp first).length<=80000):
  Calls Tryz.prog 82 #[.agg #[.slice av vars.length cv,.slice al lp.length cl,.int .i64 first]] w λe w'=>e=.returned (.string ⟨(Cx.ng vars lp first++Cx.fd (Cx.ng vars lp first)).toArray⟩)/\Below w.heap.size w w':=by
 obtain⟨i0,dl,eu,dA,eg⟩:=info_parts Tryz.infoByte;have HI:=ae h;have HX:=ae (heap_alloc_new w (.cells #[.slice av vars.length cv,.slice al lp.length cl,.int .i64 first] 106));have fM:Hid (Below w.heap.size w (w.alloc (.cells #[.slice av vars.length cv,.slice al lp.length cl,.int .i64 first] 106))):=ae (ag _ _);have hz:(w.alloc (.cells #[.slice av vars.length cv,.slice al lp.length cl,.int .i64 first] 106)).heap.size=w.heap.size+1:=by simp
 obtain⟨X,hX⟩:∃X,X=w.alloc (.cells #[.slice av vars.length cv,.slice al lp.length cl,.int .i64 first] 106):=⟨_,rfl⟩;rw[<-hX]at HX fM hz;have x0:=dt HX.out;have hcv:(convert 64 64 (.slice (some ⟨w.heap.size+1,0,none⟩) 5 5)).run Tryz.prog (X.alloc (.cells #[.int .u8 72,.int .u8 69,.int .u8 76,.int .u8 77,.int .u8 49] 5))=.ok (.slice (some ⟨w.heap.size+1,0,none⟩) 5 5) (X.alloc (.cells #[.int .u8 72,.int .u8 69,.int .u8 76,.int .u8 77,.int .u8 49] 5 (5,6))):=by
  have:=Lib.run_convert_bytes_const X 64 5 #[.int .u8 72,.int .u8 69,.int .u8 76,.int .u8 77,.int .u8 49] 5 5 Tryz.underlying64 Tryz.underlying5;rw[hz]at this;exact this
 obtain⟨X5,hX5⟩:∃X5,X5=X.alloc (.cells #[.int .u8 72,.int .u8 69,.int .u8 76,.int .u8 77,.int .u8 49] 5 (5,6)):=⟨_,rfl⟩;rw[<-hX5]at hcv;have hz5:X5.heap.size=w.heap.size+2:=by rw[hX5];simp[hz]
 have vT:Hid (Below X.heap.size X X5):=ae (by grind[ag])
 have H5:Hid (∀j u,([.int .u8 72,.int .u8 69,.int .u8 76,.int .u8 77,.int .u8 49])[j]?=some u->X5.cell? ((⟨w.heap.size+1,0,none⟩:Addr).add j)=some u):=ae (λj u hu=>by
  grind[World.cell?,heap_alloc_new,Addr.add])
 have x5:=(vT.out.cell (show w.heap.size<X.heap.size by omega)).trans x0;clear hX5;generalize adI:Cx.ng vars lp first=bd at*;have HBD:=ae adI;clear h adI;go_enter Tryz.func82,Tryz.ntmps82;go_upto_region 1 with(fail);rw[<-hX];clear hX;go_wp2_with (at_builtin;refine wpList_append_grows _ rfl _ _ 64 rfl 5 i0 _ 1 1 Tryz.underlying64 dl eu dA eg rfl (by decide) (some ⟨w.heap.size+1,0,none⟩) 5 5 [.int .u8 72,.int .u8 69,.int .u8 76,.int .u8 77,.int .u8 49] rfl ?d1 rfl ?d2 ⟨w.heap.size+2,0,none⟩ 1 1 [.int .u8 (vars.length)] rfl rfl (aF _ _ ?c1 [_] _) (eI rfl) ?c3 ?c4 ?c5 ?_)
 case d1=>simp
 case d2=>
  intro b hb j u hu
  cases hb
  have hj:j<5:=(List.getElem?_eq_some_iff.1 hu).1;have e:((⟨w.heap.size+1,0,none⟩:Addr).add j)=⟨w.heap.size+1,j,none⟩:=by simp[Addr.add];omega
  have:=H5.out j u hu;rw[e]at this|-;exact((ag X5 _).cell (show w.heap.size+1<X5.heap.size by omega)).trans this
 case c1=>omega
 case c3=>omega
 case c4=>grind[maxLen]
 case c5=>omega
 intro v1 w1 aJ ax;have gf:=by
  have h1:=fM.out.trans (vT.out.mono (by omega));have h2:=h1.trans ((ag X5 (.cells #[.int .u8 (vars.length)] 5)).mono (by omega));exact h2.grown ax (by have:=h2.size;omega) (λk e=>by cases e)
 have hIB:=by
  refine(ax.block w.heap.size (by simp;omega) (by simp)).trans (((ag X5 _).block w.heap.size (by omega)).trans ((vT.out.block w.heap.size (by omega)).trans HX.out))
 have hhd:(Cx.eh vars).map Cx.bV=[.int .u8 72,.int .u8 69,.int .u8 76,.int .u8 77,.int .u8 49,.int .u8 (vars.length)]:=by
  have e:Cx.bV (UInt8.ofNat vars.length)=.int .u8 (vars.length):=by rw[Cx.mx];congr 1;omega
  simp only [Cx.eh,List.map_cons,List.map_nil,e];rfl
 have nZ:Hid (w1.ownsRow (w.heap.size+1) 5 1 v1 (Cx.eh vars).length ((Cx.eh vars).map Cx.bV)):=ae (by rw[hhd];exact dF aJ (by simp));have ZB:=ae hIB;have b6:=ae gf;obtain⟨a1,c1,rfl,_,_⟩:=aj nZ.out;clear aJ ax gf hIB hhd hcv H5 x5 vT hz5 x0 HX fM hz;have y0:=dt ZB.out;have lh:=(Array.getElem?_eq_some_iff.1 ZB.out).1;have nW:(Cx.eh vars).length=6:=rfl
 have HVL:Hid (∀q,((vars.take q).flatMap Cx.ez).length=4*(min q vars.length)):=ae (λq=>by
  have:∀l:List (Int×Int),(l.flatMap Cx.ez).length=4*l.length:=λl=>by
   induction l<;>grind[Cx.ez,Cx.two]
  grind)
 go_wp2_with fail;clear y0
 go_loopg [3,19] (vars.length) (λk v3 v19 wr=>∃q:Nat,q+k=vars.length/\v19=.int .i64 q/\Below w.heap.size w wr/\wr.heap[w.heap.size]?=some (.cells #[.slice av vars.length cv,.slice al lp.length cl,.int .i64 first] 106 (0,0))/\wr.ownsRow (w.heap.size+1) 5 1 v3 (Cx.eh vars++(vars.take q).flatMap Cx.ez).length ((Cx.eh vars++(vars.take q).flatMap Cx.ez).map Cx.bV))
 case atStart=>exact⟨0,by omega,rfl,b6.out,ZB.out,by simpa using nZ.out⟩
 case round=>
  obtain⟨q,hq,rfl,hb,Xw,ho⟩:=hrel;have HB:=ae hb;have HIb:=ae Xw;have HO:=ae ho;have hsr:=(Array.getElem?_eq_some_iff.1 Xw).1
  by_cases hlt:q<vars.length
  ·have hqi:(q:Int)<vars.length:=by omega
   have hq0:(0:Int)<=q:=by omega
   obtain⟨gv,rfl,Lq,k0,k1⟩:=HI.out.vars q hlt;have z0:=(hb.cell Lq).trans k0;have z1:=(hb.cell Lq).trans k1;have Lt:=pL Cx.ez vars q hlt;have HFT:=ae Lt;have kz:=HVL.out q;have iO:(Cx.eh vars++(vars.take q).flatMap Cx.ez).length<=1000:=by rw[List.length_append,kz,nW];omega
   have afH:=ae (heap_alloc_new wr (.cells #[.int .i64 vars[q].1,.int .i64 vars[q].2] 168));have aj9:=ae (eV (wr.alloc (.cells #[.int .i64 vars[q].1,.int .i64 vars[q].2] 168)) (w.heap.size+1) _ u3 _ vars[q].1 (ah ho (ag _ _)) (by simp;omega) (by omega));have xi:=λk hk=>(ho.lt k hk).2
   generalize hA:Cx.eh vars++(vars.take q).flatMap Cx.ez=acc at*;have HA:=ae hA;generalize vars[q]=p at*;clear k0 k1 Lt hb Xw ho hA kz;go_wp2_with fail;refine aj9.out.mono ?_;rintro e w2 ⟨v2,rfl,iC⟩;obtain⟨lQ,oR,aT⟩:=j6 (b:=wr.heap.size) iC (by simp) (λk hk=>by grind);have e1:w2.cell? ⟨wr.heap.size,1,none⟩=some (.int .i64 p.2):=(lQ 1).trans (Lib.cell_of_heap afH.out 1);have jT:=iC.kept.size;have zl:=ae (iC.after (ag wr _));clear iC lQ aj9 z0 z1;go_wp2_with fail;refine(eV w2 (w.heap.size+1) _ v2 _ p.2 zl.out.own (by omega) (by omega)).mono ?_;rintro e w3 ⟨v3,rfl,sN⟩;have Iz:=ae (zl.out.trans sN);have ji:=ae (HB.out.trans (Iz.out.kept.toBelow (λk e=>by have:=(HO.out.lt k e).1;omega) (by omega)));have Ka:=ae ((Iz.out.kept.block w.heap.size hsr (λe=>by have:=(HO.out.lt _ e).1;omega)).trans HIb.out)
   have mH:Hid (w3.ownsRow (w.heap.size+1) 5 1 v3 (Cx.eh vars++(vars.take (q+1)).flatMap Cx.ez).length ((Cx.eh vars++(vars.take (q+1)).flatMap Cx.ez).map Cx.bV)):=ae (by
    rw[HFT.out,<-List.append_assoc,HA.out];have e:(acc++Cx.ez p).length=acc.length+2+2:=by simp[Cx.ez,Cx.two]
    have e2:(acc++Cx.ez p).map Cx.bV=acc.map Cx.bV++(Cx.two p.1).map Cx.bV++(Cx.two p.2).map Cx.bV:=by simp[Cx.ez]
    rw[e,e2];exact Iz.out.own)
   clear sN e1 oR aT;go_wp2_with fail
   go_roundg (vars.length-(q+1))
   case measure=>omega
   case rel=>exact⟨q+1,by omega,by go_num,ji.out,Ka.out,mH.out⟩
  ·obtain rfl:q=vars.length:=by omega
   rw[List.take_length]at HO;have kz:=HVL.out vars.length;rw[List.take_length]at kz;have iO:(Cx.eh vars++vars.flatMap Cx.ez).length<=1000:=by rw[List.length_append,kz,nW];omega
   obtain⟨-,y1,y2⟩:=GK HIb.out;obtain⟨a3,c3,rfl,_,_⟩:=aj HO.out;clear hb Xw ho kz;generalize hA:Cx.eh vars++vars.flatMap Cx.ez=acc at*;have HA:=ae hA;clear hA HVL;go_wp2_with (at_builtin;refine wpList_append_own_at _ rfl _ _ 64 rfl (w.heap.size+1) 5 i0 _ 1 1 Tryz.underlying64 dl eu dA eg rfl (by decide) _ acc.length _ rfl (ah HO.out (ag _ _)) ⟨wr.heap.size,0,none⟩ 2 2 [.int .u8 (lp.length),.int .u8 (first)] rfl rfl (aF _ _ rfl [_,_] _) (uR rfl rfl) ?c3 ?c4 ?c5 ?_)
   case c3=>grind[maxLen]
   case c4=>omega
   case c5=>simp;omega
   intro v4 w4 aJ ax _ bu;have HG4:=ae (eF aJ ax (by omega));have nY:=ae (HB.out.trans (HG4.out.kept.toBelow (λk e=>by have:=(HO.out.lt k e).1;omega) (by omega)));have HI4:=ae ((HG4.out.kept.block w.heap.size hsr (λe=>by have:=(HO.out.lt _ e).1;omega)).trans HIb.out)
   have Nz:Hid (w4.ownsRow (w.heap.size+1) 5 1 v4 (acc++[UInt8.ofNat lp.length,UInt8.ofNat first]).length ((acc++[UInt8.ofNat lp.length,UInt8.ofNat first]).map Cx.bV)):=ae (by
    have e:Cx.bV (UInt8.ofNat lp.length)=.int .u8 (lp.length):=by rw[Cx.mx];congr 1;omega
    have e2:Cx.bV (UInt8.ofNat first)=.int .u8 (first):=by rw[Cx.mx];congr 1;omega
    grind)
   have kq:(acc++[UInt8.ofNat lp.length,UInt8.ofNat first]).length<=1002:=by simp;omega
   clear aJ ax bu HG4 HO HIb HB y1 y2 iO;have y1:=fS HI4.out;generalize J9:acc++[UInt8.ofNat lp.length,UInt8.ofNat first]=ac2 at*;have tV:Hid (bd=ac2++lp.flatMap Cx.eX):=ae (by rw[<-HBD.out,<-J9,<-HA.out];rfl);have hac:0<ac2.length:=by rw[<-J9];simp
   clear J9 HA HBD;obtain⟨a4,c4,rfl,_,_⟩:=aj Nz.out;have hbd:(ac2++lp.flatMap Cx.eX).length<=80000:=by rw[<-tV.out];exact zj
   have HLE:Hid (∀q,(ac2++(lp.take q).flatMap Cx.eX).length<=80000):=ae (λq=>by grind[List.length_append,E0,Cx.eX]);clear hbd;go_wp2_with fail;clear y1
   go_loopg [3,45] (lp.length) (λk v3 v45 wr=>∃q:Nat,q+k=lp.length/\v45=.int .i64 q/\Below w.heap.size w wr/\w.heap.size<wr.heap.size/\wr.ownsRow (w.heap.size+1) 5 1 v3 (ac2++(lp.take q).flatMap Cx.eX).length ((ac2++(lp.take q).flatMap Cx.eX).map Cx.bV))
   case atStart=>exact⟨0,by omega,rfl,nY.out,(Array.getElem?_eq_some_iff.1 HI4.out).1,by simpa using Nz.out⟩
   case round=>
    obtain⟨q,hq,rfl,hb,axL,ho⟩:=hrel;have HB:=ae hb;have HO:=ae ho
    by_cases hlt:q<lp.length
    ·have hqi:(q:Int)<lp.length:=by omega
     have hq0:(0:Int)<=q:=by omega
     obtain⟨gl,gp,cp,rfl,ck,k0,k1,hgp,k2⟩:=HI.out.lp q hlt;have z0:=(hb.cell ck).trans k0;have z1:=(hb.cell ck).trans k1;obtain⟨nU,hpr⟩:=hn lp[q] (List.getElem_mem hlt);have Lt:=pL Cx.eX lp q hlt;have HFT:=ae Lt;have iG:=ae k2;have hmx:=HLE.out (q+1);rw[Lt,<-List.append_assoc,List.length_append]at hmx;generalize aaF:ac2++(lp.take q).flatMap Cx.eX=uw at*;have apO:=ae aaF;clear aaF;generalize lp[q]=p at*;obtain⟨nm,pr⟩:=p;have hlc:(Cx.eX (nm,pr)).length=1+nm.size+2+pr.length:=by simp[Cx.eX,Cx.two];omega
     rw[hlc]at hmx;simp only at nU hpr z0 z1;have aka:=ae (heap_alloc_new wr (.cells #[.string nm,.slice (some ⟨gp,0,none⟩) pr.length cp] 102));obtain⟨a3,c3,rfl,_,_⟩:=aj ho;clear k0 k1 k2 Lt hb ho hlc;go_wp2_with (at_builtin;refine wpList_append_own_at _ rfl _ _ 64 rfl (w.heap.size+1) 5 i0 _ 1 1 Tryz.underlying64 dl eu dA eg rfl (by decide) _ uw.length _ rfl (ah (ah HO.out (ag _ _)) (ag _ _)) ⟨wr.heap.size+1,0,none⟩ 1 1 [.int .u8 (nm.size)] rfl rfl (aF _ _ ?c1 [_] _) (eI rfl) ?c3 ?c4 ?c5 ?_)
     case c3=>grind[maxLen]
     case c4=>omega
     case c5=>omega
     intro v5 w5 aJ ax _ bu;have hG5:Gr (w.heap.size+1) (wr.alloc (.cells #[.string nm,.slice (some ⟨gp,0,none⟩) pr.length cp] 102)) w5 5 1 (.slice a3 uw.length c3) v5 (uw.length+1) (uw.map Cx.bV++[.int .u8 (nm.size)]):=eF aJ ax (by simpa using bu);have aaH:=(hG5.kept.block wr.heap.size (by simp) (λe=>by have:=(HO.out.lt _ e).2;omega)).trans aka.out;have HG5:=ae (hG5.after (ag wr _));have afM:=ae aaH;have Zv:=(Array.getElem?_eq_some_iff.1 aaH).1;have f0:=dt aaH;obtain⟨a5,c5,rfl,_,_⟩:=aj hG5.own;clear aJ ax bu hG5 aaH aka z0 z1;go_wp2_with (at_builtin;refine Lib.wpList_append_own_string _ rfl _ _ 64 9 rfl (w.heap.size+1) 5 i0 Tryz.underlying64 Tryz.underlying9 dl eu dA eg _ (uw.length+1) _ rfl HG5.out.own nm rfl ?c3 ?c4 ?c5 ?_)
     case c3=>grind[maxLen]
     case c4=>omega
     case c5=>omega
     intro v6 w6 aJ ax _;have akc:=du HG5.out.own afM.out (by decide);have TS:=(ax.block wr.heap.size Zv (λe=>akc _ e.symm rfl)).trans afM.out
     have Gb:Hid (Kp (λk=>(Value.slice a3 uw.length c3).ownBlock=some k\/wr.heap.size<=k) wr w6):=ae ((HG5.out.kept.mono (λ_ _ e=>.inl e)).grown ax (λk e=>.inl (by
      rcases HG5.out.spot with h1|⟨c,h1,h2⟩
      ·grind
      grind)))
     have HO6:Hid (w6.ownsRow (w.heap.size+1) 5 1 v6 (uw.length+1+nm.size) (uw.map Cx.bV++[.int .u8 (nm.size)]++nm.data.toList.map Cx.bV)):=ae (by grind[List.append_assoc,Po]);have akd:=ae TS;have hs6:=(Array.getElem?_eq_some_iff.1 TS).1;have f1:=fS TS;clear aJ ax akc TS f0 HG5 afM;go_wp2_with fail;refine(eV w6 (w.heap.size+1) _ v6 _ pr.length HO6.out (by omega) (by omega)).mono ?_;rintro e w7 ⟨v7,rfl,Do⟩;have ake:=du HO6.out akd.out (by decide);have akf:=(Do.kept.block wr.heap.size hs6 (λe=>ake _ e rfl)).trans akd.out;have f2:=fS akf;have hB6:=HB.out.trans (Gb.out.toBelow (λk e=>by rcases e with e|e;have:=(HO.out.lt k e).1;omega;omega) (by omega));have hB7:=hB6.trans (Do.kept.toBelow (λk e=>by have:=(HO6.out.lt k e).1;omega) (by omega));have hs7:=Do.kept.size;have KF:=ae hB7
     have Oe:Hid (∀j u,(pr.map Cx.bV)[j]?=some u->w7.cell? ((⟨gp,0,none⟩:Addr).add j)=some u):=ae (λj u hu=>by
      have e1:((⟨gp,0,none⟩:Addr).add j)=⟨gp,j,none⟩:=by simp[Addr.add];omega
      have hj:=by have:=(List.getElem?_eq_some_iff.1 hu).1;simpa using this
      rw[e1,hB7.cell hgp,iG.out j hj]
      grind)
     have HO7:=ae Do.own;obtain⟨a7,c7,rfl,_,_⟩:=aj Do.own;clear Do ake akf hB6 hB7 f1;go_wp2_with (at_builtin;refine wpList_append_own_at _ rfl _ _ 64 rfl (w.heap.size+1) 5 i0 _ 1 1 Tryz.underlying64 dl eu dA eg rfl (by decide) _ (uw.length+1+nm.size+2) _ rfl HO7.out ⟨gp,0,none⟩ pr.length cp (pr.map Cx.bV) rfl ?c0 Oe.out (Cx.M7 pr) ?c3 ?c4 ?c5 ?_)
     case c0=>simp
     case c3=>grind[maxLen]
     case c4=>omega
     case c5=>omega
     intro v8 w8 aJ ax _ bu;have Ew:=dO aJ ax bu;have HB8:=ae (KF.out.trans (Ew.kept.toBelow (λk e=>by have:=(HO7.out.lt k e).1;omega) (by omega)));have hs8:=Ew.kept.size
     have HO8:Hid (w8.ownsRow (w.heap.size+1) 5 1 v8 (uw++Cx.eX (nm,pr)).length ((uw++Cx.eX (nm,pr)).map Cx.bV)):=ae (by
      have e1:(uw++Cx.eX (nm,pr)).length=uw.length+1+nm.size+2+pr.length:=by simp[Cx.eX,Cx.two];omega
      have e0:Cx.bV (UInt8.ofNat nm.size)=.int .u8 (nm.size):=by rw[Cx.mx];congr 1;omega
      grind[List.append_assoc,Cx.eX,Cx.bV,Cx.two])
     clear aJ ax bu Ew f2;go_wp2_with fail
     go_roundg (lp.length-(q+1))
     case measure=>omega
     case rel=>exact⟨q+1,by omega,by go_num,HB8.out,by omega,by rw[HFT.out,<-List.append_assoc,apO.out];exact HO8.out⟩
    ·obtain rfl:q=lp.length:=by omega
     rw[List.take_length,<-tV.out]at HO;have hb0:0<bd.length:=by rw[tV.out,List.length_append];omega
     obtain⟨g3,c3,rfl,O9,aaJ,_,_,hcc⟩:=aR HO.out hb0;have Xk:=ae (EH wr g3 c3 bd (λk hk=>(hcc k (by omega)).trans (by simp[hk])) (by omega));have lq:Hid ((wr.alloc (.cells ((Cx.fd bd).map Cx.bV).toArray 5)).ownsRow (w.heap.size+1) 5 1 (.slice (some ⟨g3,0,none⟩) bd.length c3) bd.length (bd.map Cx.bV)):=ae (ah HO.out (ag _ _));have D3:(Cx.fd bd).length=4:=rfl;clear hb ho hcc HLE;go_wp2_with fail;refine Xk.out.mono ?_;rintro e w9 ⟨rfl,rfl⟩;generalize hsc:Cx.fd bd=sc at*;have Lu:=ae hsc;clear hsc Xk;go_wp2_with (at_builtin;refine wpList_append_own_at _ rfl _ _ 64 rfl (w.heap.size+1) 5 i0 _ 1 1 Tryz.underlying64 dl eu dA eg rfl (by decide) _ bd.length _ rfl lq.out ⟨wr.heap.size,0,none⟩ 4 4 (sc.map Cx.bV) rfl ?c0 (aF _ _ rfl (sc.map Cx.bV) _) (Cx.M7 sc) ?c3 ?c4 ?c5 ?_)
     case c0=>grind
     case c3=>grind[maxLen]
     case c4=>omega
     case c5=>simp;omega
     intro vz wz aJ ax _ bu;have Kz:=dO aJ ax (by simpa using bu);have HBz:=ae ((HB.out.trans ((ag wr _).mono (by omega))).trans (Kz.kept.toBelow (λk e=>by have:=(lq.out.lt k e).1;omega) (by simp;omega)));obtain⟨gz,cz,rfl,_,_,_,_,hcz⟩:=aR Kz.own (by omega);have axO:=by
      have e1:(bd++sc).length=bd.length+4:=by rw[List.length_append,D3]
      have:=run_convert_bytes_back wz 64 9 5 ⟨gz,0,none⟩ cz (bd++sc) Tryz.underlying64 Tryz.underlying5 Tryz.underlying9 (λj hj=>by
       have e2:((⟨gz,0,none⟩:Addr).add j)=⟨gz,j,none⟩:=by simp[Addr.add];omega
       rw[e2,hcz j (by omega),<-List.map_append,List.getElem?_map,List.getElem?_eq_getElem hj];rfl)
      rw[e1]at this;exact this
     clear aJ ax bu Kz hcz;go_wp2_with fail;go_ret;exact⟨by rw[Lu.out];rfl,HBz.out⟩
namespace Cx
def eb(vs:List az):List (Int×Int):=vs.map λv=>(v.first.n,v.last.n)
def i5(vs:List az)(ms:List Hx.MA)(i:Nat):ByteArray×List UInt8:=(nameOf ms i,program vs ms i)
def lW(vs:List az)(ms:List Hx.MA):List UInt8:=ng (eb vs) ((leaves ms).map (i5 vs ms)) (numberOf ms 0)
def fF(vs:List az)(ms:List Hx.MA):List UInt8:=lW vs ms++fd (lW vs ms)
end Cx
theorem Tryz.infoIVar:(Tryz.prog.info? 168).map (λi=>(i.zero,i.size,i.bytes))=some (some (.agg #[.int .i64 0,.int .i64 0]),2,16):=by kernel_rfl
theorem Tryz.infoILeaf:(Tryz.prog.info? 102).map (λi=>(i.zero,i.size,i.bytes))=some (some (.agg #[.string ⟨#[]⟩,.slice none 0 0]),2,40):=by kernel_rfl
def ivC(p:Int×Int):List Value:=[.int .i64 p.1,.int .i64 p.2]
def imC(v l:Value)(nr:Nat):Array Value:=#[v,l,.int .i64 nr]
theorem IA(va:az):fp va=[.int .i64 (ao va.name.k),.string va.name.s,.int .i64 va.name.n,.int .i64 va.name.line,.int .i64 (ao va.first.k),.string va.first.s,.int .i64 va.first.n,.int .i64 va.first.line,.int .i64 (ao va.last.k),.string va.last.s,.int .i64 va.last.n,.int .i64 va.last.line]:=rfl
def E1(w:World)(pv:Value)(l:List UInt8):Prop:=∃gp cap cur,pv=.slice (some ⟨gp,0,none⟩) l.length cap/\w.heap[gp]?=some (.cells cur 5 (0,0))/\cur.toList.take l.length=l.map Cx.bV
theorem aki(h:w.ownsRow base 5 1 v l.length (l.map Cx.bV))(h0:0<l.length):E1 w v l:=by
 rcases h.2 with⟨_,h1⟩|⟨g,cap,cur,rfl,_,hg,_,_,_,ht⟩
 ·omega
 ·exact⟨g,cap,cur,rfl,hg,by grind⟩
theorem E1.kept{F:Nat->Prop}{w':World}{pv:Value}(h:E1 w pv l)(hk:Kp F w w')(hF:∀g cur,w.heap[g]?=some (.cells cur 5 (0,0))->¬F g):E1 w' pv l:=by
 obtain⟨gp,cap,cur,e,hg,ht⟩:=h;exact⟨gp,cap,cur,e,(hk.block gp (Array.getElem?_eq_some_iff.1 hg).1 (hF gp cur hg)).trans hg,ht⟩
theorem fI{b' e' s' n':Nat}{v':Value}{xs':List Value}(h:w.ownsRow b e s v n xs)(h':w.ownsRow b' e' s' v' n' xs')(he:e≠e'):∀k,v.ownBlock=some k->v'.ownBlock≠some k:=by
 intro k hk vY;rcases h.2 with⟨rfl,_⟩|⟨g,cap,cur,rfl,_,hg,_⟩
 ·cases hk
 ·rcases h'.2 with⟨rfl,_⟩|⟨g',cap',apn,rfl,_,Q5,_⟩
  all_goals grind[Value.ownBlock,Option.some.injEq,Obj.cells.injEq]
theorem cO{g:Nat}{cur:Array Value}(h:w.ownsRow b e s v n xs)(hg:w.heap[g]?=some (.cells cur T (0,0)))(he:T≠e):v.ownBlock≠some g:=λe1=>du h hg he g e1 rfl
def lfC(p:ByteArray×Value):List Value:=[.string p.1,p.2]
theorem Pp(w:World)(base tb:Nat)(vt vv vm:Value)(vs:List az)(gs:List MG)(hT:PT w base tb vt vs gs (λk=>k<w.heap.size) vv vm)(cR:sg vs gs)(hr:SY vs gs)(Pq:∀i,i<gs.length->(Cx.program vs (gs.map (·.a)) i).length<=80000)(nU:∀i,i<gs.length->(Cx.nameOf (gs.map (·.a)) i).size<=100)(eS:(Cx.lW vs (gs.map (·.a))).length<=80000):
  Calls Tryz.prog 47 #[.pointer (some ⟨tb,0,none⟩)] w λe w'=>e=.returned (.string ⟨(Cx.fF vs (gs.map (·.a))).toArray⟩)/\Below w.heap.size w w':=by
 have ck:gs.length<=3001:=by have:=cR.af;omega
 have hm0:=uc cR _ 0 rfl cR.some;have hln:0<(Cx.leaves (gs.map (·.a))).length:=List.length_pos_of_mem hm0;have HLV:=ae (yr w base tb vt vv vm vs gs _ hT cR.kt ck);have HT:=ae hT;clear hT;go_enter Tryz.func47,Tryz.ntmps47;go_wp2_with fail;refine HLV.out.mono ?_;rintro e w1 ⟨lv,rfl,jQ,bH⟩;have gI:=bH.size;obtain⟨gl,cl,hlv,yh,TT,_,_,lP⟩:=aR jQ hln;subst hlv;have nZ:=ae jQ;have b6:=ae bH;have HX:=ae (heap_alloc_new w1 (.cells #[.pointer (some ⟨tb,0,none⟩),.slice (some ⟨gl,0,none⟩) (Cx.leaves (gs.map (·.a))).length cl] 162));have hEm:Ix (w1.alloc (.cells #[.pointer (some ⟨tb,0,none⟩),.slice (some ⟨gl,0,none⟩) (Cx.leaves (gs.map (·.a))).length cl] 162)) (w1.heap.size+1) w1.heap.size tb base vt vv vm (.slice (some ⟨gl,0,none⟩) (Cx.leaves (gs.map (·.a))).length cl) vs gs:=by
  refine⟨(((HT.out.below bH).below (ag _ _)).mono (λk hk=>by omega)),HX.out,⟨gl,cl,rfl,by omega,λi hi=>?_⟩,by omega,by simp⟩;refine((ag w1 _).cell TT).trans ((lP i (by omega)).trans ?_);simp[hi,dz]
 have HEM:=ae hEm;obtain⟨_,_,xm,_,_,Ev,_⟩:=hEm.pt.cells;obtain⟨am,cm,nP,_,_⟩:=aj (hEm.pt.mem.own 2 _ rfl);simp only at nP;subst nP;obtain⟨gm,IB,_,e,QY,hcm⟩:=hEm.pt.TU.resolve_left (λh=>by have:=cR.some;omega)
 cases e
 have xg:=(hcm 0 cR.some).1
 have hNO:Hid (∀Y,Below (w1.heap.size+1) (w1.alloc (.cells #[.pointer (some ⟨tb,0,none⟩),.slice (some ⟨gl,0,none⟩) (Cx.leaves (gs.map (·.a))).length cl] 162)) Y->Calls Tryz.prog 80 #[.pointer (some ⟨w1.heap.size,0,none⟩),.pointer (some ⟨(gs[0]'cR.some).bZ,0,none⟩)] Y λe w'=>e=.returned (.int .i64 (Cx.numberOf (gs.map (·.a)) 0))/\Below Y.heap.size Y w'):=ae (λY hY=>by
  have:=sM Y (w1.heap.size+1) w1.heap.size tb base vt vv _ _ vs gs (hEm.below (hY.mono (by simp))) cR 0 cR.some
  rw[kU cR.some]at this;exact this)
 clear hEm lP jQ bH hcm HLV;have hz:(w1.alloc (.cells #[.pointer (some ⟨tb,0,none⟩),.slice (some ⟨gl,0,none⟩) (Cx.leaves (gs.map (·.a))).length cl] 162)).heap.size=w1.heap.size+1:=by simp
 have apS:=QY cR.some;obtain⟨X,hX⟩:∃X,X=w1.alloc (.cells #[.pointer (some ⟨tb,0,none⟩),.slice (some ⟨gl,0,none⟩) (Cx.leaves (gs.map (·.a))).length cl] 162):=⟨_,rfl⟩;rw[<-hX]at HX HEM xm Ev xg hNO hz apS;generalize (gs[0]'cR.some).bZ=m0 at*;generalize NA:Cx.numberOf (gs.map (·.a)) 0=nr at*;go_upto_region 2 with(fail);rw[<-hX];have fM:Hid (Below w.heap.size w X):=ae (by rw[hX];exact b6.out.trans ((ag _ _).mono gI));clear hX;have dl:(0:Int)<gs.length:=by have:=cR.some;omega
 go_wp2_with fail;refine(hNO.out X (Below.refl _ _)).mono ?_;rintro e w2 ⟨rfl,aT⟩;have TV:=ae (HEM.out.below aT);have dH:=ae (fM.out.trans (aT.mono fM.out.size));have jT:w1.heap.size+1<=w2.heap.size:=by rw[<-hz];exact aT.size
 clear aT hNO HEM HX xm xg;obtain⟨av,cv,nR,_,_⟩:=aj (TV.out.pt.mem.own 1 _ rfl);simp only at nR;subst nR;obtain⟨_,xv,_,_,_,RN,_⟩:=TV.out.pt.cells;have ZB:=ae (heap_alloc_new w2 (.cells #[.slice none 0 0,.slice none 0 0,.int .i64 nr] 106));have HY0:Hid (Below w2.heap.size w2 (w2.alloc (.cells #[.slice none 0 0,.slice none 0 0,.int .i64 nr] 106))):=ae (ag _ _);go_wp2_with fail;obtain⟨iv,hiv,hv0,nG,oR⟩:=info_parts Tryz.infoIVar;have hvs:=cR.vars
 go_loopg [26] (vs.length) (λk v26 wr=>∃(q:Nat)(V:Value),q+k=vs.length/\v26=.int .i64 q/\Below w2.heap.size w2 wr/\wr.heap[w2.heap.size]?=some (.cells (imC V (.slice none 0 0) nr) 106 (0,0))/\wr.ownsRow (w2.heap.size+1) 168 2 V q (((Cx.eb vs).take q).flatMap ivC))
 case atStart=>exact⟨0,.slice none 0 0,by omega,rfl,HY0.out,ZB.out,World.ownsRow_nil _ _ _ _⟩
 case round=>
  obtain⟨q,V,hq,rfl,hb,Xw,ho⟩:=hrel;have HB:=ae hb;have HIb:=ae Xw;have HO:=ae ho;have hsr:w2.heap.size<wr.heap.size:=(Array.getElem?_eq_some_iff.1 Xw).1;obtain⟨aV,cV,rfl,_,_⟩:=aj ho
  by_cases hlt:q<vs.length
  ·have hqi:(q:Int)<vs.length:=by omega
   have hq0:(0:Int)<=q:=by omega
   obtain⟨gv,aj0,_,e,Lq,hcc⟩:=(TV.out.below hb).pt.vsl.resolve_left (λh=>by omega)
   cases e
   have sO:=hcc q hlt;have Lt:=pL ivC (Cx.eb vs) q (by simpa[Cx.eb]using hlt);have hiq:(Cx.eb vs)[q]'(by simpa[Cx.eb]using hlt)=(vs[q].first.n,vs[q].last.n):=by simp[Cx.eb]
   rw[hiq]at Lt;have HFT:=ae Lt;generalize vs[q]=va at*;rw[IA]at sO;have z0:wr.cell? ⟨gv,q*12,none⟩=some (.int .i64 (ao va.name.k)):=sO 0 (by omega);have z1:wr.cell? ⟨gv,q*12+1,none⟩=some (.string va.name.s):=sO 1 (by omega);have z2:wr.cell? ⟨gv,q*12+2,none⟩=some (.int .i64 va.name.n):=sO 2 (by omega);have z3:wr.cell? ⟨gv,q*12+3,none⟩=some (.int .i64 va.name.line):=sO 3 (by omega);have z4:wr.cell? ⟨gv,q*12+4,none⟩=some (.int .i64 (ao va.first.k)):=sO 4 (by omega);have z5:wr.cell? ⟨gv,q*12+5,none⟩=some (.string va.first.s):=sO 5 (by omega);have z6:wr.cell? ⟨gv,q*12+6,none⟩=some (.int .i64 va.first.n):=sO 6 (by omega);have z7:wr.cell? ⟨gv,q*12+7,none⟩=some (.int .i64 va.first.line):=sO 7 (by omega);have z8:wr.cell? ⟨gv,q*12+8,none⟩=some (.int .i64 (ao va.last.k)):=sO 8 (by omega);have z9:wr.cell? ⟨gv,q*12+9,none⟩=some (.string va.last.s):=sO 9 (by omega);have z10:wr.cell? ⟨gv,q*12+10,none⟩=some (.int .i64 va.last.n):=sO 10 (by omega);have z11:wr.cell? ⟨gv,q*12+11,none⟩=some (.int .i64 va.last.line):=sO 11 (by omega);have y0:=dt Xw;clear sO hcc Lt hiq hb Xw ho;go_wp2_with (at_builtin;refine wpList_append_own_at _ rfl _ _ 103 rfl (w2.heap.size+1) 168 iv _ 2 16 Tryz.underlying103 hiv hv0 nG oR rfl (by decide) _ q _ rfl (ah (ah HO.out (ag _ _)) (ag _ _)) ⟨wr.heap.size+1,0,none⟩ 1 1 [.int .i64 va.first.n,.int .i64 va.last.n] rfl rfl (aF _ _ ?c1 [_,_] _) (uR rfl rfl) ?c3 ?c4 ?c5 ?_)
   case c1=>simp
   case c3=>unfold maxLen;omega
   case c4=>omega
   case c5=>simp;omega
   intro V3 w3 aJ ax _ bu;have akj:=eF aJ ax (by simpa using bu);have sN:=akj.after (ag wr _);have aaL:=(sN.kept.block w2.heap.size hsr (λe=>by have:=(HO.out.lt _ e).1;omega)).trans HIb.out;have sJ:Below w2.heap.size w2 w3:=HB.out.trans (sN.kept.toBelow (λk e=>by have:=(HO.out.lt k e).1;omega) (by omega));have y3:=dt aaL;have yf:=Lib.frozen_of_heap aaL 0;obtain⟨aW,cW,rfl,_,_⟩:=aj sN.own;have nY:Hid (Below w2.heap.size w2 (w3.setCell ⟨w2.heap.size,0,none⟩ (.slice aW (q+1) cW))):=ae ((Kp.aK sJ).setCell (.inl (Nat.le_refl _)) _|>.toBelow (λ_ h=>h) (Nat.le_refl _));have HI4:Hid ((w3.setCell ⟨w2.heap.size,0,none⟩ (.slice aW (q+1) cW)).heap[w2.heap.size]?=some (.cells (imC (.slice aW (q+1) cW) (.slice none 0 0) nr) 106 (0,0))):=ae (aE aaL)
   have Nz:Hid ((w3.setCell ⟨w2.heap.size,0,none⟩ (.slice aW (q+1) cW)).ownsRow (w2.heap.size+1) 168 2 (.slice aW (q+1) cW) (q+1) (((Cx.eb vs).take (q+1)).flatMap ivC)):=ae (by
    rw[HFT.out]
    exact((Kp.refl (λk=>k=w2.heap.size) w3).setCell (p:=⟨w2.heap.size,0,none⟩) (.inl rfl) _).own sN.own (λk hk e=>by have:=(sN.own.lt k hk).1;omega))
   clear aJ ax bu akj sN aaL sJ z0 z1 z2 z3 z4 z5 z6 z7 z8 z9 z10 z11 y0;go_wp2_with fail
   go_roundg (vs.length-(q+1))
   case measure=>omega
   case rel=>exact⟨q+1,_,by omega,by go_num,nY.out,HI4.out,Nz.out⟩
  ·obtain rfl:q=vs.length:=by omega
   have kz:(Cx.eb vs).length=vs.length:=by simp[Cx.eb]
   rw[<-kz,List.take_length]at HO;rw[kz]at HO;have akk:=ae (TV.out.below hb);have y1:=fS akk.out.box;clear hb Xw ho kz;obtain⟨il,oA,QM,nW,kq⟩:=info_parts Tryz.infoILeaf;have Kw:(Cx.leaves (gs.map (·.a))).length<=12:=by have:=gN (gs.map (·.a)) (gs.map (·.a)).length;have:=cR.af;unfold Cx.leaves;simp at*;omega
   obtain⟨gl',cl',e',aj5,akl⟩:=akk.out.lv
   cases e'
   have QQ:=ae akl;clear akl;go_wp2_with fail;clear y1
   go_loopg [46] ((Cx.leaves (gs.map (·.a))).length) (λk v46 wx=>∃(q:Nat)(L:Value)(ps:List (ByteArray×Value)),q+k=(Cx.leaves (gs.map (·.a))).length/\v46=.int .i64 q/\Below w2.heap.size w2 wx/\wx.heap[w2.heap.size]?=some (.cells (imC (.slice aV vs.length cV) L nr) 106 (0,0))/\wx.ownsRow (w2.heap.size+1) 168 2 (.slice aV vs.length cV) vs.length ((Cx.eb vs).flatMap ivC)/\wx.ownsRow (w2.heap.size+1) 102 2 L q (ps.flatMap lfC)/\ps.length=q/\∀i (hi:i<ps.length),∃DR:i<(Cx.leaves (gs.map (·.a))).length,ps[i].1=Cx.nameOf (gs.map (·.a)) (Cx.leaves (gs.map (·.a)))[i]/\E1 wx ps[i].2 (Cx.program vs (gs.map (·.a)) (Cx.leaves (gs.map (·.a)))[i]))
   case atStart=>exact⟨0,.slice none 0 0,[],by omega,rfl,HB.out,HIb.out,HO.out,World.ownsRow_nil _ _ _ _,rfl,λi hi=>absurd hi (by simp)⟩
   case round=>
    obtain⟨q,L,ps,hq,rfl,jX,OX,hvx,wP,tS,hpx⟩:=hrel;have afH:=ae jX;have HIX:=ae OX;have HVX:=ae hvx;have Q8:=ae wP;have HPX:=ae hpx;obtain⟨aL,cL,rfl,_,_⟩:=aj wP;have hsx:=(Array.getElem?_eq_some_iff.1 OX).1
    by_cases hlt:q<(Cx.leaves (gs.map (·.a))).length
    ·have hqi:(q:Int)<(Cx.leaves (gs.map (·.a))).length:=by omega
     have hq0:(0:Int)<=q:=by omega
     have iP:=lH (List.getElem_mem hlt);have hEx:=TV.out.below jX;obtain⟨gl2,cl2,e2,ako,lQ⟩:=hEx.lv
     cases e2
     have c0:=lQ q hlt;have yn:wr.cell? ⟨bl gs (Cx.leaves (gs.map (·.a)))[q],1,none⟩=some (.string (Cx.nameOf (gs.map (·.a)) (Cx.leaves (gs.map (·.a)))[q])):=by
      rw[kU iP];exact((hEx.pt.bG iP).1 1 (by omega)).trans (by simp[MG.box,lz,Cx.nameOf,iP])
     have hbj:bl gs (Cx.leaves (gs.map (·.a)))[q]<w1.heap.size+1:=by rw[kU iP];exact(hEx.pt.bG iP).2.2.2.2
     have y1:=fS OX
     have CK:Hid (∀Y,Below wr.heap.size wr Y->Calls Tryz.prog 81 #[.pointer (some ⟨w1.heap.size,0,none⟩),.pointer (some ⟨bl gs (Cx.leaves (gs.map (·.a)))[q],0,none⟩)] Y λe w'=>∃gp cp,e=.returned (.slice (some ⟨gp,0,none⟩) (Cx.program vs (gs.map (·.a)) (Cx.leaves (gs.map (·.a)))[q]).length cp)/\E1 w' (.slice (some ⟨gp,0,none⟩) (Cx.program vs (gs.map (·.a)) (Cx.leaves (gs.map (·.a)))[q]).length cp) (Cx.program vs (gs.map (·.a)) (Cx.leaves (gs.map (·.a)))[q])/\Below Y.heap.size Y w'):=ae (λY hY=>by
      refine(IC (w1.heap.size+1) w1.heap.size tb base vt _ _ _ vs gs cR Y (hEx.below hY) hr _ iP (Pq _ iP)).mono ?_;rintro e w' ⟨v',rfl,ho',zj⟩;have hpg:=aki ho' (by simp[Cx.program]);obtain⟨gp,cp,cur,rfl,hg,ht⟩:=hpg
      exact⟨gp,cp,rfl,⟨gp,cp,cur,rfl,hg,ht⟩,zj⟩)
     have R0:=λk hk=>(wP.lt k hk).1
     have zh:Hid (Cx.nameOf (gs.map (·.a)) (Cx.leaves (gs.map (·.a)))[q]=Cx.nameOf (gs.map (·.a)) (Cx.leaves (gs.map (·.a)))[q]):=ae rfl;clear hEx lQ jX OX hvx wP hpx;obtain⟨bj,afP⟩:∃bj,bj=bl gs (Cx.leaves (gs.map (·.a)))[q]:=⟨_,rfl⟩;obtain⟨nm,afQ⟩:∃nm,nm=Cx.nameOf (gs.map (·.a)) (Cx.leaves (gs.map (·.a)))[q]:=⟨_,rfl⟩;obtain⟨pl,afR⟩:∃pl,pl=(Cx.program vs (gs.map (·.a)) (Cx.leaves (gs.map (·.a)))[q]).length:=⟨_,rfl⟩;obtain⟨pg,afS⟩:∃pg,pg=Cx.program vs (gs.map (·.a)) (Cx.leaves (gs.map (·.a)))[q]:=⟨_,rfl⟩;rw[<-afP]at c0 yn hbj CK;rw[<-afQ]at yn;rw[<-afR,<-afS]at CK;have HBJ:=ae afP;have apT:=ae afQ;have axU:=ae afR;have apU:=ae afS;clear afP afQ afR afS;have Lw:bj<wr.heap.size:=by omega
     have apV:bj≠w2.heap.size:=by omega
     have iq:q+1<=maxLen:=by unfold maxLen;omega
     have qP:(q+1)*40<=140737488355328:=by omega
     have KX:w2.heap.size+1<=wr.heap.size:=hsx;go_wp2_with fail
     go_region_law (first|(refine aD rfl _ _ 104 rfl (w2.heap.size+1) 102 il _ 2 40 Tryz.underlying104 oA QM nW kq rfl (by decide) _ q (ps.flatMap lfC) rfl (ah (ah Q8.out sJ) (ag _ _)) ⟨_,0,none⟩ 1 1 [.string nm,.slice (some ⟨gp,0,none⟩) pl cp] rfl rfl (aF _ _ rfl [.string nm,.slice (some ⟨gp,0,none⟩) pl cp] _) (uR rfl rfl) iq qP (Nat.le_trans KX (Nat.le_trans oS (ag _ _).size)) ?_;intro v5 w5 aJ ax bu;have hG5:=dO aJ ax bu;obtain⟨a5,c5,rfl,_,_⟩:=aj aJ;have TW:=(hG5.kept.block w2.heap.size (Nat.lt_of_lt_of_le (Nat.lt_of_lt_of_le hsx oS) (ag _ _).size) (λe=>Nat.lt_irrefl _ (R0 _ e))).trans (((ag w3 _).block w2.heap.size (Nat.lt_of_lt_of_le hsx oS)).trans ((sJ.block w2.heap.size hsx).trans HIX.out));have y5:=fS TW;have f5:=Lib.frozen_of_heap TW 1;obtain⟨RO,_,TX⟩:=m9 (b:=bj) hG5 (ag w3 _) (Nat.lt_of_lt_of_le Lw oS) (λk hk e=>by have:=R0 k hk;omega);have n5:=(RO 1).trans zn;have n6:=(((Kp.refl (λk=>k=w2.heap.size) w5).setCell (p:=⟨w2.heap.size,1,none⟩) (.inl rfl) (.slice a5 (q+1) c5)).cell (b:=bj) (o:=1) TX apV).trans n5)|(go_simp;go_at_call 81;refine(CK.out _ ?_).mono ?_;(with_reducible exact bm _);rintro e w3 ⟨gp,cp,rfl,hpg,eC⟩;have sJ:=(bm wr).trans (eC.mono (bm wr).size);have z1:=(sJ.cell hsx).trans y1;have zn:=(sJ.cell Lw).trans yn;have oS:=sJ.size;have axV:¬w2.heap.size=w3.heap.size:=Nat.ne_of_lt (Nat.lt_of_lt_of_le hsx oS);have z2:=((ag w3 (.cells #[.string nm,.slice (some ⟨gp,0,none⟩) pl cp] 102)).cell (Nat.lt_of_lt_of_le hsx oS)).trans z1))
     all_goals
      have lm:Kp (λk=>(Value.slice aL q cL).ownBlock=some k) (w3.alloc (.cells #[.string nm,.slice (some ⟨gp,0,none⟩) pl cp] 102)) w5:=hG5.kept;have hLa:=ah (ah Q8.out sJ) (ag w3 (.cells #[.string nm,.slice (some ⟨gp,0,none⟩) pl cp] 102));have hVa:=ah (ah HVX.out sJ) (ag w3 (.cells #[.string nm,.slice (some ⟨gp,0,none⟩) pl cp] 102));have QW:Kp (λk=>k=w2.heap.size) w5 (w5.setCell ⟨w2.heap.size,1,none⟩ (.slice a5 (q+1) c5)):=(Kp.refl (λk=>k=w2.heap.size) w5).setCell (p:=⟨w2.heap.size,1,none⟩) (.inl rfl) _;have wX:∀pv l,E1 w3 pv l->E1 (w5.setCell ⟨w2.heap.size,1,none⟩ (.slice a5 (q+1) c5)) pv l:=λpv l hp=>by
       have h1:=hp.kept (Kp.aK (F:=λ_=>False) (ag w3 (.cells #[.string nm,.slice (some ⟨gp,0,none⟩) pl cp] 102))) (λ_ _ _ h=>h);have h2:=h1.kept lm (λg cur hg=>cO hLa hg (by decide));refine h2.kept QW (λg cur hg e=>?_);subst e;rw[TW]at hg;simp at hg
      have wj:Below w2.heap.size w2 w5:=(afH.out.trans ((sJ.trans ((ag w3 _).mono oS)).mono (by omega))).trans (lm.toBelow (λk e=>by have:=R0 k e;omega) (by simp;omega));have HB6:Hid (Below w2.heap.size w2 (w5.setCell ⟨w2.heap.size,1,none⟩ (.slice a5 (q+1) c5))):=ae (wj.trans (QW.toBelow (λk e=>by omega) wj.size));have HI6:Hid ((w5.setCell ⟨w2.heap.size,1,none⟩ (.slice a5 (q+1) c5)).heap[w2.heap.size]?=some (.cells (imC (.slice aV vs.length cV) (.slice a5 (q+1) c5) nr) 106 (0,0))):=ae (aE TW);have HV6:=ae (QW.own (lm.own hVa (fI hVa hLa (by decide))) (λk hk e=>by have:=((lm.own hVa (fI hVa hLa (by decide))).lt k hk).1;omega))
      have HL6:Hid ((w5.setCell ⟨w2.heap.size,1,none⟩ (.slice a5 (q+1) c5)).ownsRow (w2.heap.size+1) 102 2 (.slice a5 (q+1) c5) (q+1) ((ps++[(nm,Value.slice (some ⟨gp,0,none⟩) pl cp)]).flatMap lfC)):=ae (by
       rw[List.flatMap_append]
       exact QW.own aJ (λk hk e=>by have:=(aJ.lt k hk).1;omega))
      have HP6:Hid (∀i (hi:i<(ps++[(nm,Value.slice (some ⟨gp,0,none⟩) pl cp)]).length),∃DR:i<(Cx.leaves (gs.map (·.a))).length,(ps++[(nm,Value.slice (some ⟨gp,0,none⟩) pl cp)])[i].1=Cx.nameOf (gs.map (·.a)) (Cx.leaves (gs.map (·.a)))[i]/\E1 (w5.setCell ⟨w2.heap.size,1,none⟩ (.slice a5 (q+1) c5)) (ps++[(nm,Value.slice (some ⟨gp,0,none⟩) pl cp)])[i].2 (Cx.program vs (gs.map (·.a)) (Cx.leaves (gs.map (·.a)))[i])):=ae (λi hi=>by
       by_cases hip:i<ps.length
       ·obtain⟨h2,h3,h4⟩:=HPX.out i hip
        refine⟨h2,?_,?_⟩
        ·rw[List.getElem_append_left hip];exact h3
        ·rw[List.getElem_append_left hip]
         exact wX _ _ (h4.kept (Kp.aK (F:=λ_=>False) sJ) (λ_ _ _ h=>h))
       ·have hie:i=q:=by simp at hi;omega
        subst hie;have hge:(ps++[(nm,Value.slice (some ⟨gp,0,none⟩) pl cp)])[i]=(nm,Value.slice (some ⟨gp,0,none⟩) pl cp):=by rw[List.getElem_append_right (by omega)];simp
        refine⟨hlt,?_,?_⟩
        ·rw[hge];exact apT.out
        ·rw[hge,<-apU.out];exact wX _ _ hpg)
      clear aJ ax bu hG5 TW lm hLa hVa QW wX wj y5 f5 n5 n6 RO TX z1 zn z2 hpg eC sJ y1 yn c0;go_wp2_with fail
      go_roundg ((Cx.leaves (gs.map (·.a))).length-(q+1))
      case measure=>omega
      case rel=>exact⟨q+1,_,_,by omega,by go_num,HB6.out,HI6.out,HV6.out,HL6.out,by simp;omega,HP6.out⟩
    ·obtain rfl:q=(Cx.leaves (gs.map (·.a))).length:=by omega
     obtain⟨y0,y1,y2⟩:=GK OX;have kz:(Cx.eb vs).length=vs.length:=by simp[Cx.eb]
     have akq:((Cx.leaves (gs.map (·.a))).map (Cx.i5 vs (gs.map (·.a)))).length=(Cx.leaves (gs.map (·.a))).length:=by simp
     have hIM:aj7 wr wr.heap.size aV aL (Cx.eb vs) ((Cx.leaves (gs.map (·.a))).map (Cx.i5 vs (gs.map (·.a)))):=by
      refine⟨λi hi=>?_,λi hi=>?_,Nat.le_refl _⟩
      ·obtain⟨g,cap,hv,_,aaJ,_,_,hcc⟩:=aR hvx (by omega)
       cases hv
       have hf:=λj hj=>sP ivC 2 (Cx.eb vs) (λ_=>rfl) i j hi hj
       exact⟨g,rfl,aaJ,(hcc (i*2+0) (by omega)).trans (hf 0 (by omega)),(hcc (i*2+1) (by omega)).trans (hf 1 (by omega))⟩
      ·rw[akq]at hi
       obtain⟨g,cap,hv,_,aaJ,_,_,hcc⟩:=aR wP (by omega)
       cases hv
       have hip:i<ps.length:=by omega
       have hf:=λj hj=>sP lfC 2 ps (λ_=>rfl) i j hip hj
       obtain⟨DR,QT,gp,cp,cur,hpv,hgp,Dk⟩:=hpx i hip;refine⟨g,gp,cp,rfl,aaJ,?_,?_,(Array.getElem?_eq_some_iff.1 hgp).1,λk hk=>?_⟩
       ·refine((hcc (i*2+0) (by omega)).trans (hf 0 (by omega))).trans ?_
        rw[List.getElem_map];simp[lfC,QT,Cx.i5]
       ·refine((hcc (i*2+1) (by omega)).trans (hf 1 (by omega))).trans ?_
        rw[List.getElem_map];simp[lfC,hpv,Cx.i5]
       ·simp only [List.getElem_map,Cx.i5]at hk|-
        rw[Lib.cell_of_heap hgp k];have h3:(cur.toList.take (Cx.program vs (gs.map (·.a)) (Cx.leaves (gs.map (·.a)))[i]).length)[k]?=((Cx.program vs (gs.map (·.a)) (Cx.leaves (gs.map (·.a)))[i]).map Cx.bV)[k]?:=by rw[Dk]
        rw[List.getElem?_take_of_lt hk,List.getElem?_map,List.getElem?_eq_getElem hk]at h3;simpa using h3
     have Oh:=ae (Ls wr aV aL cV cL nr (Cx.eb vs) ((Cx.leaves (gs.map (·.a))).map (Cx.i5 vs (gs.map (·.a)))) hIM (by omega) (by omega) (by
      have h1:Cx.numberOf (gs.map (·.a)) 0<(Cx.leaves (gs.map (·.a))).length:=List.findIdx_lt_length_of_exists ⟨_,hm0,by simp⟩;omega) (λp hp=>by
      obtain⟨j,hj,rfl⟩:=List.mem_map.1 hp
      exact⟨nU j (lH hj),Pq j (lH hj)⟩) (by rw[<-NA];exact eS))
     rw[kz,akq]at Oh;have Ga:Hid (Below w.heap.size w wr):=ae (dH.out.trans (jX.mono dH.out.size));have HNR:=ae NA;clear jX OX hvx wP hpx hIM NA;go_wp2_with fail;refine Oh.out.mono ?_;rintro e wz ⟨rfl,hbz⟩;have nV:=ae (Ga.out.trans (hbz.mono Ga.out.size));clear hbz Oh y0 y1 y2;go_wp2_with fail;go_ret;exact⟨by rw[Cx.fF,Cx.lW,HNR.out];rfl,nV.out⟩
