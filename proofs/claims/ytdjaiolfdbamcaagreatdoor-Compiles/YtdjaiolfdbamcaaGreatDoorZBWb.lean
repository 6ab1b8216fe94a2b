/- The walk of the document's own Right. -/
import Derived.Test.YtdjaiolfdbamcaaGreatDoorZBWa
import Derived.Deep.OwnRows
set_option maxRecDepth 20000
set_option maxHeartbeats 4000000
namespace Go.Proofs.YtdjaiolfdbamcaaGreatDoor
open Go.RowKit
attribute [local go_sem↓] Go.wp_at_zero Go.wp_at_succ
variable {k:Nat}{W:World}
def oV:Option Nat->Value
 |none=>.int .i64 (-1)
 |some c=>.int .i64 (c:Int)
def CM(W:World)(g:Nat)(cs:List (Option Nat)):Prop:=∃C:Array Value,W.heap[g]?=some (.cells C 3 (0,0))/\C.size=cs.length/\∀i,i<cs.length->C[i]?=some (oV (cs.getD i none))
def iV(n:Nat):Value:=.int .i64 (n:Int)
theorem Zp(p:List UInt8)(k:Nat):Mx.oe p k<=255:=by
 unfold Mx.oe;have:=(p.getD (k+1) 0).toNat_lt;split<;>omega
theorem RA{p:List UInt8}(h:p.getD k 0=2):0<=Mx.mg p k/\Mx.mg p k<65536:=by
 unfold Mx.mg;rw[if_pos h];have h1:=(p.getD (k+1) 0).toNat_lt;have h2:=(p.getD (k+2) 0).toNat_lt;unfold Mx.two;omega
theorem CM.kept{W':World}{g:Nat}{cs:List (Option Nat)}(h:CM W g cs)(hb:Below W.heap.size W W'):CM W' g cs:=by
 obtain⟨C,h1,h2⟩:=h;exact⟨C,(hb.block g (bo h1)).trans h1,h2⟩
def Zq(W:World)(v:Value)(nl:List Nat)(u:Value)(gc:Nat):Prop:=∀i (hi:i<nl.length),∃gn cap cur,v=.slice (some ⟨gn,0,none⟩) nl.length cap/\W.heap[gn]?=some (.cells cur 3 (0,0))/\cur[i]?=some (iV nl[i])/\u.ownBlock≠some gn/\gn≠gc
theorem Zr{B gc:Nat}{v u:Value}{nl:List Nat}(h:W.ownsRow B 3 1 v nl.length (nl.map iV))(hg:gc<B)(hu:∀q,u.ownBlock=some q->q<B):Zq W v nl u gc:=by
 intro i hi;obtain⟨g,cap,cur,rfl,tU,hc⟩:=tT h (by omega);have hB:B<=g:=(h.lt g rfl).1;refine⟨g,cap,cur,rfl,tU,?_,λe=>by have:=hu g e;omega,by omega⟩;rw[hc i (by omega),List.getElem?_map,List.getElem?_eq_getElem hi];rfl
theorem RB(p:List UInt8)(lv nb k:Nat):Mx.named p lv nb k=if p.getD k 0=1 then decide (Mx.oe p k<lv)else if p.getD k 0=7\/p.getD k 0=8 then decide (Mx.oe p k<nb)else true:=by
 unfold Mx.named Mx.oe
 by_cases h1:p.getD k 0=1
 ·rw[if_pos h1,if_pos h1,if_pos (.inl h1)]
 ·rw[if_neg h1,if_neg h1]
  by_cases h7:p.getD k 0=7\/p.getD k 0=8
  ·rw[if_pos h7,if_pos h7,if_pos (.inr h7)]
  ·rw[if_neg h7,if_neg h7]
theorem RD{p:List UInt8}{s:Mx.Shape}(hs:Mx.shapeOf (p.getD k 0)=some s):Mx.uO p k s=if(p.getD k 0).toNat<2 then []else if p.getD k 0=2 then [k+Mx.wid (p.getD k 0),k+Mx.wid (p.getD k 0)+(Mx.mg p k).toNat]else [k+Mx.wid (p.getD k 0)]:=by
 obtain⟨hw,h8⟩:=Mx.pw hs;unfold Mx.uO;have hN:p.getD k 0=2->(Mx.mg p k).toNat=Mx.two (p.getD (k+1) 0) (p.getD (k+2) 0):=by
  intro e;unfold Mx.mg;rw[if_pos e];simp
 rw[show k+1+s.width=k+Mx.wid (p.getD k 0) by omega];have he:s.ends=true↔(p.getD k 0).toNat<2:=by
  generalize p.getD k 0=b at*;have:∀n,n<=8->∀s,Mx.shapeOf (UInt8.ofNat n)=some s->(s.ends=true↔(UInt8.ofNat n).toNat<2):=by
   intro n hn;rcases n with _|_|_|_|_|_|_|_|_|n
   iterate 9 (intro s hs;cases hs;decide)
   omega
  have h2:=this b.toNat h8;rw[<-Mx.Gq (c:=b) rfl]at h2;exact h2 s hs
 by_cases h2:(p.getD k 0).toNat<2
 ·rw[if_pos h2,if_pos (he.2 h2)]
 ·rw[if_neg h2,if_neg (λh=>h2 (he.1 h))]
  by_cases e:p.getD k 0=2
  ·rw[if_pos e,if_pos e,hN e]
  ·rw[if_neg e,if_neg e]
theorem RE{p:List UInt8}{lv nb:Nat}{l:List Nat}{st:Mx.Bs}{j c:Nat}{sh:Mx.Shape}(hj:st.2.getD k 0=j)(hc:st.1.getD j none=some c)(hs:Mx.shapeOf (p.getD (l.getD j 0) 0)=some sh):Mx.me p lv nb l st k=if c<sh.takes\/32<c-sh.takes+sh.qJ\/Mx.named p lv nb (l.getD j 0)=false then none else Mx.et l (c-sh.takes+sh.qJ) (Mx.uO p (l.getD j 0) sh) st:=by
 unfold Mx.me;rw[hj,hs,hc];rfl
theorem Tryz.infoIntB:(Tryz.prog.info? 3).map (λi=>(i.zero,i.size,i.bytes))=some (some (.int .i64 0),1,8):=by kernel_rfl
theorem Ob(s:ByteArray)(lv nb:Nat)(w:World)(hs:s.size<=1000000000):
  Calls Tryz.prog 69 #[.string s,.int .i64 lv,.int .i64 nb] w λe w'=>e=.returned (.bool (Mx.mW s.data.toList lv nb))/\Below w.heap.size w w':=by
 have HI:=ae (Kt s w hs);have tS:s.data.toList.length=s.size:=by simp
 obtain⟨J7,RH⟩:∃J7,J7=Mx.mW s.data.toList lv nb:=⟨_,rfl⟩;rw[<-RH];unfold Mx.mW at RH;unfold aiC at HI;obtain⟨p,hp⟩:∃p,p=s.data.toList:=⟨_,rfl⟩;rw[<-hp]at RH HI tS;have Zi:Hid (p.length=s.size):=ae tS;have HCF:Hid (∀l,Mx.oa p=some l->Mx.Cut p 0 l):=ae (λl h=>Mx.Gg _ 0 l (by omega) h);clear hp tS;have HAN:=ae RH;clear RH;generalize Mx.oa p=co at*;go_enter Tryz.func69,Tryz.ntmps69;go_wp2_with fail;refine HI.out.mono ?_;rintro e w1 ⟨bH,dw⟩;have b6:=ae bH;have gI:=bH.size;clear bH HI
 cases co with
 |none=>
  obtain rfl:=dw;go_wp2_with fail;go_ret;exact⟨by rw[HAN.out];rfl,b6.out⟩
 |some l=>
  obtain⟨v,rfl,ho⟩:=dw
  by_cases hl:l=[]
  ·subst hl
   go_wp2_with fail;go_ret;exact⟨by rw[HAN.out];rfl,b6.out⟩
  ·have hne:(!l.isEmpty)=true:=by simpa using hl
   have hLM:=LM.aeM ho hl;have hcut:=HCF.out l rfl;have Kw:l.length<=s.size:=by have:=hcut.len;have:=Zi.out;omega
   have QM:0<l.length:=List.length_pos_iff.2 hl;obtain⟨gl,aiH,cur,rfl,hg,hc⟩:=hLM;have HG:=ae hg;have HC:=ae hc;have HCU:=ae hcut;have ck:=bo hg;have HNE:=ae hl;rw[hne];have aiI:Hid (J7=Mx.Rp p lv nb l (l.length+1) 0 ((List.replicate l.length none).set 0 (some 0),[0])):=ae (by rw[HAN.out];simp only [hne,Bool.true_and]);clear ho hg hc hcut hl hne HAN HCF;have mQ:(0:Int)<=l.length:=by omega
   have Zs:(l.length:Int)<=1000000000:=by omega
   have hmk:(Instr.makeSlice 32 (.int .i64 (l.length:Int)) (.int .i64 (l.length:Int))).run Tryz.prog w1=.ok (.slice (some ⟨w1.heap.size,0,none⟩) l.length l.length) (w1.alloc (.cells (madeCells #[.int .i64 0] l.length) 3)):=run_make_row' (P:=Tryz.prog) 32 3 (.int .i64 0) 8 Tryz.underlying32 Tryz.infoIntB rfl .i64 .i64 l.length (by omega) (by omega) w1;obtain⟨C0,hC0⟩:∃C0,C0=madeCells #[Value.int .i64 0] l.length:=⟨_,rfl⟩;have eu:C0.size=l.length:=by rw[hC0,size_madeCells]
   rw[<-hC0]at hmk;obtain⟨w2,mh⟩:∃w2,w2=w1.alloc (.cells C0 3):=⟨_,rfl⟩;have h20:w2.heap[w1.heap.size]?=some (.cells C0 3 (0,0)):=by rw[mh];exact heap_alloc_new _ _
   have dH:Hid (Below w1.heap.size w1 w2):=ae (by rw[mh];exact ag _ _);have QN:Hid (w2.heap.size=w1.heap.size+1):=ae (by rw[mh];simp);have H20:=ae h20;have HW2:=ae mh;rw[<-mh]at hmk;clear hC0 h20 mh;go_wp2_with fail;clear hmk
   go_loopg [10] l.length (λm v10 wr=>∃(k:Nat)(C:Array Value),k+m=l.length/\v10=.int .i64 k/\wr.heap[w1.heap.size]?=some (.cells C 3 (0,0))/\C.size=l.length/\(∀i,i<k->C[i]?=some (.int .i64 (-1)))/\Kp (λb=>b=w1.heap.size) w2 wr)
   case atStart=>exact⟨0,C0,by omega,rfl,H20.out,eu,λi h=>by omega,Kp.refl _ _⟩
   case round=>
    obtain⟨k,C,hkm,rfl,hC,hCz,hCi,hk⟩:=hrel;have HCH:=ae hC;have ki:=ae hCi;have HK:=ae hk
    by_cases hlt:k<l.length
    ·have rM:(k:Int)<l.length:=by omega
     have jf:(0:Int)<=k:=by omega
     obtain⟨u,hu⟩:∃u,C[k]?=some u:=⟨C[k]'(by omega),Array.getElem?_eq_getElem (by omega)⟩;have x0:wr.cell? ⟨w1.heap.size,k,none⟩=some u:=(Lib.cell_of_heap hC k).trans hu;have f0:wr.frozen? ⟨w1.heap.size,k,none⟩=false:=Lib.frozen_of_heap hC k;clear hC hCi hk hu;go_wp2_with fail
     go_roundg (l.length-(k+1))
     case measure=>omega
     case rel=>
      refine⟨k+1,C.setIfInBounds k (.int .i64 (-1)),by omega,by go_num,aE HCH.out,by simpa using hCz,λi hi=>?_,HK.out.setCell (.inl rfl) _⟩;rw[Array.getElem?_setIfInBounds]
      by_cases e:k=i
      ·rw[if_pos e,if_pos (by omega)]
      ·rw[if_neg e];exact ki.out i (by omega)
    ·have rM:¬(k:Int)<l.length:=by omega
     obtain rfl:k=l.length:=by omega
     have x0:wr.cell? ⟨w1.heap.size,0,none⟩=some (.int .i64 (-1)):=(Lib.cell_of_heap hC 0).trans (hCi 0 QM);have f0:=Lib.frozen_of_heap hC 0;clear hC hCi hk;go_wp2_with fail;obtain⟨w3,zq⟩:∃w3,w3=(wr.setCell ⟨w1.heap.size,0,none⟩ (.int .i64 0)).alloc (.cells #[.int .i64 0] 3):=⟨_,rfl⟩;have jq:Kp (λb=>b=w1.heap.size) w2 w3:=by rw[zq];exact(HK.out.setCell (p:=⟨w1.heap.size,0,none⟩) (.inl rfl) _).alloc _
     have lA:CM w3 w1.heap.size ((List.replicate l.length none).set 0 (some 0)):=by
      refine⟨C.setIfInBounds 0 (.int .i64 0),?_,by simpa using hCz,λi hi=>?_⟩
      ·rw[zq,(ag _ _).block w1.heap.size (by have:=bo HCH.out;simpa using this)]
       exact aE HCH.out
      ·have qe:i<l.length:=by simpa using hi
       rw[Array.getElem?_setIfInBounds,Mx.eU _ _ _ _ (by simpa using QM)]
       by_cases e:0=i
       ·subst e;rw[if_pos rfl,if_pos (by omega),if_pos rfl];rfl
       ·rw[if_neg e,if_neg (λh=>e h.symm),ki.out i qe]
        have:(List.replicate l.length (none:Option Nat)).getD i none=none:=by
         rw[List.getD_eq_getElem?_getD,List.getElem?_replicate];split<;>rfl
        rw[this];rfl
     have hsw:w1.heap.size+1<=wr.heap.size:=by have:=HK.out.size;have:=QN.out;omega
     have ht3:w3.ownsRow (w1.heap.size+1) 3 1 (.slice (some ⟨wr.heap.size,0,none⟩) 1 1) 1 [iV 0]:=by
      rw[zq];have h:=World.ownsRow_lit (size:=1) (base:=w1.heap.size+1) (e:=3) (wr.setCell ⟨w1.heap.size,0,none⟩ (.int .i64 0)) #[.int .i64 0] 1 (by simpa using hsw) (by decide) rfl;simpa[iV]using h
     have HI0:Hid (Mx.BI p l ((List.replicate l.length none).set 0 (some 0),[0])):=ae (Mx.Gl (Mx.xc HCU.out HNE.out) QM)
     have Oc:Hid (∀i c,((List.replicate l.length (none:Option Nat)).set 0 (some 0)).getD i none=some c->c<=32):=ae (λi c h=>by
      rw[Mx.eU _ _ _ _ (by simpa using QM)]at h;split at h
      ·cases h;omega
      ·rw[List.getD_eq_getElem?_getD,List.getElem?_replicate]at h;split at h<;>cases h)
     rw[<-zq];have kj:=ae jq;have rN:=ae lA;have nL:=ae ht3;clear zq jq lA ht3 HK ki HCH hCz hsw;have HGW:Hid (gl<w1.heap.size):=ae ck
     go_loopg [11,12] l.length (λm v11 v12 wq=>∃(k:Nat)(st:Mx.Bs),k+m=l.length/\v12=.int .i64 k/\k<=st.2.length/\Mx.BI p l st/\CM wq w1.heap.size st.1/\wq.ownsRow (w1.heap.size+1) 3 1 v11 st.2.length (st.2.map iV)/\Kp (λb=>b=w1.heap.size) w2 wq/\J7=Mx.Rp p lv nb l (m+1) k st/\∀i c,st.1.getD i none=some c->c<=32)
     case atStart=>exact⟨0,_,by omega,rfl,by simp,HI0.out,rN.out,nL.out,kj.out,aiI.out,Oc.out⟩
     case round=>
      obtain⟨k,st,hkm,rfl,Gt,hI,hC,hT,hK,hA,hS⟩:=hrel;have HI:=ae hI;have HCQ:=ae hC;have HT:=ae hT;have HK:=ae hK;have HA:=ae hA;have Ev:=hI.le;obtain⟨at_,ct,rfl,_,_⟩:=aj hT;have HS:=ae hS;clear hI hC hT hK hA hS HI0 rN nL kj aiI H20 Oc
      by_cases hlt:k<st.2.length
      ·have rM:(k:Int)<st.2.length:=by omega
       have jf:(0:Int)<=k:=by omega
       obtain⟨gt,cpt,cut,bu,ip,hct⟩:=tT HT.out (by omega)
       cases bu
       obtain⟨hj,c,hc⟩:=(HI.out.mem _).1 (Mx.oc hlt);have hw:=HI.out.way _ _ hc;have iP:l.getD (st.2.getD k 0) 0=l[st.2.getD k 0]:=by rw[List.getD_eq_getElem?_getD,List.getElem?_eq_getElem hj];rfl
       have hx0:wr.cell? ⟨gt,k,none⟩=some (.int .i64 (st.2.getD k 0:Nat)):=by
        rw[Lib.cell_of_heap ip k,hct k (by omega),List.getElem?_map,List.getD_eq_getElem?_getD,List.getElem?_eq_getElem hlt];rfl
       obtain⟨sh,hsh,aiJ⟩:=HCU.out.shape _ (Mx.oc hj);have hBS:=RE (lv:=lv) (nb:=nb) rfl hc hsh;have RI:wr.heap[gl]?=some (.cells cur 195 (0,0)):=(HK.out.block gl (by have:=HGW.out;have:=QN.out;omega) (by have:=HGW.out;omega)).trans (((dH.out).block gl HGW.out).trans HG.out);have hcj:=HC.out (st.2.getD k 0) hj;have hCC:wr.cell? ⟨w1.heap.size,st.2.getD k 0,none⟩=some (.int .i64 (c:Nat)):=by
        obtain⟨C,h1,h2,h3⟩:=HCQ.out;rw[Lib.cell_of_heap h1,h3 _ (by rw[HI.out.len];exact hj),hc];rfl
       rw[<-iP]at hcj;generalize st.2.getD k 0=j at*;obtain⟨kk,J8⟩:∃kk,kk=l.getD j 0:=⟨_,rfl⟩;rw[<-J8]at hw hBS hsh aiJ hcj iP;have aob:=HS.out _ _ hc;have uQ:kk<p.length:=by omega
       obtain⟨Dk,hpu⟩:=Mx.Gs hsh;obtain⟨hwd,hb8⟩:=Mx.pw hsh;have atf:=Zp p kk;have y0:wr.cell? ⟨gl,j*5,none⟩=some (.int .i64 (kk:Nat)):=(Lib.cell_of_heap RI (j*5)).trans ((hcj 0 (by omega)).trans rfl);have y1:wr.cell? ⟨gl,j*5+1,none⟩=some (.int .i64 ((p.getD kk 0).toNat:Int)):=(Lib.cell_of_heap RI _).trans ((hcj 1 (by omega)).trans rfl);have y2:wr.cell? ⟨gl,j*5+2,none⟩=some (.int .i64 (Mx.oe p kk:Nat)):=(Lib.cell_of_heap RI _).trans ((hcj 2 (by omega)).trans rfl);have y3:wr.cell? ⟨gl,j*5+3,none⟩=some (.int .i64 (Mx.mg p kk)):=(Lib.cell_of_heap RI _).trans ((hcj 3 (by omega)).trans rfl);have y4:wr.cell? ⟨gl,j*5+4,none⟩=some (.int .i64 ((kk+Mx.wid (p.getD kk 0):Nat):Int)):=(Lib.cell_of_heap RI _).trans ((hcj 4 (by omega)).trans rfl);obtain⟨nx,hnx⟩:∃nx,nx=kk+Mx.wid (p.getD kk 0):=⟨_,rfl⟩;rw[<-hnx]at y4;have zh:=ae (RB p lv nb kk);have Ky:=ae (RD hsh);rw[<-hnx]at Ky;rw[<-Dk,<-hpu]at hBS;have aeO:Hid (∀q∈Mx.uO p kk sh,Mx.Way p [(0,0)] q (c-Mx.ij (p.getD kk 0)+Mx.kN (p.getD kk 0))):=ae (λq hq=>.suc hw ((Mx.pq hsh q _).1 ⟨hq,by rw[Dk,hpu]⟩));have rO:=ae (λh:p.getD kk 0=2=>RA h);have HBS:=ae hBS;have hnp:nx<=p.length:=by omega
       have HW:=ae hw;generalize Mx.oe p kk=ia at*;obtain⟨iN,hiN⟩:∃iN,iN=Mx.mg p kk:=⟨_,rfl⟩;rw[<-hiN]at y3 Ky rO;have HIN:=ae hiN;have HSH:=ae hsh;have FY:=ae J8;generalize p.getD kk 0=b at*;have Kv:(j:Int)<l.length:=by omega
       have zg:(0:Int)<=j:=by omega
       have aiL:=Zi.out;obtain⟨X,hX⟩:∃X,X=wr.alloc (.cells #[.int .i64 kk,.int .i64 (b.toNat:Int),.int .i64 ia,.int .i64 iN,.int .i64 nx] 195):=⟨_,rfl⟩;have hxX:X.heap[wr.heap.size]?=some (.cells #[.int .i64 kk,.int .i64 (b.toNat:Int),.int .i64 ia,.int .i64 iN,.int .i64 nx] 195 (0,0)):=by rw[hX];exact heap_alloc_new _ _
       have qN:Below wr.heap.size wr X:=by rw[hX];exact ag _ _
       have aiM:=bo ip;have aoo:w1.heap.size<wr.heap.size:=by obtain⟨C,h1,_⟩:=HCQ.out;exact bo h1
       have z0:=(qN.cell (p:=⟨gt,k,none⟩) aiM).trans hx0;have z1:=(qN.cell (p:=⟨w1.heap.size,j,none⟩) aoo).trans hCC;have x1:=fS hxX;have HX:=ae hX;have HXX:=ae hxX;have fM:=ae qN;clear hsh hiN hnx hw J8 iP hcj RI hc hBS hxX qN hct Dk hpu hwd aiJ;go_wp2_with fail;rw[<-HX.out];clear hX;have x1d:X.drew.cell? ⟨wr.heap.size,1,none⟩=some (.int .i64 (b.toNat:Int)):=x1;have FZ:wr.heap.size<X.drew.heap.size:=bo HXX.out
       go_region_held3 (λY=>Y.cell? ⟨wr.heap.size,1,none⟩=some (.int .i64 (b.toNat:Int))) (first|go_keep|(with_reducible assumption))
        (first
         |(go_at_call 98;refine(Dj _ b hb8).mono ?_;rintro e wa ⟨rfl,ha⟩;have ya:wa.cell? ⟨wr.heap.size,1,none⟩=some (.int .i64 (b.toNat:Int)):=(ha.cell (p:=⟨wr.heap.size,1,none⟩) FZ).trans x1d)
         |(go_at_call 99;refine(Rz _ b hb8).mono ?_;rintro e wz ⟨rfl,hz⟩;have yz:wz.cell? ⟨wr.heap.size,1,none⟩=some (.int .i64 (b.toNat:Int)):=(hz.cell (p:=⟨wr.heap.size,1,none⟩) (Nat.lt_of_lt_of_le FZ ha.size)).trans ya))
       have nV:Hid (Below wr.heap.size wr wz):=ae ((fM.out.trans ((bm X).mono fM.out.size)).trans ((ha.trans (hz.mono ha.size)).mono (Nat.le_trans fM.out.size (bm X).size)));have QR:Hid (wz.heap[wr.heap.size]?=some (.cells #[.int .i64 kk,.int .i64 (b.toNat:Int),.int .i64 ia,.int .i64 iN,.int .i64 nx] 195 (0,0))):=ae (((ha.trans (hz.mono ha.size)).block wr.heap.size FZ).trans HXX.out);clear ha hz ya yz x1 x1d FZ HXX fM z0 z1 hx0 hCC y0 y1 y2 y3 y4;have HFN:Hid (Mx.me p lv nb l st k=none->J7=false):=ae (λh=>by rw[HA.out];simp only [Mx.Rp];rw[if_pos hlt,h]);have HFS:Hid (∀rC,Mx.me p lv nb l st k=some rC->J7=Mx.Rp p lv nb l (l.length-k) (k+1) rC):=ae (λrC h=>by rw[HA.out];simp only [Mx.Rp];rw[if_pos hlt,h,show l.length-k=gk by omega]);have awy:Mx.ij b<=2:=by unfold Mx.ij;split;omega;split<;>omega
       have awz:Mx.kN b<=1:=by unfold Mx.kN;split<;>omega
       have qO:=ae (Dj wz b hb8);obtain⟨th,hth⟩:∃th:Int,th=IntKind.i64.wrap (IntKind.i64.wrap ((c:Int)-(Mx.ij b:Int))+(Mx.kN b:Int)):=⟨_,rfl⟩;have aiN:th=(c:Int)-(Mx.ij b:Int)+(Mx.kN b:Int):=by rw[hth,IntWalk.i64_in ((c:Int)-(Mx.ij b:Int)) (by omega),IntWalk.i64_in _ (by omega)]
       rw[<-hth];clear hth;generalize Mx.ij b=tk at*;generalize Mx.kN b=pu at*;have HTH:=ae aiN;clear aiN;go_wp2_with fail;refine qO.out.mono ?_;rintro e wy ⟨rfl,hy⟩;have hxy:=(hy.block wr.heap.size (bo QR.out)).trans QR.out;have fR:Hid (Below wr.heap.size wr wy):=ae (nV.out.trans (hy.mono nV.out.size));obtain⟨-,q1,q2,q3,q4⟩:=eN hxy;have QS:=ae hxy;have tV:Hid (Below w.heap.size w wy):=ae (b6.out.trans ((dH.out.trans ((HK.out.toBelow (λb e=>by omega) (by have:=QN.out;omega)).trans (fR.out.mono (by omega)))).mono gI));clear hy hxy nV QR qO
       by_cases hct:c<tk
       ·have aos:(c:Int)<tk:=by omega
        have HR:Hid (J7=false):=ae (HFN.out (by rw[HBS.out,if_pos (.inl hct)]));go_wp2_with fail;go_ret;exact⟨by rw[HR.out];rfl,tV.out⟩
       ·have aos:¬(c:Int)<tk:=by omega
        obtain⟨t,ht⟩:∃t,t=c-tk+pu:=⟨_,rfl⟩;have hti:th=(t:Int):=by rw[HTH.out];omega
        rw[<-ht]at HBS aeO;subst hti;clear ht HTH
        by_cases aot:32<t
        ·have aou:(32:Int)<t:=by omega
         have HR:Hid (J7=false):=ae (HFN.out (by rw[HBS.out,if_pos (.inr (.inl aot))]));go_wp2_with fail;go_ret;exact⟨by rw[HR.out];rfl,tV.out⟩
        ·have aou:¬(32:Int)<t:=by omega
         obtain⟨ii0,dl,eu,dA,eg⟩:=info_parts Tryz.infoIntB;have Gu:=ae dl;have Gv:=ae eu;have Gw:=ae dA;have Gx:=ae eg;clear dl eu dA eg;obtain⟨nl,qf⟩:∃nl,nl=Mx.uO p kk sh:=⟨_,rfl⟩;have xe:=ae (qf.trans Ky.out);have lj:Hid (Mx.named p lv nb kk=true->Mx.me p lv nb l st k=Mx.et l t nl st):=ae (λh=>by rw[HBS.out,if_neg (by rw[h];simp;omega),qf]);have HWY:Hid (∀q∈nl,Mx.Way p [(0,0)] q t):=ae (λq hq=>aeO.out q (by rw[<-qf];exact hq))
         have HQB:Hid (∀q∈nl,q<=1100000000):=ae (λq hq=>by
          have aT:=rO.out;rw[xe.out]at hq;split at hq
          ·cases hq
          ·split at hq
           ·rename_i e2
            have:=aT e2;simp at hq;omega
           ·simp at hq;omega)
         clear qf Ky aeO
         by_cases e1:b=1
         focus
          have b1:((b.toNat:Int)==1)=true:=by rw[e1];rfl
          have b7:¬(7:Int)<=(b.toNat:Int):=by rw[e1];decide
          have b2:¬(2:Int)<=(b.toNat:Int):=by rw[e1];decide
          have b3:((b.toNat:Int)==2)=false:=by rw[e1];rfl
          have Od:Hid (nl=[]):=ae (by rw[xe.out,e1];rfl)
          by_cases RJ:lv<=ia
          ·have aeP:(lv:Int)<=ia:=by omega
           have nU:Mx.named p lv nb kk=false:=by rw[zh.out,if_pos e1];simpa using RJ
           have HR:Hid (J7=false):=ae (HFN.out (by rw[HBS.out,if_pos (.inr (.inr nU))]));go_wp2_with fail;go_ret;exact⟨by rw[HR.out];rfl,tV.out⟩
          have aeP:¬(lv:Int)<=ia:=by omega
          have HBT:Hid (Mx.me p lv nb l st k=Mx.et l t nl st):=ae (lj.out (by rw[zh.out,if_pos e1];simp;omega));clear e1 xe lj;obtain⟨wn,tI⟩:∃wn,wn=wy:=⟨_,rfl⟩;go_wp2_with fail;rw[<-tI];have F0:Hid (wn.ownsRow wr.heap.size 3 1 (.slice none 0 0) nl.length (nl.map iV)):=ae (by rw[Od.out];exact World.ownsRow_nil _ _ _ _);have HBN:Hid (Below wr.heap.size wr wn):=ae (by rw[tI];exact fR.out);obtain⟨vn,tJ⟩:∃vn,vn=Value.slice none 0 0:=⟨_,rfl⟩;rw[<-tJ]at F0|-;clear tI tJ q1 q2 q3 q4
         rotate_left;have b1:((b.toNat:Int)==1)=false:=Di e1
         by_cases e7:7<=b.toNat
         focus
          have b7:(7:Int)<=(b.toNat:Int):=by omega
          have b2:(2:Int)<=(b.toNat:Int):=by omega
          have b3:((b.toNat:Int)==2)=false:=by rw[beq_eq_false_iff_ne];omega
          have h78:b=7\/b=8:=by
           rcases(show b.toNat=7\/b.toNat=8 by omega)with h|h
           ·exact .inl (Mx.Gq h)
           ·exact .inr (Mx.Gq h)
          have Od:Hid (nl=[nx]):=ae (by rw[xe.out,if_neg (by omega),if_neg (λh=>by rw[h]at e7;exact absurd e7 (by decide))])
          by_cases RJ:nb<=ia
          ·have aeP:(nb:Int)<=ia:=by omega
           have nU:Mx.named p lv nb kk=false:=by rw[zh.out,if_neg e1,if_pos h78];simpa using RJ
           have HR:Hid (J7=false):=ae (HFN.out (by rw[HBS.out,if_pos (.inr (.inr nU))]));go_wp2_with fail;go_ret;exact⟨by rw[HR.out];rfl,tV.out⟩
          have aeP:¬(nb:Int)<=ia:=by omega
          have HBT:Hid (Mx.me p lv nb l st k=Mx.et l t nl st):=ae (lj.out (by rw[zh.out,if_neg e1,if_pos h78];simp;omega));clear e1 e7 h78 xe lj;go_wp2_with (at_builtin;refine wpList_append_own_at _ rfl _ _ 32 rfl wr.heap.size 3 ii0 _ 1 8 Tryz.underlying32 Gu.out Gv.out Gw.out Gx.out rfl (by decide) _ 0 _ rfl (World.ownsRow_nil _ _ _ _) ⟨wy.heap.size,0,none⟩ 1 1 [.int .i64 (nx:Int)] rfl rfl (aF _ _ (by first|rfl|simp) [_] _) (eI rfl) ?c3 ?c4 ?c5 ?_)
          (try case c3=>unfold maxLen;omega)
          (try case c4=>omega)
          (try case c5=>have:=fR.out.size;simp;omega)
          intro v9 w9 lB oj _ Gy;have Kz:=dO lB oj (by simpa using Gy);have Zt:Below wr.heap.size wr w9:=(fR.out.trans ((ag wy _).mono fR.out.size)).trans (Kz.kept.toBelow (λk e=>by cases e) (Nat.le_trans fR.out.size (ag wy _).size));obtain⟨wn,tI⟩:∃wn,wn=w9:=⟨_,rfl⟩;have r1:w9.cell? ⟨wr.heap.size,1,none⟩=some (.int .i64 (b.toNat:Int)):=Lib.cell_of_heap ((Kz.kept.block wr.heap.size (Nat.lt_of_lt_of_le (bo QS.out) (ag wy _).size) (λe=>by cases e)).trans (((ag wy _).block wr.heap.size (bo QS.out)).trans QS.out)) 1;obtain⟨a9,c9,rfl,_,_⟩:=aj lB;have lq:=ae lB;have kh:=ae Zt;clear lB oj Gy Kz Zt q1 q2 q3 q4;go_wp2_with fail;rw[<-tI];have F0:Hid (wn.ownsRow wr.heap.size 3 1 (.slice a9 1 c9) nl.length (nl.map iV)):=ae (by rw[Od.out,tI];exact lq.out);have HBN:Hid (Below wr.heap.size wr wn):=ae (by rw[tI];exact kh.out);obtain⟨vn,tJ⟩:∃vn,vn=Value.slice a9 1 c9:=⟨_,rfl⟩;rw[<-tJ]at F0|-;clear tI tJ r1 lq kh
         rotate_left;have b7:¬(7:Int)<=(b.toNat:Int):=by omega
         have h78:¬(b=7\/b=8):=by
          rintro(h|h)
          ·rw[h]at e7;exact e7 (by decide)
          ·rw[h]at e7;exact e7 (by decide)
         have HBT:Hid (Mx.me p lv nb l st k=Mx.et l t nl st):=ae (lj.out (by rw[zh.out,if_neg e1,if_neg h78]))
         by_cases e2:b=2
         focus
          have b2:(2:Int)<=(b.toNat:Int):=by rw[e2];decide
          have b3:((b.toNat:Int)==2)=true:=by rw[e2];rfl
          have Od:Hid (nl=[nx,nx+iN.toNat]):=ae (by rw[xe.out,if_neg (by rw[e2];decide),if_pos e2]);obtain⟨QT,MW⟩:=rO.out e2;have HN0:Hid ((nx:Int)+iN=((nx+iN.toNat:Nat):Int)):=ae (by omega);clear e1 e7 h78 e2 xe lj;go_wp2_with (at_builtin;refine wpList_append_own_at _ rfl _ _ 32 rfl wr.heap.size 3 ii0 _ 1 8 Tryz.underlying32 Gu.out Gv.out Gw.out Gx.out rfl (by decide) _ 0 _ rfl (World.ownsRow_nil _ _ _ _) ⟨wy.heap.size,0,none⟩ 1 1 [.int .i64 (nx:Int)] rfl rfl (aF _ _ (by first|rfl|simp) [_] _) (eI rfl) ?c3 ?c4 ?c5 ?_)
          (try case c3=>unfold maxLen;omega)
          (try case c4=>omega)
          (try case c5=>have:=fR.out.size;simp;omega)
          intro v9 w9 lB oj _ Gy;have Kz:=dO lB oj (by simpa using Gy);have Zt:Below wr.heap.size wr w9:=(fR.out.trans ((ag wy _).mono fR.out.size)).trans (Kz.kept.toBelow (λk e=>by cases e) (Nat.le_trans fR.out.size (ag wy _).size));have hx9:=(Kz.kept.block wr.heap.size (Nat.lt_of_lt_of_le (bo QS.out) (ag wy _).size) (λe=>by cases e)).trans (((ag wy _).block wr.heap.size (bo QS.out)).trans QS.out);obtain⟨-,r1,-,r3,r4⟩:=eN hx9;obtain⟨a9,c9,rfl,_,_⟩:=aj lB;have lq:Hid (w9.ownsRow wr.heap.size 3 1 (.slice a9 1 c9) 1 [.int .i64 (nx:Int)]):=ae lB;have kh:=ae Zt;have aov:wr.heap.size<=w9.heap.size:=Zt.size;clear lB oj Gy Kz Zt q1 q2 q3 q4 hx9;go_wp2_with (at_builtin;refine wpList_append_own_at _ rfl _ _ 32 rfl wr.heap.size 3 ii0 _ 1 8 Tryz.underlying32 Gu.out Gv.out Gw.out Gx.out rfl (by decide) _ 1 _ rfl (ah lq.out (ag _ _)) ⟨w9.heap.size,0,none⟩ 1 1 [.int .i64 ((nx:Int)+iN)] rfl rfl (aF _ _ (by first|rfl|simp) [_] _) (eI rfl) ?d3 ?d4 ?d5 ?_)
          (try case d3=>unfold maxLen;omega)
          (try case d4=>omega)
          (try case d5=>have:=aov;simp;omega)
          intro v8 w8 qr xf _ RL;have Ew:=dO qr xf (by simpa using RL);have aiP:Below wr.heap.size wr w8:=(kh.out.trans ((ag w9 _).mono kh.out.size)).trans (Ew.kept.toBelow (λk e=>(lq.out.lt k e).1) (Nat.le_trans kh.out.size (ag w9 _).size));obtain⟨wn,tI⟩:∃wn,wn=w8:=⟨_,rfl⟩;obtain⟨a8,c8,rfl,_,_⟩:=aj qr;have HO8:=ae qr;have HB8:=ae aiP;clear qr xf RL Ew aiP r1 r3 r4;go_wp2_with fail;rw[<-tI];have F0:Hid (wn.ownsRow wr.heap.size 3 1 (.slice a8 2 c8) nl.length (nl.map iV)):=ae (by rw[Od.out,tI];have h:=HO8.out;rw[HN0.out]at h;exact h);have HBN:Hid (Below wr.heap.size wr wn):=ae (by rw[tI];exact HB8.out);obtain⟨vn,tJ⟩:∃vn,vn=Value.slice a8 2 c8:=⟨_,rfl⟩;rw[<-tJ]at F0|-;clear tI tJ lq kh HO8 HB8
         rotate_left;have b3:((b.toNat:Int)==2)=false:=Di e2
         by_cases e3:b.toNat<2
         focus
          have b2:¬(2:Int)<=(b.toNat:Int):=by omega
          have Od:Hid (nl=[]):=ae (by rw[xe.out,if_pos e3]);clear e1 e7 h78 e2 e3 xe lj;obtain⟨wn,tI⟩:∃wn,wn=wy:=⟨_,rfl⟩;go_wp2_with fail;rw[<-tI];have F0:Hid (wn.ownsRow wr.heap.size 3 1 (.slice none 0 0) nl.length (nl.map iV)):=ae (by rw[Od.out];exact World.ownsRow_nil _ _ _ _);have HBN:Hid (Below wr.heap.size wr wn):=ae (by rw[tI];exact fR.out);obtain⟨vn,tJ⟩:∃vn,vn=Value.slice none 0 0:=⟨_,rfl⟩;rw[<-tJ]at F0|-;clear tI tJ q1 q2 q3 q4
         rotate_left
         focus
          have b2:(2:Int)<=(b.toNat:Int):=by omega
          have Od:Hid (nl=[nx]):=ae (by rw[xe.out,if_neg e3,if_neg e2]);clear e1 e7 h78 e2 e3 xe lj;go_wp2_with (at_builtin;refine wpList_append_own_at _ rfl _ _ 32 rfl wr.heap.size 3 ii0 _ 1 8 Tryz.underlying32 Gu.out Gv.out Gw.out Gx.out rfl (by decide) _ 0 _ rfl (World.ownsRow_nil _ _ _ _) ⟨wy.heap.size,0,none⟩ 1 1 [.int .i64 (nx:Int)] rfl rfl (aF _ _ (by first|rfl|simp) [_] _) (eI rfl) ?c3 ?c4 ?c5 ?_)
          (try case c3=>unfold maxLen;omega)
          (try case c4=>omega)
          (try case c5=>have:=fR.out.size;simp;omega)
          intro v9 w9 lB oj _ Gy;have Kz:=dO lB oj (by simpa using Gy);have Zt:Below wr.heap.size wr w9:=(fR.out.trans ((ag wy _).mono fR.out.size)).trans (Kz.kept.toBelow (λk e=>by cases e) (Nat.le_trans fR.out.size (ag wy _).size));obtain⟨wn,tI⟩:∃wn,wn=w9:=⟨_,rfl⟩;have r1:w9.cell? ⟨wr.heap.size,1,none⟩=some (.int .i64 (b.toNat:Int)):=Lib.cell_of_heap ((Kz.kept.block wr.heap.size (Nat.lt_of_lt_of_le (bo QS.out) (ag wy _).size) (λe=>by cases e)).trans (((ag wy _).block wr.heap.size (bo QS.out)).trans QS.out)) 1;obtain⟨a9,c9,rfl,_,_⟩:=aj lB;have lq:=ae lB;have kh:=ae Zt;clear lB oj Gy Kz Zt q1 q2 q3 q4;go_wp2_with fail;rw[<-tI];have F0:Hid (wn.ownsRow wr.heap.size 3 1 (.slice a9 1 c9) nl.length (nl.map iV)):=ae (by rw[Od.out,tI];exact lq.out);have HBN:Hid (Below wr.heap.size wr wn):=ae (by rw[tI];exact kh.out);obtain⟨vn,tJ⟩:∃vn,vn=Value.slice a9 1 c9:=⟨_,rfl⟩;rw[<-tJ]at F0|-;clear tI tJ r1 lq kh
         all_goals
          have HKN:Hid (Kp (λb=>b=w1.heap.size) w2 wn):=ae (HK.out.below HBN.out);have HCN:Hid (CM wn w1.heap.size st.1):=ae (HCQ.out.kept HBN.out);have Xh:Hid (wn.ownsRow (w1.heap.size+1) 3 1 (.slice (some ⟨gt,0,none⟩) st.2.length ct) st.2.length (st.2.map iV)):=ae (ah HT.out HBN.out);have Zu:Hid (Zq wn vn nl (.slice (some ⟨gt,0,none⟩) st.2.length ct) w1.heap.size):=ae (Zr F0.out (by omega) (λq e=>by cases e;exact aiM));have awD:nl.length<=2:=by rw[Od.out];simp
          have aow:=F0;clear F0 HBN HCQ HT HK QS fR tV Od
          go_loopg [11,17] nl.length (λm v11 v17 wz=>∃(i:Nat)(sz:Mx.Bs),i+m=nl.length/\v17=.int .i64 i/\Mx.BI p l sz/\CM wz w1.heap.size sz.1/\wz.ownsRow (w1.heap.size+1) 3 1 v11 sz.2.length (sz.2.map iV)/\Zq wz vn nl v11 w1.heap.size/\Kp (λb=>b=w1.heap.size) w2 wz/\Mx.et l t (nl.drop i) sz=Mx.et l t nl st/\(∀i c,sz.1.getD i none=some c->c<=32)/\k+1<=sz.2.length)
          case atStart=>exact⟨0,st,by omega,rfl,HI.out,HCN.out,Xh.out,Zu.out,HKN.out,rfl,HS.out,hlt⟩
          case round=>
           obtain⟨i,sz,RM,rfl,hI2,hC2,om,mY,qu,J9,MX,aiR⟩:=hrel;clear HCN Xh Zu HKN;have tV:Hid (Below w.heap.size w wr):=ae (b6.out.trans ((dH.out.trans ((qu.toBelow (λb e=>by omega) (by have:=QN.out;omega)))).mono gI));have RN:=hI2.le;obtain⟨at2,ct2,rfl,_,_⟩:=aj om
           by_cases zr:i<nl.length
           ·have J6:(i:Int)<nl.length:=by omega
            have dl:(0:Int)<=i:=by omega
            obtain⟨gn,awE,cun,tJ,Xi,RO,nM,aox⟩:=mY i zr;have aoy:=Xi;have x0:wr.cell? ⟨gn,i,none⟩=some (iV nl[i]):=(Lib.cell_of_heap Xi i).trans RO;have aeQ:=HWY.out nl[i] (List.getElem_mem zr);rw[List.drop_eq_getElem_cons zr]at J9;have hql:nl[i]<=1100000000:=HQB.out _ (List.getElem_mem zr);obtain⟨q,hq⟩:∃q,q=nl[i]:=⟨_,rfl⟩;rw[<-hq]at x0 aeQ J9 hql;unfold iV at x0;rw[tJ];have hLM:LM wr (.slice (some ⟨gl,0,none⟩) l.length aiH) p l:=⟨gl,aiH,cur,rfl,(qu.block gl (by have:=QN.out;omega) (by omega)).trans ((dH.out.block gl ck).trans HG.out),HC.out⟩;have Oe:=ae (kG wr _ p l q hLM (by omega));obtain⟨C2,iH,lQ,lA⟩:=hC2;have rO:=ae hI2;have rP:=ae om;have mR:=ae mY;have iG:=ae qu;have QU:=ae J9;have Dl:=ae MX;have HVN:=ae tJ;have ot:=ae iH;have rN:=ae lA;have HWQ:=ae aeQ;clear hI2 om mY qu J9 MX tJ Xi RO nM aox hq hLM aoy aeQ;have Gz:N8 l q=match l.findIdx? (· ==q)with|none=>(-1:Int)|some j=>(j:Int):=rfl
            cases hf:l.findIdx? (· ==q)with
            |none=>
             rw[hf]at Gz;simp only at Gz;rw[Gz]at Oe;have HR:Hid (J7=false):=ae (HFN.out (by rw[HBT.out,<-QU.out];simp only [Mx.et,Mx.mV];rw[hf];rfl));clear Gz hf iH lA;go_wp2_with fail;refine Oe.out.mono ?_;rintro e w' ⟨rfl,Og⟩;obtain rfl:=Og.symm;go_wp2_with fail;go_ret;exact⟨by rw[HR.out];rfl,tV.out⟩
            |some j2=>
             rw[hf]at Gz;simp only at Gz;rw[Gz]at Oe;obtain⟨px,aoz⟩:=Mx.Es hf;have awG:(j2:Int)<l.length:=by omega
             have aoA:(0:Int)<=j2:=by omega
             have x2:wr.cell? ⟨w1.heap.size,j2,none⟩=some (oV (sz.1.getD j2 none)):=(Lib.cell_of_heap iH j2).trans (lA j2 (by rw[rO.out.len];exact px));have f2:wr.frozen? ⟨w1.heap.size,j2,none⟩=false:=Lib.frozen_of_heap iH j2;have KA:Hid (Mx.mV l t sz q=match sz.1.getD j2 none with|some d=>(if d=t then some sz else none)|none=>some (sz.1.set j2 (some t),sz.2++[j2])):=ae (by unfold Mx.mV;rw[hf];rfl);have xh:=ae hf;clear Gz hf iH lA aoz
             cases hd:sz.1.getD j2 none with
             |some d=>
              rw[hd]at x2 KA;simp only [oV]at x2;simp only at KA;have awH:=Dl.out _ _ hd;have hdi:(0:Int)<=d:=by omega
              have hdn:¬(d:Int)<0:=by omega
              by_cases hdt:d=t
              ·have hdb:((d:Int) !=(t:Int))=false:=by rw[hdt];simp
               have RP:Hid (Mx.mV l t sz q=some sz):=ae (by rw[KA.out,if_pos hdt]);clear hdt hd KA;go_wp2_with fail;refine Oe.out.mono ?_;rintro e w' ⟨rfl,Og⟩;obtain rfl:=Og.symm;go_wp2_with fail;rw[<-HVN.out]
               go_roundg (nl.length-(i+1))
               case measure=>omega
               case rel=>exact⟨i+1,sz,by omega,by go_num,rO.out,⟨C2,ot.out,lQ,rN.out⟩,rP.out,mR.out,iG.out,by rw[<-QU.out];simp only [Mx.et];rw[RP.out];rfl,Dl.out,aiR⟩
              ·have hdb:((d:Int) !=(t:Int))=true:=by simp;omega
               have HR:Hid (J7=false):=ae (HFN.out (by rw[HBT.out,<-QU.out];simp only [Mx.et];rw[KA.out,if_neg hdt];rfl));clear hdt hd KA;go_wp2_with fail;refine Oe.out.mono ?_;rintro e w' ⟨rfl,Og⟩;obtain rfl:=Og.symm;go_wp2_with fail;go_ret;exact⟨by rw[HR.out];rfl,tV.out⟩
             |none=>
              rw[hd]at x2 KA;simp only [oV]at x2;simp only at KA;obtain⟨hI3,_,_⟩:=Mx.tR rO.out HWQ.out KA.out;have aoC:=hI3.le;simp only [List.length_append,List.length_singleton]at aoC;have aoD:w1.heap.size<wr.heap.size:=bo ot.out;have Ka:=ae hI3;have lC:(wr.setCell ⟨w1.heap.size,j2,none⟩ (.int .i64 t)).ownsRow (w1.heap.size+1) 3 1 (.slice at2 sz.2.length ct2) sz.2.length (sz.2.map iV):=(gX wr w1.heap.size j2 _).own rP.out (λq e h=>by have:=(rP.out.lt q e).1;omega);have RQ:=ae lC;clear hd lC hI3;go_wp2_with fail;refine Oe.out.mono ?_;rintro e w' ⟨rfl,Og⟩;obtain rfl:=Og.symm;go_wp2_with (at_builtin;refine wpList_append_own_at _ rfl _ _ 32 rfl (w1.heap.size+1) 3 ii0 _ 1 8 Tryz.underlying32 Gu.out Gv.out Gw.out Gx.out rfl (by decide) _ sz.2.length _ rfl (ah RQ.out (ag _ _)) ⟨_,0,none⟩ 1 1 [.int .i64 (j2:Int)] rfl rfl (aF _ _ (by first|rfl|simp) [_] _) (eI rfl) (by unfold maxLen;omega) (by omega) (by simp;omega) ?_);intro v7 w7 Dm RR _ aeT;have Do:=dO Dm RR (by simpa using aeT);have HK7:Hid (Kp (λq=>q=w1.heap.size\/(Value.slice at2 sz.2.length ct2).ownBlock=some q) wr w7):=ae ((((gX wr w1.heap.size j2 (.int .i64 t)).mono (λq _ h=>.inl h)).below (ag _ _)).trans Do.kept (λq h=>.inl (.inr h)))
              have HC7:Hid (CM w7 w1.heap.size (sz.1.set j2 (some t))):=ae (by
               refine⟨C2.setIfInBounds j2 (.int .i64 t),?_,by simpa using lQ,λq hq=>?_⟩
               ·rw[Do.kept.block w1.heap.size (by simp;omega) (λe=>by have:=(rP.out.lt _ e).1;omega),(ag _ _).block w1.heap.size (by simpa using aoD)]
                exact aE ot.out
               ·rw[Array.getElem?_setIfInBounds,Mx.eU _ _ _ _ (by rw[rO.out.len];exact px)]
                by_cases e:j2=q
                ·subst e;rw[if_pos rfl,if_pos (by rw[lQ,rO.out.len];exact px),if_pos rfl];rfl
                ·rw[if_neg e,if_neg (λh=>e h.symm)];exact rN.out q (by simpa using hq))
              have HO7:Hid (w7.ownsRow (w1.heap.size+1) 3 1 v7 (sz.2++[j2]).length ((sz.2++[j2]).map iV)):=ae (by rw[List.length_append,List.map_append];exact Dm)
              have HR7:Hid (Zq w7 vn nl v7 w1.heap.size):=ae (λq hq=>by
               obtain⟨gm,cm,um,m1,m2,m3,m4,m5⟩:=mR.out q hq;refine⟨gm,cm,um,m1,(HK7.out.block gm (bo m2) (λh=>h.elim m5 m4)).trans m2,m3,λe=>?_,m5⟩;rcases aeT with h|h
               ·rw[h]at e;exact m4 e
               ·have:=bo m2
                rw[h]at e;simp at e
                omega)
              have HW7:Hid (Kp (λb=>b=w1.heap.size) w2 w7):=ae (iG.out.trans HK7.out (λq h=>h.elim (λe=>.inl e) (λe=>.inr (by have:=(rP.out.lt _ e).1;have:=QN.out;omega))))
              have HS7:Hid (∀i c,(sz.1.set j2 (some t)).getD i none=some c->c<=32):=ae (λi c h=>by
               rw[Mx.eU _ _ _ _ (by rw[rO.out.len];exact px)]at h;split at h
               ·cases h;omega
               ·exact Dl.out i c h)
              have HA7:Hid (Mx.et l t (nl.drop (i+1)) (sz.1.set j2 (some t),sz.2++[j2])=Mx.et l t nl st):=ae (by rw[<-QU.out];simp only [Mx.et];rw[KA.out];rfl);clear Dm RR aeT Do HK7;obtain⟨a7,c7,rfl,_,_⟩:=aj HO7.out;go_wp2_with fail;rw[<-HVN.out]
              go_roundg (nl.length-(i+1))
              case measure=>omega
              case rel=>exact⟨i+1,(sz.1.set j2 (some t),sz.2++[j2]),by omega,by go_num,Ka.out,HC7.out,HO7.out,HR7.out,HW7.out,HA7.out,HS7.out,by simp;omega⟩
           ·have J6:¬(i:Int)<nl.length:=by omega
            obtain rfl:i=nl.length:=by omega
            obtain⟨vb,vc,tJ,_⟩:=aj aow.out;rw[tJ];have rO:=ae hI2;have MY:=ae hC2;have rP:=ae om;have iG:=ae qu;have Dl:=ae MX;have Oh:Hid (J7=Mx.Rp p lv nb l (l.length-k) (k+1) sz):=ae (HFS.out sz (by rw[HBT.out,<-J9,List.drop_length];rfl));clear hI2 hC2 om mY qu J9 MX tJ;go_wp2_with fail
            go_roundg (l.length-(k+1))
            case measure=>omega
            case rel=>exact⟨k+1,sz,by omega,by go_num,aiR,rO.out,MY.out,rP.out,iG.out,by rw[Oh.out];congr 1;omega,Dl.out⟩
      ·have rM:¬(k:Int)<st.2.length:=by omega
       have tV:Hid (Below w.heap.size w wr):=ae (b6.out.trans ((dH.out.trans ((HK.out.toBelow (λb e=>by omega) (by have:=QN.out;omega)))).mono gI));have HR:Hid (J7=(st.2.length==l.length)):=ae (by rw[HA.out];simp only [Mx.Rp];rw[if_neg hlt])
       cases he:(st.2.length==l.length)with
       |true=>
        have hei:((st.2.length:Int)==(l.length:Int))=true:=by simp at he|-;omega
        rw[he]at HR;clear he;go_wp2_with fail;go_ret;exact⟨by rw[HR.out];rfl,tV.out⟩
       |false=>
        have hei:((st.2.length:Int)==(l.length:Int))=false:=by simp at he|-;omega
        rw[he]at HR;clear he;go_wp2_with fail;go_ret;exact⟨by rw[HR.out];rfl,tV.out⟩
