/- Walks of the table's Leaves. -/
import Derived.Test.YtdjaiolfdbamcaaGreatDoorZWRead1
set_option maxRecDepth 20000
set_option maxHeartbeats 400000
namespace Go.Proofs.YtdjaiolfdbamcaaGreatDoor
variable {gs:List MG}{base i j tb:Nat}{ms:List Hx.MA}{w:World}{vm vt vv:Value}{vs:List az}{F:Nat->Prop}
section
open Go.RowKit
def bl(gs:List MG)(j:Nat):Nat:=match gs[j]? with|some m=>m.bZ|none=>0
theorem kU(h:j<gs.length):bl gs j=gs[j].bZ:=by simp[bl,h]
theorem UG(gs:List MG)(i:Nat):(inner gs i).map (·.bZ)=(Cx.bp (gs.map (·.a)) i).map (bl gs):=by
 have h1:(gs.map (·.a)).zipIdx=gs.zipIdx.map (λp=>(p.1.a,p.2)):=by rw[List.zipIdx_map];rfl
 rw[Cx.bp,h1,List.filter_map,List.map_map,List.map_map];have h2:gs=gs.zipIdx.map (·.1):=by simp
 have h3:inner gs i=(gs.zipIdx.filter λp=>decide (p.1.a.outer=(i:Int))).map (·.1):=by
  rw[inner];conv=>lhs;rw[h2,List.filter_map]
  rfl
 rw[h3,List.map_map];apply List.map_congr_left
 grind[bl,List.mem_zipIdx]
theorem ad0(hl:Links gs)(hi:i<gs.length):gs[i].wi=(Cx.bp (gs.map (·.a)) i).map (bl gs):=by
 have h1:=(hl i gs[i].key (by simp[hi])).wi;have h2:gs[i].key.wi=gs[i].wi:=rfl;rw[<-h2,h1,inside,<-UG,inner,List.filter_map,List.map_map];rfl
theorem I0(hl:Links gs)(hi:i<gs.length):Cx.eW (gs.map (·.a)) i=decide (gs[i].wi.length=0):=by
 grind[Cx.bp,ad0,Cx.eW]
theorem zJ(ms:List Hx.MA)(n:Nat):Cx.dR ms (n+1)=Cx.dR ms n++(if Cx.eW ms n then [n]else []):=by
 grind[Cx.eW,Cx.dR,List.range_succ]
theorem gN(ms:List Hx.MA)(n:Nat):(Cx.dR ms n).length<=n:=Nat.le_trans (List.length_filter_le _ _) (by simp)
theorem yr(w:World)(base tb:Nat)(vt vv vm:Value)(vs:List az)(gs:List MG)(F:Nat->Prop)(hT:PT w base tb vt vs gs F vv vm)(hL:Links gs)(ck:gs.length<=3001):
  Calls Tryz.prog 79 #[.pointer (some ⟨tb,0,none⟩)] w λe w'=>∃v,e=.returned v/\w'.ownsRow w.heap.size 164 1 v (Cx.leaves (gs.map (·.a))).length ((Cx.leaves (gs.map (·.a))).map λj=>dz (bl gs j))/\Below w.heap.size w w':=by
 obtain⟨_,_,x2,_,_,Ev,_⟩:=hT.cells;obtain⟨am,cm,nP,_,_⟩:=aj (hT.mem.own 2 _ rfl);simp only at nP;subst nP;have HT:=ae hT;have HL:=ae hL;clear hT hL;obtain⟨i0,dl,eu,dA,eg⟩:=info_parts Tryz.infoPtrA;generalize qm:gs.map (·.a)=ms;have Pt:=ae qm;have HML:Hid (ms.length=gs.length):=ae (by grind);clear qm;go_enter Tryz.func79,Tryz.ntmps79;go_wp2_with fail;clear x2
 go_loopg [3,11] (gs.length) (λk v3 v11 wr=>∃i:Nat,i+k=gs.length/\v11=.int .i64 i/\Below w.heap.size w wr/\wr.ownsRow w.heap.size 164 1 v3 (Cx.dR ms i).length ((Cx.dR ms i).map λj=>dz (bl gs j)))
 case atStart=>exact⟨0,by omega,rfl,Below.refl _ _,World.ownsRow_nil _ _ _ _⟩
 case round=>
  obtain⟨i,hi,rfl,hb,ho⟩:=hrel;have HB:=ae hb;have HO:=ae ho;have hsz:=hb.size;clear hb ho
  by_cases hlt:i<gs.length
  ·have mQ:(i:Int)<gs.length:=by omega
   have Ti:(0:Int)<=i:=by omega
   have nS:=ae (HT.out.below HB.out);obtain⟨gm,IB,_,e,Ui,hcc⟩:=nS.out.TU.resolve_left (λh=>by omega)
   cases e
   have c0:=(hcc i hlt).1;obtain⟨aw,cw,Rb,_,_⟩:=aj (nS.out.mem.own _ _ (pd hlt));have c8:=((nS.out.bG hlt).1 8 (by omega)).trans (by have e:gs[i].vw=.slice aw gs[i].wi.length cw:=Rb;show some gs[i].vw=_;rw[e]);have pP:=I0 HL.out hlt;rw[Pt.out]at pP;have ak3:=kU hlt;have hls:=zJ ms i;have HLS:=ae hls;have hlen:=gN ms i;have J3:=ae ak3;generalize gs[i]=m at*;clear hcc Rb hls ak3
   cases hq:decide (m.wi.length=0)with
   |true=>
    have h0:m.wi.length=0:=by simpa using hq
    rw[hq]at pP;have HLF:=ae pP;clear pP hq;rw[h0]at c8;obtain⟨av,cv,rfl,_,_⟩:=aj HO.out;go_wp2_with (at_builtin;refine wpList_append_own_at _ rfl _ _ 85 rfl w.heap.size 164 i0 _ 1 8 Tryz.underlying85 dl eu dA eg rfl (by decide) _ (Cx.dR ms i).length _ rfl (ah HO.out ((Below.refl _ _).alloc (Nat.le_refl _) _)) ⟨wr.heap.size,0,none⟩ 1 1 [.pointer (some ⟨m.bZ,0,none⟩)] rfl rfl (aF _ _ rfl [_] _) ?c2 ?c3 ?c4 ?c5 ?_)
    case c2=>intro u hu;simp at hu;rcases hu with rfl;rfl
    case c3=>omega
    case c4=>omega
    case c5=>simp;omega
    intro v9 w9 aJ ax _ bu;have hG:=eF aJ ax (by omega);have kh:=ae (HB.out.trans (hG.kept.toBelow (λk e=>(HO.out.lt k e).1) hsz))
    have lq:Hid (w9.ownsRow w.heap.size 164 1 v9 (Cx.dR ms (i+1)).length ((Cx.dR ms (i+1)).map λj=>dz (bl gs j))):=ae (by
     rw[HLS.out,if_pos HLF.out,List.length_append,List.map_append];simp only [List.length_cons,List.length_nil,List.map_cons,List.map_nil,J3.out]
     exact hG.own)
    clear aJ ax bu hG;go_wp2_with fail
    go_roundg (gs.length-(i+1))
    case measure=>omega
    case rel=>exact⟨i+1,by omega,by go_num,kh.out,lq.out⟩
   |false=>
    have h0:¬m.wi.length=0:=by simpa using hq
    have h0':¬(m.wi.length:Int)=0:=by omega
    rw[hq]at pP
    have lq:Hid (wr.ownsRow w.heap.size 164 1 u3 (Cx.dR ms (i+1)).length ((Cx.dR ms (i+1)).map λj=>dz (bl gs j))):=ae (by
     rw[HLS.out,if_neg (by grind),List.append_nil];exact HO.out)
    clear pP hq;go_wp2_with fail
    go_roundg (gs.length-(i+1))
    case measure=>omega
    case rel=>exact⟨i+1,by omega,by go_num,HB.out,lq.out⟩
  ·obtain rfl:i=gs.length:=by omega
   go_wp2_with fail;go_ret;refine⟨_,rfl,?_,HB.out⟩;rw[Cx.leaves,HML.out];exact HO.out
def pK(p:Nat->Bool)(n:Nat)(r:Int):Prop:=(∃k:Nat,k<n/\r=k/\p k=true/\∀j,j<k->p j=false)\/(r=-1/\∀j,j<n->p j=false)
theorem nw{p:Nat->Bool}{k:Nat}(h:∀j,j<k->p j=false)(hk:p k=false):∀j,j<k+1->p j=false:=λj hj=>by
 grind
theorem Fi(p:Nat->Bool)(bs:List Nat)(w:World)(g cap:Nat)(hg:0<bs.length->g<w.heap.size)(hc:∀i (hi:i<bs.length),w.cell? ⟨g,i,none⟩=some (.pointer (some ⟨bs[i],0,none⟩)))(hn:bs.length<=3001)
  (hp:∀k (hk:k<bs.length) W,Below w.heap.size w W->Calls Tryz.prog 169 #[.pointer (some ⟨bs[k],0,none⟩)] W λe w'=>e=.returned (.bool (p k))/\Below W.heap.size W w'):
  Calls Tryz.prog 168 #[.slice (some ⟨g,0,none⟩) bs.length cap,.func (.func 169) #[] #[]] w λe w'=>∃r:Int,e=.returned (.int .i64 r)/\pK p bs.length r/\Below w.heap.size w w':=by
 have HC:=ae hc;have HP:=ae hp;clear hc hp;go_enter Tryz.func168,Tryz.ntmps168;go_wp2_with fail
 go_loopw [8] (λv8 wr=>∃k:Nat,k<=bs.length/\v8=.int .i64 k/\Below w.heap.size w wr/\∀j,j<k->p j=false) (λv8 _=>bs.length-(intOf v8).toNat)
 case atStart=>exact⟨0,by omega,rfl,Below.refl _ _,λj hj=>absurd hj (by omega)⟩
 case round=>
  obtain⟨k,hk,rfl,hb,ha⟩:=hrel;have HA:=ae ha;have HB:=ae hb;have hsz:=hb.size;clear ha
  by_cases hlt:k<bs.length
  ·have ck:=hg (by omega)
   have rM:(k:Int)<bs.length:=by omega
   have jf:(0:Int)<=k:=by omega
   have x0:=(hb.cell ck).trans (HC.out k hlt);have HK:=ae (HP.out k hlt wr HB.out);clear hb;generalize bs[k]=bk at*;go_wp2_with fail;refine HK.out.mono ?_;rintro e w1 ⟨rfl,bH⟩;have b6:=ae (HB.out.trans (bH.mono HB.out.size));clear bH HK
   cases hq:p k with
   |true=>
    have HQ:=ae hq;clear hq;go_wp2_with fail;go_ret;exact⟨k,rfl,.inl ⟨k,hlt,rfl,HQ.out,HA.out⟩,b6.out⟩
   |false=>
    have HQ:=ae hq;clear hq;go_wp2_with fail
    go_roundw
    case rel=>exact⟨k+1,by omega,by go_num,b6.out,nw HA.out HQ.out⟩
    case measure=>grind[intOf]
  ·obtain rfl:k=bs.length:=by omega
   go_wp2_with fail;go_ret;exact⟨-1,rfl,.inr ⟨rfl,HA.out⟩,HB.out⟩
theorem I3(cp:Value)(p:Nat->Bool)(bs:List Nat)(w:World)(g cap:Nat)(hg:0<bs.length->g<w.heap.size)(hc:∀i (hi:i<bs.length),w.cell? ⟨g,i,none⟩=some (.pointer (some ⟨bs[i],0,none⟩)))(hn:bs.length<=3001)
  (hp:∀k (hk:k<bs.length) W,Below w.heap.size w W->Calls Tryz.prog 212 #[.pointer (some ⟨bs[k],0,none⟩),cp] W λe w'=>e=.returned (.bool (p k))/\Below W.heap.size W w'):
  Calls Tryz.prog 168 #[.slice (some ⟨g,0,none⟩) bs.length cap,.func (.func 212) #[] #[cp]] w λe w'=>∃r:Int,e=.returned (.int .i64 r)/\pK p bs.length r/\Below w.heap.size w w':=by
 have HC:=ae hc;have HP:=ae hp;clear hc hp;go_enter Tryz.func168,Tryz.ntmps168;go_wp2_with fail
 go_loopw [8] (λv8 wr=>∃k:Nat,k<=bs.length/\v8=.int .i64 k/\Below w.heap.size w wr/\∀j,j<k->p j=false) (λv8 _=>bs.length-(intOf v8).toNat)
 case atStart=>exact⟨0,by omega,rfl,Below.refl _ _,λj hj=>absurd hj (by omega)⟩
 case round=>
  obtain⟨k,hk,rfl,hb,ha⟩:=hrel;have HA:=ae ha;have HB:=ae hb;have hsz:=hb.size;clear ha
  by_cases hlt:k<bs.length
  ·have ck:=hg (by omega)
   have rM:(k:Int)<bs.length:=by omega
   have jf:(0:Int)<=k:=by omega
   have x0:=(hb.cell ck).trans (HC.out k hlt);have HK:=ae (HP.out k hlt wr HB.out);clear hb;generalize bs[k]=bk at*;go_wp2_with fail;refine HK.out.mono ?_;rintro e w1 ⟨rfl,bH⟩;have b6:=ae (HB.out.trans (bH.mono HB.out.size));clear bH HK
   cases hq:p k with
   |true=>
    have HQ:=ae hq;clear hq;go_wp2_with fail;go_ret;exact⟨k,rfl,.inl ⟨k,hlt,rfl,HQ.out,HA.out⟩,b6.out⟩
   |false=>
    have HQ:=ae hq;clear hq;go_wp2_with fail
    go_roundw
    case rel=>exact⟨k+1,by omega,by go_num,b6.out,nw HA.out HQ.out⟩
    case measure=>grind[intOf]
  ·obtain rfl:k=bs.length:=by omega
   go_wp2_with fail;go_ret;exact⟨-1,rfl,.inr ⟨rfl,HA.out⟩,HB.out⟩
theorem wu(cp:Value)(p:Nat->Bool)(vs:List az)(w:World)(g cap:Nat)(hg:0<vs.length->g<w.heap.size)(hc:∀i (hi:i<vs.length),∀k,k<12->w.cell? ⟨g,i*12+k,none⟩=(fp vs[i])[k]?)(hn:vs.length<=3001)
  (hp:∀k (hk:k<vs.length) W,Below w.heap.size w W->Calls Tryz.prog 239 #[.agg (fp vs[k]).toArray,cp] W λe w'=>e=.returned (.bool (p k))/\Below W.heap.size W w'):
  Calls Tryz.prog 224 #[.slice (some ⟨g,0,none⟩) vs.length cap,.func (.func 239) #[] #[cp]] w λe w'=>∃r:Int,e=.returned (.int .i64 r)/\pK p vs.length r/\Below w.heap.size w w':=by
 have HC:=ae hc;have HP:=ae hp;clear hc hp;go_enter Tryz.func224,Tryz.ntmps224;go_wp2_with fail
 go_loopw [8] (λv8 wr=>∃k:Nat,k<=vs.length/\v8=.int .i64 k/\Below w.heap.size w wr/\∀j,j<k->p j=false) (λv8 _=>vs.length-(intOf v8).toNat)
 case atStart=>exact⟨0,by omega,rfl,Below.refl _ _,λj hj=>absurd hj (by omega)⟩
 case round=>
  obtain⟨k,hk,rfl,hb,ha⟩:=hrel;have HA:=ae ha;have HB:=ae hb;have hsz:=hb.size;clear ha
  by_cases hlt:k<vs.length
  ·have ck:=hg (by omega)
   have rM:(k:Int)<vs.length:=by omega
   have jf:(0:Int)<=k:=by omega
   have hcc:=λj hj=>(hb.cell ck).trans (HC.out k hlt j hj)
   have HK:=ae (HP.out k hlt wr HB.out);clear hb;generalize vs[k]=va at*;obtain⟨⟨k0,s0,n0,l0⟩,⟨k1,s1,n1,l1⟩,⟨k2,s2,n2,l2⟩⟩:=va;have z0:=hcc 0 (by omega);have z1:=hcc 1 (by omega);have z2:=hcc 2 (by omega);have z3:=hcc 3 (by omega);have z4:=hcc 4 (by omega);have z5:=hcc 5 (by omega);have z6:=hcc 6 (by omega);have z7:=hcc 7 (by omega);have z8:=hcc 8 (by omega);have z9:=hcc 9 (by omega);have z10:=hcc 10 (by omega);have z11:=hcc 11 (by omega);simp only [fp,lz,List.cons_append,List.nil_append,List.getElem?_cons_succ,List.getElem?_cons_zero,Nat.add_zero]at z0 z1 z2 z3 z4 z5 z6 z7 z8 z9 z10 z11;simp only [fp,lz,List.cons_append,List.nil_append]at HK;clear hcc;go_wp2_with fail;refine HK.out.mono ?_;rintro e w1 ⟨rfl,bH⟩;have b6:=ae (HB.out.trans (bH.mono HB.out.size));clear bH HK
   cases hq:p k with
   |true=>
    have HQ:=ae hq;clear hq;go_wp2_with fail;go_ret;exact⟨k,rfl,.inl ⟨k,hlt,rfl,HQ.out,HA.out⟩,b6.out⟩
   |false=>
    have HQ:=ae hq;clear hq;go_wp2_with fail
    go_roundw
    case rel=>exact⟨k+1,by omega,by go_num,b6.out,nw HA.out HQ.out⟩
    case measure=>grind[intOf]
  ·obtain rfl:k=vs.length:=by omega
   go_wp2_with fail;go_ret;exact⟨-1,rfl,.inr ⟨rfl,HA.out⟩,HB.out⟩
end
section
open Go.RowKit
attribute [local go_sem↓] Go.wp_at_zero Go.wp_at_succ
theorem I4(w:World)(b:Nat)(d:Bool)(h:w.cell? ⟨b,4,none⟩=some (.bool d)):
  Calls Tryz.prog 169 #[.pointer (some ⟨b,0,none⟩)] w λe w'=>e=.returned (.bool d)/\Below w.heap.size w w':=by
 go_enter Tryz.func169,Tryz.ntmps169;go_wp2_with fail;go_ret;exact⟨rfl,Below.refl _ _⟩
def ju(ms:List Hx.MA):Prop:=∀i,i<ms.length->Cx.eW ms i=false->∃j∈Cx.bp ms i,Cx.j7 ms j=true
theorem PN(h:j∈Cx.bp ms i):∃m,ms[j]?=some m/\m.outer=(i:Int):=by
 obtain⟨p,hp,rfl⟩:=List.mem_map.1 h
 grind
theorem mJ(hl:Links gs)(h:j∈Cx.bp (gs.map (·.a)) i):i<j/\j<gs.length:=by
 obtain⟨m,hm,ho⟩:=PN h;rw[List.getElem?_map,Option.map_eq_some_iff]at hm;obtain⟨g,hg,rfl⟩:=hm;have hj:=(List.getElem?_eq_some_iff.1 hg).1;have:=(hl j g.key (by simp[hg])).lt;have e:g.key.outer=g.a.outer:=rfl;omega
theorem sL(hD:ju ms)(hi:i<ms.length)(hq:Cx.eW ms i=false):Cx.QZ ms i∈Cx.bp ms i:=by
 obtain⟨j,hj,hd⟩:=hD i hi hq;unfold Cx.QZ
 cases hf:(Cx.bp ms i).find? (Cx.j7 ms)<;>grind
theorem I5(hl:Links gs)(hD:ju (gs.map (·.a))):∀(f f' i:Nat),gs.length-i<=f->gs.length-i<=f'->Cx.nd (gs.map (·.a)) f i=Cx.nd (gs.map (·.a)) f' i:=by
 have zK:∀i,gs.length<=i->Cx.eW (gs.map (·.a)) i=true:=λi hi=>by
  cases hq:Cx.eW (gs.map (·.a)) i with
  |true=>rfl
  |false=>
   unfold Cx.eW at hq
   cases hx:Cx.bp (gs.map (·.a)) i with
   |nil=>rw[hx]at hq;cases hq
   |cons j r=>have:=mJ hl (i:=i) (j:=j) (by rw[hx];simp);omega
 intro f
 induction f with
 |zero=>
  intro f' i h1 _
  cases f' with
  |zero=>rfl
  |succ f'=>simp only [Cx.nd,zK i (by omega),if_true]
 |succ f ih=>
  intro f' i h1 h2
  cases f' with
  |zero=>simp only [Cx.nd,zK i (by omega),if_true]
  |succ f'=>
   simp only [Cx.nd]
   cases hq:Cx.eW (gs.map (·.a)) i with
   |true=>rfl
   |false=>
    have hi:i<gs.length:=by
     by_cases h:i<gs.length
     ·exact h
     ·have:=zK i (by omega);rw[hq]at this;cases this
    have:=mJ hl (sL hD (by simpa using hi) hq);exact ih f' _ (by omega) (by omega)
theorem yq(hl:Links gs)(hD:ju (gs.map (·.a)))(hi:i<gs.length)(hq:Cx.eW (gs.map (·.a)) i=false):Cx.enter (gs.map (·.a)) i=Cx.enter (gs.map (·.a)) (Cx.QZ (gs.map (·.a)) i):=by
 have:=mJ hl (sL hD (by grind) hq);have hlen:(gs.map (·.a)).length=gs.length:=by simp
 unfold Cx.enter;rw[hlen,show gs.length-i=(gs.length-i-1)+1 by omega,Cx.nd,if_neg (by simp[hq])]
 grind[I5]
theorem yp(hi:i<ms.length)(hq:Cx.eW ms i=true):Cx.enter ms i=i:=by
 unfold Cx.enter;rw[show ms.length-i=(ms.length-i-1)+1 by omega,Cx.nd,if_pos hq]
theorem PO(hD:ju ms)(hi:i<ms.length)(hq:Cx.eW ms i=false):∃k,∃hk:k<(Cx.bp ms i).length,(Cx.bp ms i)[k]=Cx.QZ ms i/\∀r,pK (λk=>Cx.j7 ms ((Cx.bp ms i).getD k 0)) (Cx.bp ms i).length r->r=k:=by
 have hm:=sL hD hi hq;obtain⟨j,hj,hd⟩:=hD i hi hq
 cases hf:(Cx.bp ms i).find? (Cx.j7 ms)with
 |none=>grind
 |some x=>
  have hx:Cx.QZ ms i=x:=by simp[Cx.QZ,hf]
  obtain⟨hpx,k,hk,hkx,abf⟩:=List.find?_eq_some_iff_getElem.1 hf;refine⟨k,hk,by omega,λr hr=>?_⟩;have hpk:Cx.j7 ms ((Cx.bp ms i).getD k 0)=true:=by rw[List.getD_eq_getElem?_getD,List.getElem?_eq_getElem hk,Option.getD_some,hkx];exact hpx
  rcases hr with⟨q,J4,rfl,J5,Zo⟩|⟨_,hno⟩
  all_goals grind
theorem PP(hT:PT w base tb vt vs gs F vv vm)(hj:j<gs.length):w.cell? ⟨bl gs j,4,none⟩=some (.bool (Cx.j7 (gs.map (·.a)) j)):=by
 rw[kU hj];refine((hT.bG hj).1 4 (by omega)).trans ?_;simp[MG.box,lz,Cx.j7,hj]
theorem Pn(w:World)(base tb:Nat)(vt vv vm:Value)(vs:List az)(gs:List MG)(F:Nat->Prop)(hT:PT w base tb vt vs gs F vv vm)(hL:Links gs)(ck:gs.length<=3001)(hD:ju (gs.map (·.a)))(i:Nat)(hi:i<gs.length):
  Calls Tryz.prog 120 #[dz (bl gs i)] w λe w'=>e=.returned (dz (bl gs (Cx.enter (gs.map (·.a)) i)))/\Below w.heap.size w w':=by
 have HT:=ae hT;have HL:=ae hL;have HD:=ae hD;clear hT hL hD;unfold dz;generalize qm:gs.map (·.a)=ms at*;have Pt:=ae qm;have iq:ms.length=gs.length:=by rw[<-qm];simp
 clear qm;go_enter Tryz.func120,Tryz.ntmps120;go_wp2_with fail
 go_loopg [0] (gs.length) (λk v0 wr=>∃j:Nat,j<gs.length/\gs.length-j<=k/\v0=.pointer (some ⟨bl gs j,0,none⟩)/\Below w.heap.size w wr/\Cx.enter ms j=Cx.enter ms i)
 case atStart=>exact⟨i,hi,by omega,rfl,Below.refl _ _,rfl⟩
 case round=>
  obtain⟨j,hj,N9,rfl,hb,he⟩:=hrel;have HB:=ae hb;have HE:=ae he;have hsz:=hb.size;have nS:=ae (HT.out.below hb);clear hb he;obtain⟨aw,cw,Rb,_,_⟩:=aj (nS.out.mem.own _ _ (pd hj));have agq:gs[j].vw=.slice aw gs[j].wi.length cw:=Rb;have Z4:=ad0 HL.out hj;have pP:=I0 HL.out hj;rw[Pt.out]at Z4 pP;have FW:gs[j].wi.length=(Cx.bp ms j).length:=by rw[Z4];simp
  have c8:wr.cell? ⟨bl gs j,8,none⟩=some (.slice aw (Cx.bp ms j).length cw):=by
   rw[kU hj,<-FW];exact((nS.out.bG hj).1 8 (by omega)).trans (by show some gs[j].vw=_;rw[agq])
  have oX:∀k (hk:k<(Cx.bp ms j).length),∃gw,aw=some ⟨gw,0,none⟩/\gw<wr.heap.size/\wr.cell? ⟨gw,k,none⟩=some (.pointer (some ⟨bl gs (Cx.bp ms j)[k],0,none⟩)):=by
   intro k hk;have ho:wr.ownsRow base 164 1 gs[j].vw gs[j].wi.length (gs[j].wi.map dz):=nS.out.mem.own _ _ (pd hj);obtain⟨gw,cap,oR,_,ako,_,_,hcc⟩:=aR ho (by omega);rw[agq]at oR
   cases oR
   refine⟨gw,rfl,ako,(hcc k (by omega)).trans ?_⟩;rw[Z4,List.map_map,List.getElem?_map,List.getElem?_eq_getElem hk];rfl
  have aqF:(Cx.bp ms j).length<=3001:=by
   have h1:((Cx.bp ms j)).length<=ms.length:=by
    unfold Cx.bp;rw[List.length_map];exact Nat.le_trans (List.length_filter_le _ _) (by simp)
   omega
  rw[FW]at pP;have HCE:=ae oX;clear oX Rb agq Z4 FW
  cases hq:Cx.eW ms j with
  |true=>
   have h0:(Cx.bp ms j).length=0:=by rw[hq]at pP;simpa using pP.symm
   have HQ:=ae hq;rw[h0]at c8;clear hq pP;go_wp2_with fail;go_ret;exact⟨by rw[<-HE.out,yp (by omega) HQ.out];rfl,HB.out⟩
  |false=>
   have h0:¬(Cx.bp ms j).length=0:=by rw[hq]at pP;simpa using pP.symm
   have h0i:(0:Int)<(Cx.bp ms j).length:=by omega
   obtain⟨k0,jf,Fj,oT⟩:=PO HD.out (by omega) hq;obtain⟨gw,rfl,Ul,NC⟩:=HCE.out k0 jf;rw[Fj]at NC;have hdm:=mJ HL.out (i:=j) (j:=Cx.QZ ms j) (by rw[Pt.out];exact sL HD.out (by omega) hq)
   have HES:Hid (Cx.enter ms j=Cx.enter ms (Cx.QZ ms j)):=ae (by
    have:=yq HL.out (i:=j) (by rw[Pt.out];exact HD.out) hj (by rw[Pt.out];exact hq)
    rw[Pt.out]at this;exact this)
   have rM:(k0:Int)<(Cx.bp ms j).length:=by omega
   have aqH:(0:Int)<=k0:=by omega
   have CK:Hid (∀Y,Below wr.heap.size wr Y->Calls Tryz.prog 168 #[.slice (some ⟨gw,0,none⟩) (Cx.bp ms j).length cw,.func (.func 169) #[] #[]] Y λe w'=>e=.returned (.int .i64 k0)/\Below Y.heap.size Y w'):=ae (λY hY=>by
    have hlen:((Cx.bp ms j).map (bl gs)).length=(Cx.bp ms j).length:=by simp
    have:=Fi (λk=>Cx.j7 ms ((Cx.bp ms j).getD k 0)) ((Cx.bp ms j).map (bl gs)) Y gw cw (λ_=>Nat.lt_of_lt_of_le Ul hY.size) (λk hk=>by
     rw[hlen]at hk;obtain⟨gw2,e2,h2,h3⟩:=HCE.out k hk
     cases e2
     rw[List.getElem_map];exact(hY.cell Ul).trans h3) (by rw[hlen];exact aqF) (λk hk W hW=>by
     rw[hlen]at hk;have LC:=mJ HL.out (i:=j) (j:=(Cx.bp ms j)[k]) (by rw[Pt.out];exact List.getElem_mem hk);have:=PP ((nS.out.below hY).below hW) LC.2;rw[Pt.out]at this;rw[List.getElem_map,List.getD_eq_getElem?_getD,List.getElem?_eq_getElem hk,Option.getD_some]
     exact I4 W _ _ this)
    rw[hlen]at this;refine this.mono ?_;rintro e w' ⟨r,rfl,hr,zj⟩;rw[oT r hr]
    exact⟨rfl,zj⟩)
   have tX:bl gs j<wr.heap.size:=by rw[kU hj];exact(nS.out.bG hj).2.2.2.1
   clear hq pP Fj oT HCE;generalize bl gs j=bj at*;generalize (Cx.bp ms j).length=nl at*;go_wp2_with fail
   go_region_held3 (λY=>Y.cell? ⟨bj,8,none⟩=some (.slice (some ⟨gw,0,none⟩) nl cw)/\Y.cell? ⟨gw,k0,none⟩=some (.pointer (some ⟨bl gs (Cx.QZ ms j),0,none⟩))) (first|go_keep|(exact⟨by with_reducible assumption,by with_reducible assumption⟩))
    ((go_at_call 168;refine(CK.out _ ?_).mono ?_;exact⟨rfl,rfl,rfl,Nat.le_refl _,λ_ _=>rfl⟩;rintro e w2 ⟨rfl,aT⟩;have z1:=(aT.cell (p:=⟨bj,8,none⟩) tX).trans c8;have z2:=(aT.cell (p:=⟨gw,k0,none⟩) Ul).trans NC))
   have dH:Hid (Below w.heap.size w w2):=ae (HB.out.trans ((show Below wr.heap.size wr w2 from⟨aT.os,aT.tape,aT.output,aT.size,aT.block⟩).mono hsz));clear aT z1 z2 c8 NC;go_wp2_with fail
   go_roundg (gs.length-Cx.QZ ms j)
   case measure=>omega
   case rel=>exact⟨Cx.QZ ms j,hdm.2,Nat.le_refl _,rfl,dH.out,HES.out.symm.trans HE.out⟩
theorem lY{α:Type}(l:List α)(q:α->Bool)(p:Nat->Bool)(hp:∀k (hk:k<l.length),p k=q l[k])(nO:l.any q=true):l.findIdx q<l.length/\∀r,pK p l.length r->r=(l.findIdx q:Nat):=by
 have hlt:=List.findIdx_lt_length_of_exists (List.any_eq_true.1 nO);have bu:=List.findIdx_getElem (w:=hlt);refine⟨hlt,λr hr=>?_⟩;rcases hr with⟨k,hk,rfl,h1,h2⟩|⟨_,hno⟩
 all_goals grind
theorem LS(w:World)(mb nb:Nat)(s n:ByteArray)(hs:w.cell? ⟨mb,1,none⟩=some (.string s))(hn:w.cell? ⟨nb,0,none⟩=some (.string n)):
  Calls Tryz.prog 212 #[.pointer (some ⟨mb,0,none⟩),.pointer (some ⟨nb,0,none⟩)] w λe w'=>e=.returned (.bool (s.toList==n.toList))/\Below w.heap.size w w':=by
 go_enter Tryz.func212,Tryz.ntmps212;go_wp2_with fail
 go_quiet (fail)
 go_wp2_with fail;go_ret;exact⟨rfl,⟨rfl,rfl,rfl,Nat.le_refl _,λ_ _=>rfl⟩⟩
theorem yt(gs:List MG)(n:ByteArray):(gs.map (·.a)).findIdx (λm=>m.name.s.toList==n.toList)=gs.findIdx (dV n):=by
 rw[List.findIdx_map];rfl
theorem TY(w:World)(base tb:Nat)(vt vv vm:Value)(vs:List az)(gs:List MG)(F:Nat->Prop)(hT:PT w base tb vt vs gs F vv vm)(ck:gs.length<=3001)(n:ByteArray)(nO:gs.any (dV n)=true):
  Calls Tryz.prog 170 #[.pointer (some ⟨tb,0,none⟩),.string n] w λe w'=>e=.returned (dz (bl gs (Cx.fE (gs.map (·.a)) n)))/\Below w.heap.size w w':=by
 have HB:Hid (Below w.heap.size w (w.alloc (.cells #[.string n] 9))):=ae ((Below.refl _ _).alloc (Nat.le_refl _) _);have HX:=ae (heap_alloc_new w (.cells #[.string n] 9));have hz:(w.alloc (.cells #[.string n] 9)).heap.size=w.heap.size+1:=by simp
 have HT:=ae (hT.below HB.out);have Ev:=hT.cells.2.2.2.2.2.1;obtain⟨am,cm,nP,_,_⟩:=aj (hT.mem.own 2 _ rfl);simp only at nP;subst nP;obtain⟨X,hX⟩:∃X,X=w.alloc (.cells #[.string n] 9):=⟨_,rfl⟩;rw[<-hX]at HB HX hz HT;obtain⟨_,_,x2,_,_,htX,_⟩:=HT.out.cells;obtain⟨hk,oT⟩:=lY gs (dV n) (λk=>((gs.map (λm:MG=>m.a.name.s)).getD k ⟨#[]⟩).toList==n.toList) (λk hk=>by simp[hk,dV]) nO;rw[Cx.fE,yt];generalize gs.findIdx (dV n)=k0 at*;rw[kU hk];obtain⟨gm,IB,_,e,Ui,hcc⟩:=HT.out.TU.resolve_left (λh=>by omega)
 cases e
 have QY:=Ui (by omega);have NC:=(hcc k0 hk).1;have xn:=dt HX.out;have rM:(k0:Int)<gs.length:=by omega
 have aqH:(0:Int)<=k0:=by omega
 have CK:Hid (∀Y,Below X.heap.size X Y->Calls Tryz.prog 168 #[.slice (some ⟨gm,0,none⟩) gs.length cm,.func (.func 212) #[] #[.pointer (some ⟨w.heap.size,0,none⟩)]] Y λe w'=>e=.returned (.int .i64 k0)/\Below Y.heap.size Y w'):=ae (λY hY=>by
  have hlen:(gs.map (·.bZ)).length=gs.length:=by simp
  have:=I3 (.pointer (some ⟨w.heap.size,0,none⟩)) (λk=>((gs.map (λm:MG=>m.a.name.s)).getD k ⟨#[]⟩).toList==n.toList) (gs.map (·.bZ)) Y gm cm (λ_=>Nat.lt_of_lt_of_le QY hY.size) (λk hk=>by
   rw[hlen]at hk;rw[List.getElem_map];exact(hY.cell QY).trans (hcc k hk).1) (by omega) (λk hk W hW=>by
   rw[hlen]at hk;rw[List.getElem_map];have e2:(gs.map (λm:MG=>m.a.name.s)).getD k ⟨#[]⟩=gs[k].a.name.s:=by simp[hk]
   rw[e2];have hXW:=hY.trans (hW.mono hY.size)
   exact LS W _ _ _ _ ((hXW.cell (hcc k hk).2.2).trans (hcc k hk).2.1) ((hXW.cell (show w.heap.size<X.heap.size by omega)).trans xn))
  rw[hlen]at this;refine this.mono ?_
  grind)
 unfold dz;generalize gs[k0].bZ=bk at*;clear hcc oT nO hT HX xn;go_enter Tryz.func170,Tryz.ntmps170;go_upto_region 1 with(fail);rw[<-hX];clear hX
 go_region_held3 (λY=>Y.cell? ⟨tb,2,none⟩=some (.slice (some ⟨gm,0,none⟩) gs.length cm)/\Y.cell? ⟨gm,k0,none⟩=some (.pointer (some ⟨bk,0,none⟩))) (first|go_keep|(exact⟨by with_reducible assumption,by with_reducible assumption⟩))
  ((go_at_call 168;refine(CK.out _ ?_).mono ?_;exact⟨rfl,rfl,rfl,Nat.le_refl _,λ_ _=>rfl⟩;rintro e w2 ⟨rfl,aT⟩;have z1:=(aT.cell htX).trans x2;have z2:=(aT.cell QY).trans NC))
 have dH:=ae (HB.out.trans ((show Below X.heap.size X w2 from⟨aT.os,aT.tape,aT.output,aT.size,aT.block⟩).mono (by omega)));clear aT z1 z2 x2 NC;go_wp2_with fail;go_ret;exact⟨rfl,dH.out⟩
theorem yx(hi:i<gs.length):Cx.aZ (gs.map (·.a)) i=gs[i].a.outer:=by simp[Cx.aZ,hi]
theorem jR(hl:Links gs)(hi:i<gs.length):Cx.aZ (gs.map (·.a)) i<i/\-1<=Cx.aZ (gs.map (·.a)) i:=by
 rw[yx hi];have h:=hl i gs[i].key (by simp[hi]);exact⟨h.lt,h.low⟩
theorem yy(hl:Links gs):∀(i:Nat),i<gs.length->∀f,i<=f->Cx.nH (gs.map (·.a)) f i=Cx.path (gs.map (·.a)) i:=by
 intro i
 induction i using Nat.strongRecOn with
 |_ i ih=>
  intro hi f hf;have ho:=jR hl hi;unfold Cx.path
  cases i with
  |zero=>
   have h0:Cx.aZ (gs.map (·.a)) 0<0:=by omega
   cases f with
   |zero=>rfl
   |succ f=>
    show(if Cx.aZ (gs.map (·.a)) 0<0 then [0]else _)=_;rw[if_pos h0];rfl
  |succ i=>
   cases f with
   |zero=>omega
   |succ f=>
    rw[Cx.nH,Cx.nH]
    grind
theorem mL(hl:Links gs)(hi:i<gs.length):Cx.path (gs.map (·.a)) i=if Cx.aZ (gs.map (·.a)) i<0 then [i]else Cx.path (gs.map (·.a)) (Cx.aZ (gs.map (·.a)) i).toNat++[i]:=by
 rw[<-yy hl i hi (i+1) (by omega),Cx.nH];have ho:=jR hl hi
 by_cases h0:Cx.aZ (gs.map (·.a)) i<0
 ·grind
 ·rw[if_neg h0,if_neg h0,yy hl _ (by omega) i (by omega)]
theorem sQ(hl:Links gs):∀i,i<gs.length->(Cx.path (gs.map (·.a)) i).length<=i+1:=by
 intro i
 induction i using Nat.strongRecOn with
 |_ i ih=>
  intro hi;have ho:=jR hl hi;rw[mL hl hi]
  grind
theorem I6(hT:PT w base tb vt vs gs F vv vm)(hl:Links gs)(hi:i<gs.length):
  w.cell? ⟨bl gs i,6,none⟩=some (if Cx.aZ (gs.map (·.a)) i<0 then .pointer none else dz (bl gs (Cx.aZ (gs.map (·.a)) i).toNat)):=by
 have ho:=jR hl hi;rw[kU hi];refine((hT.bG hi).1 6 (by omega)).trans ?_;have hk:=hl i gs[i].key (by simp[hi]);have har:gs[i].ar=if gs[i].a.outer<0 then none else((gs.map MG.key)[gs[i].a.outer.toNat]?).map Key.bZ:=hk.ar;rw[yx hi]at*;show some (arV gs[i].ar)=_;rw[har]
 by_cases h0:gs[i].a.outer<0
 ·rw[if_pos h0,if_pos h0];rfl
 ·have kq:gs[i].a.outer.toNat<gs.length:=by omega
  simp_all[arV,MG.key,if_neg,kU]
theorem IE(base tb:Nat)(vt vv vm:Value)(vs:List az)(gs:List MG)(F:Nat->Prop)(hL:Links gs)(ck:gs.length<=3001):∀(i:Nat)(_:i<gs.length)(w:World),PT w base tb vt vs gs F vv vm->
  Calls Tryz.prog 112 #[dz (bl gs i)] w λe w'=>∃v,e=.returned v/\w'.ownsRow w.heap.size 164 1 v (Cx.path (gs.map (·.a)) i).length ((Cx.path (gs.map (·.a)) i).map λj=>dz (bl gs j))/\Below w.heap.size w w':=by
 intro i
 induction i using Nat.strongRecOn with
 |_ i ih=>
  intro hi w hT;have ho:=jR hL hi;have hst:=mL hL hi;have har:=I6 hT hL hi;have IH:=ae ih;obtain⟨i0,dl,eu,dA,eg⟩:=info_parts Tryz.infoPtrA
  by_cases h0:Cx.aZ (gs.map (·.a)) i<0
  ·rw[if_pos h0]at hst har
   rw[hst];unfold dz;clear ih IH hst;go_enter Tryz.func112,Tryz.ntmps112;go_wp2_with fail;go_ret;exact⟨_,rfl,rR w _ _ (Nat.le_refl _) rfl [_] _ 1 1 rfl (by grind[maxLen]),(Below.refl _ _).alloc (Nat.le_refl _) _⟩
  ·rw[if_neg h0]at hst har
   have HS:=ae hst;have auN:=sQ hL (Cx.aZ (gs.map (·.a)) i).toNat (by omega);have HI:=ae (IH.out (Cx.aZ (gs.map (·.a)) i).toNat (by omega) (by omega) w hT);have hol:(Cx.aZ (gs.map (·.a)) i).toNat<gs.length:=by omega
   clear ih IH hst;generalize (Cx.aZ (gs.map (·.a)) i).toNat=o at*;rw[HS.out];unfold dz at*;go_enter Tryz.func112,Tryz.ntmps112;go_wp2_with fail;refine HI.out.mono ?_;rintro e w1 ⟨v1,rfl,jQ,bH⟩;have nZ:=ae jQ;have b6:=ae bH;have gI:=bH.size;obtain⟨a1,c1,rfl,_,_⟩:=aj jQ;clear jQ bH HI har;go_wp2_with (at_builtin;refine wpList_append_own_at _ rfl _ _ 85 rfl w.heap.size 164 i0 _ 1 8 Tryz.underlying85 dl eu dA eg rfl (by decide) _ (Cx.path (gs.map (·.a)) o).length _ rfl (ah nZ.out ((Below.refl _ _).alloc (Nat.le_refl _) _)) ⟨w1.heap.size,0,none⟩ 1 1 [.pointer (some ⟨bl gs i,0,none⟩)] rfl rfl (aF _ _ rfl [_] _) ?c2 ?c3 ?c4 ?c5 ?_)
   case c2=>intro u hu;simp at hu;rcases hu with rfl;rfl
   case c3=>grind[maxLen]
   case c4=>omega
   case c5=>simp;omega
   intro v9 w9 aJ ax _ bu;have hG:=eF aJ ax (by omega);have kh:=ae (b6.out.trans (hG.kept.toBelow (λk e=>(nZ.out.lt k e).1) gI));have lq:=ae hG.own;clear aJ ax bu hG;go_wp2_with fail;go_ret;exact⟨_,rfl,by rw[List.length_append,List.map_append];exact lq.out,kh.out⟩
