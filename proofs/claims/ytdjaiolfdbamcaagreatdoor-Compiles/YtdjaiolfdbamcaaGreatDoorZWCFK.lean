/- The walk of scenesOf. -/
import Derived.Test.YtdjaiolfdbamcaaGreatDoorZWCFJ
import Derived.Deep.OwnRows
set_option maxRecDepth 20000
set_option maxHeartbeats 1500000
namespace Go.Proofs.YtdjaiolfdbamcaaGreatDoor
open Go.RowKit
attribute [local go_sem↓] Go.wp_at_zero Go.wp_at_succ
variable {base c i m tb:Nat}{F:Nat->Prop}{W:World}{v:Value}{l:List Int}{vs:List az}{ms:List Hx.MA}{cs:List (List Int)}{us:List Value}
namespace Cx
theorem LK(qs:List Q):∀(cs:List (List Int))(i:Nat),(cj qs cs)[i]?=cs[i]?.map (· ++fH qs i):=by
 induction qs with
 |nil=>grind[cj,fH]
 |cons q t ih=>
  intro cs i;have h1:cj (q::t) cs=cj t (o8 cs q):=rfl;rw[h1,ih];unfold o8 fH
  grind
theorem PB(qs:List Q)(m i:Nat)(h:i<m):(cj qs (List.replicate m []))[i]?=some (fH qs i):=by
 grind[LK]
theorem D8(m:Nat):fits (List.replicate m []) 0:=by
 intro l hl
 grind
end Cx
theorem jJ.aa7{A:Nat->Prop}{W':World}{p:List Int->Bool}(h:jJ m A W v p)(hk:Kp F W W')(hF:∀{c:Nat}{x:Value},W.heap[c]?=some (.cells #[x] 272 (0,0))->¬F c):jJ m A W' v p:=by
 have key:∀{c:Nat}{x:Value},W.heap[c]?=some (.cells #[x] 272 (0,0))->W'.heap[c]?=some (.cells #[x] 272 (0,0)):=λhx=>(hk.block _ (Array.getElem?_eq_some_iff.1 hx).1 (hF hx)).trans hx
 induction h<;>simp_all[gZ,atom,not,or,and]
theorem Uz{rb gc:Nat}(hb:W.heap[rb]?=some (.cells #[.pointer (some ⟨tb,0,none⟩),.slice (some ⟨gc,0,none⟩) m m] 216 (0,0)))(hr:W.heap[gc]?=some (.cells (List.replicate m (Value.slice none 0 0)).toArray 32 (0,0)))(hc:c<=gc):mS W c rb tb gc (List.replicate m []) (List.replicate m (.slice none 0 0)):=by
 have hz:i9 (List.replicate m []) (List.replicate m (Value.slice none 0 0))=List.replicate m (yu [] (.slice none 0 0)):=by unfold i9;simp
 refine⟨by grind,hr,hc,by simp,?_⟩;rw[hz];refine⟨λi r hr=>?_,λi j a b _ ha _=>?_⟩
 ·rw[(List.mem_replicate.1 (List.mem_of_getElem? hr)).2]
  exact World.ownsRow_nil _ _ _ _
 ·rw[(List.mem_replicate.1 (List.mem_of_getElem? ha)).2]
  exact .inl rfl
theorem UA(m:Nat):Go.madeCells #[Value.slice none 0 0] m=(List.replicate m (Value.slice none 0 0)).toArray:=by
 apply Array.ext
 all_goals simp_all[Go.madeCells,Nat.mod_one]
theorem aa8{g n cap:Nat}(h:W.ownsRow base 3 1 (.slice (some ⟨g,0,none⟩) n cap) n (l.map (.int .i64)))(hn:n=l.length):NI W (.slice (some ⟨g,0,none⟩) n cap) l:=by
 subst hn;rcases h.2 with⟨e,_⟩|⟨g',cap',cur,e,_,hg,hc,hm,_,ht⟩
 ·cases e
 ·cases e
  exact⟨g,cap,cur,rfl,hc,hm,hg,by grind⟩
theorem LL(h:W.ownsRow c 3 1 v l.length (l.map (.int .i64))):∃av cap g,v=.slice av l.length cap/\(0<l.length->av=some ⟨g,0,none⟩/\g<W.heap.size)/\∀i (hi:i<l.length),W.cell? ⟨g,i,none⟩=some (.int .i64 l[i]):=by
 by_cases h0:0<l.length
 ·obtain⟨g,cap,e,_,hg,_,_,hc⟩:=aR h h0
  grind
 ·obtain⟨a,cap,e,_,_⟩:=aj h
  simp_all
theorem PD{w:World}{vt vv vm:Value}{gs:List MG}(h:PT w base tb vt vs gs F vv vm)(hi:i<vs.length):∃gv cap,vv=.slice (some ⟨gv,0,none⟩) vs.length cap/\gv<w.heap.size/\∀k,k<12->w.cell? ⟨gv,i*12+k,none⟩=(fp vs[i])[k]?:=by
 have ho:w.ownsRow base 166 12 vv vs.length (vs.flatMap fp):=h.mem.own 1 _ rfl;obtain⟨g,cap,e,_,hg,_,_,hc⟩:=aR ho (by omega);refine⟨g,cap,e,hg,λk hk=>(hc (i*12+k) (by omega)).trans ?_⟩;exact sP fp 12 vs (λ_=>rfl) i k hi hk
theorem pc(vs:List az)(ms:List Hx.MA):(Cx.bU vs ms).length=2*vs.length:=by unfold Cx.bU;simp
theorem LN(vs:List az)(ms:List Hx.MA)(j:Nat)(hj:j<(Cx.bU vs ms).length):(Cx.bU vs ms)[j]=Cx.choice vs (Cx.bS vs ms) j:=by
 simp[Cx.bU]
theorem zG{qs:List Cx.Q}(he:cs=Cx.bU vs ms)(hq:qs=Cx.bS vs ms)(h:∀i,(Cx.choice vs qs i).length<=1000):∀c∈cs,c.length<=1000:=by
 subst hq;subst he;intro c hc;obtain⟨j,_,e⟩:=List.mem_map.1 hc
 grind
theorem PE{qs:List Cx.Q}{j:Nat}(he:cs=Cx.bU vs ms)(hq:qs=Cx.bS vs ms)(h:NR W v (Cx.choice vs qs j))(hj:j<cs.length):NR W v cs[j]:=by
 grind[LN]
theorem agf(h:i<vs.length):Cx.fj vs i=vs[i].first.n/\Cx.fT vs i=vs[i].last.n:=by simp[Cx.fj,Cx.fT,h]
def scC(p:Value×Int):List Value:=[p.1,.int .u32 p.2]
theorem Tryz.infoScene:(Tryz.prog.info? 223).map (λi=>(i.zero,i.size,i.bytes))=some (some (.agg #[.slice none 0 0,.int .u32 0]),2,32):=by kernel_rfl
theorem aa9{rs:List Int}(h1:i<us.length)(h2:i<rs.length):((us.zip rs).take (i+1)).flatMap scC=((us.zip rs).take i).flatMap scC++[us[i],.int .u32 rs[i]]:=by
 grind[scC,List.take_add_one,List.getElem?_eq_getElem,List.length_zip]
theorem agi{s:Value}{ls:List (List Int)}{R:List Int->Int}(hlen:us.length=ls.length)(ho:W.ownsRow base 223 2 s ls.length ((us.zip (ls.map R)).flatMap scC))(hn:∀i (hi:i<us.length) (hj:i<ls.length),NR W us[i] ls[i])(h0:0<ls.length):ScM W s (ls.map λl=>(l,R l)):=by
 obtain⟨g,cap,e,_,hg,_,_,hc⟩:=aR ho h0;refine⟨g,cap,by grind,hg,λi hi=>?_⟩;have DR:=by simpa using hi
 have hi3:i<us.length:=by rw[hlen];exact DR
 have hz:i<(us.zip (ls.map R)).length:=by rw[List.length_zip];simp;omega
 have hf:=λj hj=>sP scC 2 (us.zip (ls.map R)) (λ_=>rfl) i j hz hj
 have hp:(us.zip (ls.map R))[i]=(us[i],R ls[i]):=by simp
 refine⟨(hc (i*2+1) (by omega)).trans ((hf 1 (by omega)).trans (by grind[scC])),us[i],(hc (i*2) (by omega)).trans ((hf 0 (by omega)).trans (by rw[hp];rfl)),?_⟩
 grind
theorem Fc(w:World)(base tb:Nat)(vt vv vm:Value)(vs:List az)(gs:List MG)(hT:PT w base tb vt vs gs (λk=>k<w.heap.size) vv vm)(kz:vs.length<=400)(ck:gs.length<=1000)(hg:∀m∈gs,m.a.rows.length<=10000/\∀r∈m.a.rows,Ke vs r.g)
  (hn:2*(d8 vs (Cx.bh (gs.map (·.a)))).length<=100000) (F3:(Cx.bh (gs.map (·.a))).length<=100) (lP:∀i,(Cx.choice vs (Cx.bS vs (gs.map (·.a))) i).length<=1000) (hcb:∀i,(Cx.combine ((Cx.bU vs (gs.map (·.a))).take i)).length<=100000000) (h0:0<(Cx.combine (Cx.bU vs (gs.map (·.a)))).length):
  Calls Tryz.prog 77 #[.pointer (some ⟨tb,0,none⟩)] w λe w'=>∃s,e=.returned s/\ScM w' s (Cx.fk vs (gs.map (·.a)))/\Below w.heap.size w w':=by
 obtain⟨_,x1,_,_,_,Ev,_⟩:=hT.cells;obtain⟨av,cv,nR,_,_⟩:=aj (hT.mem.own 1 _ rfl);simp only at nR;subst nR;have HT:=ae hT;have HG:=ae hg;have QQ:=ae lP;have HCB:=ae hcb;have H0:=ae h0;clear hT hg lP hcb h0;obtain⟨m,hm⟩:∃m,m=2*vs.length:=⟨_,rfl⟩;have Lu:Hid (Cx.fk vs (gs.map (·.a))=(Cx.combine (Cx.bU vs (gs.map (·.a)))).map λl=>(l,Cx.dy (Cx.guards vs (gs.map (·.a))) l (Cx.guards vs (gs.map (·.a))).length)):=ae rfl;have agk:=pc vs (gs.map (·.a));obtain⟨cs,agl⟩:∃cs,cs=Cx.bU vs (gs.map (·.a)):=⟨_,rfl⟩;rw[<-agl]at HCB H0 Lu agk;have akO:=ae agl;have hlc:=agk.trans hm.symm;clear agl agk;have hmi:(2)*(vs.length)=(m:Int):=by omega
 have HM:=ae hm;have hm8:m<=800:=by omega
 have hmk:∀W,(Instr.makeSlice 24 (.int .i64 (m)) (.int .i64 (m))).run Tryz.prog W=.ok (.slice (some ⟨W.heap.size,0,none⟩) m m) (W.alloc (.cells (List.replicate m (Value.slice none 0 0)).toArray 32)):=λW=>by
  rw[<-UA];exact run_make_row' 24 32 (.slice none 0 0) 24 Tryz.underlying24 Tryz.infoSl rfl .i64 .i64 m (by omega) (by omega) W
 obtain⟨W1,ov⟩:∃W1,W1=(w.alloc (.cells (Array.replicate m (Value.slice none 0 0)) 32)).alloc (.cells #[.pointer (some ⟨tb,0,none⟩),.slice (some ⟨w.heap.size,0,none⟩) m m] 216):=⟨_,rfl⟩;have bH:Below w.heap.size w W1:=by rw[ov];exact mB _ _ _
 have gI:W1.heap.size=w.heap.size+2:=by rw[ov];simp
 have hrd:mS W1 w.heap.size (w.heap.size+1) tb w.heap.size (List.replicate m []) (List.replicate m (.slice none 0 0)):=by
  refine Uz ?_ ?_ (Nat.le_refl _)
  ·rw[ov];exact fV (by simp)
  ·rw[ov,List.toArray_replicate];exact kX (fV rfl)
 have HRR:=ae (Fa W1 w.heap.size (w.heap.size+1) tb w.heap.size base vt _ vm vs gs (by omega) ck (List.replicate m []) _ hrd (HT.out.below bH) (by omega) HG.out (by simp[hm]) (Cx.D8 m) hn (by omega));have b6:=ae bH;clear hm bH hrd;simp only [List.toArray_replicate]at hmk;go_enter Tryz.func77,Tryz.ntmps77;go_wp2_with fail;rw[<-ov];clear ov x1;refine HRR.out.mono ?_;rintro e w2 ⟨gsv,rfl,⟨sT,hG⟩,⟨sv,hR⟩,hK⟩;have TN:=ae hG;have Fd:=ae hR;have HK:=ae hK;have jT:=Kp.size hK;obtain⟨aG,cG,rfl,_,_⟩:=aj hG.own;have HQS:Hid (d8 vs (Cx.bh (gs.map (·.a)))=Cx.bS vs (gs.map (·.a))):=ae rfl;rw[HQS.out]at Fd;have Ga:=ae (b6.out.trans (hK.toBelow (by omega)));have Zs:(Cx.cj (Cx.bS vs (gs.map (·.a))) (List.replicate m [])).length=m:=by rw[Cx.iK];simp
 have y1:w2.cell? ⟨w.heap.size+1,1,none⟩=some (.slice (some ⟨w.heap.size,0,none⟩) m m):=by have:=Lib.cell_of_heap Fd.out.box 1;rw[Zs]at this;exact this
 have ayq:w.heap.size+1<w2.heap.size:=by omega
 have Dr:Hid (Below w2.heap.size w2 (w2.alloc (.cells (Array.replicate m (Value.slice none 0 0)) 32))):=ae (ag _ _);have rN:=ae (heap_alloc_new w2 (.cells (Array.replicate m (Value.slice none 0 0)) 32));have oS:(w2.alloc (.cells (Array.replicate m (Value.slice none 0 0)) 32)).heap.size=w2.heap.size+1:=by simp
 obtain⟨W3,GI⟩:∃W3,W3=w2.alloc (.cells (Array.replicate m (Value.slice none 0 0)) 32):=⟨_,rfl⟩;rw[<-GI]at Dr rN oS;clear hG hR hK HRR Zs;go_wp2_with fail;rw[<-GI];clear GI y1;obtain⟨qs,hqs⟩:∃qs,qs=Cx.bS vs (gs.map (·.a)):=⟨_,rfl⟩;rw[<-hqs]at Fd QQ;have HQE:=ae hqs;clear hqs
 go_loopg [29] m (λk v29 wr=>∃(i:Nat)(ch:List Value),i+k=m/\v29=.int .i64 i/\Kp (λk=>k=w2.heap.size) W3 wr/\ch.length=m/\wr.heap[w2.heap.size]?=some (.cells ch.toArray 32 (0,0))/\∀j (hj:j<ch.length),j<i->NI wr ch[j] (Cx.choice vs qs j))
 case atStart=>exact⟨0,List.replicate m (.slice none 0 0),by omega,rfl,Kp.refl _ _,by simp,by rw[List.toArray_replicate];exact rN.out,λj hj h=>by omega⟩
 case round=>
  obtain⟨i,ch,hi,rfl,hk,akP,hx,hni⟩:=hrel;have HKr:=ae hk;have HX:=ae hx;have HNI:=ae hni;have hsr:=Kp.size hk;clear hni
  by_cases hlt:i<m
  ·have mQ:(i:Int)<m:=by omega
   have dl:(0:Int)<=i:=by omega
   have Ex:0<vs.length:=by have:=HM.out;omega
   have QT:¬vs=[]:=by rintro rfl;simp at Ex
   obtain⟨jm,hjm⟩:∃jm,jm=i%vs.length:=⟨_,rfl⟩;have IW:Int.tmod (i:Int) (vs.length:Int)=(jm):=by rw[hjm,Int.tmod_eq_emod_of_nonneg dl];rfl
   have iP:jm<vs.length:=by rw[hjm];exact Nat.mod_lt _ Ex
   have ays:(jm:Int)<vs.length:=by omega
   have zg:(0:Int)<=jm:=by omega
   have hTr:=((HT.out.below Ga.out).below Dr.out).kept hk (λk hF e=>by omega);obtain⟨gv,cap,e,Lq,hcv⟩:=PD hTr iP
   cases e
   obtain⟨_,t1,_,_,_,_,_⟩:=hTr.cells;obtain⟨vW,Nd⟩:=agf iP;have D3:i<sv.length:=by rw[Fd.out.len,Cx.iK];simpa using hlt
   have lP:i<(Cx.cj qs (List.replicate m [])).length:=by rw[Cx.iK];simpa using hlt
   have hce:=by
    have:=Cx.PB qs m i hlt;rw[List.getElem?_eq_getElem lP]at this;simpa using this
   have hso:w2.ownsRow w.heap.size 3 1 sv[i] (Cx.fH qs i).length ((Cx.fH qs i).map (.int .i64)):=by
    have:=Fd.out.mem.own i _ (rm lP D3);rw[hce]at this;exact this
   have akQ:=hk.own (ah hso Dr.out) (λk e e2=>by have:=(hso.lt k e).2;omega);have s0:wr.cell? ⟨w.heap.size,i,none⟩=some sv[i]:=((hk.cell (by omega) (by omega)).trans (Dr.out.cell (by show w.heap.size<w2.heap.size;omega))).trans ((Lib.cell_of_heap Fd.out.row i).trans (by simp));obtain⟨ac,cc,gc,hcs,hcg,hcc⟩:=LL akQ;rw[hcs]at s0;have akR:(Cx.fH qs i).length<=100000:=by
    have h1:=Cx.pN qs (Cx.D8 m) _ (List.getElem_mem lP);rw[hce]at h1;have h2:2*qs.length<=100000:=by rw[HQE.out,<-HQS.out];exact hn
    omega
   have hCH:Cx.choice vs qs i=Cx.bz vs[jm].first.n vs[jm].last.n (Cx.fH qs i):=by unfold Cx.choice;rw[<-hjm,vW,Nd]
   have abb:=QQ.out i;have vS:i<ch.length:=by omega
   have p0:wr.cell? ⟨w2.heap.size,i,none⟩=some ch[i]:=(Lib.cell_of_heap hx i).trans (by simp);have HCC:=ae hcc;have HCG:=ae hcg;have abd:=ae hCH;have akT:w2.heap.size<wr.heap.size:=by omega
   generalize vs[jm]=va at*;have z0:wr.cell? ⟨gv,jm*12,none⟩=some (.int .i64 (ao va.name.k)):=hcv 0 (by omega);have z1:wr.cell? ⟨gv,jm*12+1,none⟩=some (.string va.name.s):=hcv 1 (by omega);have z2:wr.cell? ⟨gv,jm*12+2,none⟩=some (.int .i64 va.name.n):=hcv 2 (by omega);have z3:wr.cell? ⟨gv,jm*12+3,none⟩=some (.int .i64 va.name.line):=hcv 3 (by omega);have z4:wr.cell? ⟨gv,jm*12+4,none⟩=some (.int .i64 (ao va.first.k)):=hcv 4 (by omega);have z5:wr.cell? ⟨gv,jm*12+5,none⟩=some (.string va.first.s):=hcv 5 (by omega);have z6:wr.cell? ⟨gv,jm*12+6,none⟩=some (.int .i64 va.first.n):=hcv 6 (by omega);have z7:wr.cell? ⟨gv,jm*12+7,none⟩=some (.int .i64 va.first.line):=hcv 7 (by omega);have z8:wr.cell? ⟨gv,jm*12+8,none⟩=some (.int .i64 (ao va.last.k)):=hcv 8 (by omega);have z9:wr.cell? ⟨gv,jm*12+9,none⟩=some (.string va.last.s):=hcv 9 (by omega);have z10:wr.cell? ⟨gv,jm*12+10,none⟩=some (.int .i64 va.last.n):=hcv 10 (by omega);have z11:wr.cell? ⟨gv,jm*12+11,none⟩=some (.int .i64 va.last.line):=hcv 11 (by omega);clear hk hx hTr hcv hso akQ hcs hce hcc hcg hCH vW Nd hjm;generalize Cx.fH qs i=cl at*
   have CK:Hid (∀Y,Below wr.heap.size wr Y->Calls Tryz.prog 114 #[.int .i64 va.first.n,.int .i64 va.last.n,.slice ac cl.length cc] Y λe w'=>∃g' cap',e=.returned (.slice (some ⟨g',0,none⟩) (Cx.bz va.first.n va.last.n cl).length cap')/\w'.ownsRow Y.heap.size 3 1 (.slice (some ⟨g',0,none⟩) (Cx.bz va.first.n va.last.n cl).length cap') (Cx.bz va.first.n va.last.n cl).length ((Cx.bz va.first.n va.last.n cl).map (.int .i64))/\Below Y.heap.size Y w'):=ae (λY hY=>
    zB Y va.first.n va.last.n ac gc cc cl akR (λh=>⟨(HCG.out h).1,Nat.lt_of_lt_of_le (HCG.out h).2 hY.size⟩) (λj hj=>(hY.cell ((HCG.out (by omega)).2)).trans (HCC.out j hj)))
   have HXv:Hid (Below wr.heap.size wr (wr.alloc (.cells #[.int .i64 (ao va.name.k),.string va.name.s,.int .i64 va.name.n,.int .i64 va.name.line,.int .i64 (ao va.first.k),.string va.first.s,.int .i64 va.first.n,.int .i64 va.first.line,.int .i64 (ao va.last.k),.string va.last.s,.int .i64 va.last.n,.int .i64 va.last.line] 166))):=ae (ag _ _);go_upto_region 7 with(fail)
   go_region_held3 (λY=>Y.cell? ⟨tb,1,none⟩=some (.slice (some ⟨gv,0,none⟩) vs.length cv)/\Y.cell? ⟨gv,jm*12,none⟩=some (.int .i64 (ao va.name.k))/\Y.cell? ⟨gv,jm*12+1,none⟩=some (.string va.name.s)/\Y.cell? ⟨gv,jm*12+2,none⟩=some (.int .i64 va.name.n)/\Y.cell? ⟨gv,jm*12+3,none⟩=some (.int .i64 va.name.line)/\Y.cell? ⟨gv,jm*12+4,none⟩=some (.int .i64 (ao va.first.k))/\Y.cell? ⟨gv,jm*12+5,none⟩=some (.string va.first.s)/\Y.cell? ⟨gv,jm*12+6,none⟩=some (.int .i64 va.first.n)/\Y.cell? ⟨gv,jm*12+7,none⟩=some (.int .i64 va.first.line)/\Y.cell? ⟨gv,jm*12+8,none⟩=some (.int .i64 (ao va.last.k))/\Y.cell? ⟨gv,jm*12+9,none⟩=some (.string va.last.s)/\Y.cell? ⟨gv,jm*12+10,none⟩=some (.int .i64 va.last.n)/\Y.cell? ⟨gv,jm*12+11,none⟩=some (.int .i64 va.last.line)) (first|go_keep|(with_reducible exact⟨t1,z0,z1,z2,z3,z4,z5,z6,z7,z8,z9,z10,z11⟩)) (fail)
   clear t1 z0 z1 z2 z3 z4 z5 z6 z7 z8 z9 z10 z11;go_wp2_with fail;refine(CK.out _ ?_).mono ?_
   ·exact(HXv.out).drew
   rintro e w5 ⟨g5,c5,rfl,ho5,oy⟩;have wj:=(HXv.out.drew).trans (oy.mono HXv.out.size);have vT:=ae wj;have Zv:=wj.size;have hx5:=(wj.block w2.heap.size akT).trans HX.out;have p5:=(wj.cell akT).trans p0;have f5:=Lib.frozen_of_heap hx5 i;have HN5:Hid (NI w5 (.slice (some ⟨g5,0,none⟩) (Cx.bz va.first.n va.last.n cl).length c5) (Cx.choice vs qs i)):=ae (by rw[abd.out];exact aa8 ho5 rfl);rw[abd.out]at HN5;have hlv:(Cx.bz va.first.n va.last.n cl).length<=1000:=by rw[<-abd.out];exact abb
   obtain⟨nl,qf⟩:∃nl,nl=(Cx.bz va.first.n va.last.n cl).length:=⟨_,rfl⟩;rw[<-qf]at HN5 hlv|-;clear qf;have Gt:Kp (λk=>k=w2.heap.size) w5 (w5.setCell ⟨w2.heap.size,i,none⟩ (.slice (some ⟨g5,0,none⟩) nl c5)):=(Kp.refl (λk=>k=w2.heap.size) w5).setCell (.inl rfl) _;have hnt:∀g cur,w5.heap[g]?=some (.cells cur 3 (0,0))->¬g=w2.heap.size:=λg cur hg e=>by
    rw[e,hx5]at hg;simp at hg
   have HK9:=ae ((HKr.out.below wj).trans Gt (λ_ e=>.inl e));have HX9:Hid ((w5.setCell ⟨w2.heap.size,i,none⟩ (.slice (some ⟨g5,0,none⟩) nl c5)).heap[w2.heap.size]?=some (.cells (ch.set i (.slice (some ⟨g5,0,none⟩) nl c5)).toArray 32 (0,0))):=ae (by rw[aE hx5];simp)
   have HN9:Hid (∀j (hj:j<(ch.set i (.slice (some ⟨g5,0,none⟩) nl c5)).length),j<i+1->NI (w5.setCell ⟨w2.heap.size,i,none⟩ (.slice (some ⟨g5,0,none⟩) nl c5)) (ch.set i (.slice (some ⟨g5,0,none⟩) nl c5))[j] (Cx.choice vs qs j)):=ae (λj hj Kv=>by
    by_cases hje:i=j
    ·subst hje
     rw[List.getElem_set_self,abd.out];exact HN5.out.kept Gt hnt
    ·rw[List.getElem_set_ne hje]
     exact((HNI.out j (by omega) (by omega)).below wj).kept Gt hnt)
   clear oy wj ho5 hx5 Gt hnt p0;go_wp2_with fail
   go_roundg (m-(i+1))
   case measure=>omega
   case rel=>exact⟨i+1,_,by omega,by go_num,HK9.out,by grind,HX9.out,HN9.out⟩
  ·obtain rfl:m=i:=by omega
   have hca:=zG akO.out HQE.out QQ.out;have RO:=λj hj px=>PE akO.out HQE.out (HNI.out j hj (by omega)).nr px
   have hcc:∀j (hj:j<ch.length),wr.cell? ⟨w2.heap.size,j,none⟩=some ch[j]:=λj hj=>(Lib.cell_of_heap hx j).trans (by simp)
   have CB:=ae (IM wr w2.heap.size m cs ch (akP.trans hlc.symm) (λ_=>by omega) hcc RO (by omega) hca HCB.out);rw[hlc]at CB;have HBr:=ae ((Ga.out.trans (Dr.out.mono (by omega))).trans (hk.toBelow (λk e=>by omega) (by omega)));have hGr:=(TN.out.below Dr.out)
   have Xz:=ae (λj hj hd=>by
    obtain⟨A,h1,_⟩:=hGr.gu j hj hd;have h2:=h1.restrict;have jX:∀{c:Nat}{x:Value},W3.heap[c]?=some (.cells #[x] 272 (0,0))->¬c=w2.heap.size:=λ{c x} hc e=>by
     rw[e,rN.out]at hc;simp at hc
    exact(jJ.aa7 h2 hk jX).J7)
   have HGO:=ae (hk.own hGr.own (λk e e2=>by
    have:=(TN.out.own.lt k e).2;omega))
   clear hGr hk hx hca RO hcc;go_wp2_with fail;refine CB.out.mono ?_;rintro e w6 ⟨lsv,us,rfl,hLR,qQ⟩;have hls:=Cx.kB cs cs.length (Nat.le_refl _);have R0:=HCB.out cs.length;rw[List.take_length]at hls R0;have HLS:=ae hls;clear hls;obtain⟨ls,akW⟩:∃ls,ls=Cx.combine cs:=⟨_,rfl⟩;rw[<-akW]at hLR R0 HLS H0 Lu;clear akW;obtain⟨aL,cL,rfl,_,_⟩:=aj hLR.own;have HLR:=ae hLR;have HB6:=ae qQ;have hs6:=qQ.size;have hul:=hLR.len;obtain⟨rs,hrs⟩:∃rs,rs=Cx.bh (gs.map (·.a)):=⟨_,rfl⟩;rw[<-hrs]at Xz HGO F3|-;have HRS:=ae hrs;have abe:sT.length=rs.length:=by rw[hrs];exact TN.out.len
   obtain⟨ps,Pq⟩:∃ps,ps=Cx.guards vs (gs.map (·.a)):=⟨_,rfl⟩;have tS:ps.length=rs.length:=by rw[Pq,hrs];simp[Cx.guards]
   have Nw:∀j (hj:j<ps.length) (hr:j<rs.length),ps[j]=Cx.eval vs rs[j].g:=λj hj hr=>by subst Pq;subst hrs;simp[Cx.guards]
   rw[<-Pq]at Lu;have HPE:=ae Nw
   have CT:Hid (∀(Y:World)(sl:Value)(l:List Int),Below wr.heap.size wr Y->NS (2*vs.length) Y sl l->Calls Tryz.prog 116 #[.slice aG rs.length cG,sl] Y λe w'=>e=.returned (.int .u32 (Cx.dy ps l ps.length))/\Below Y.heap.size Y w'):=ae (λY sl l hY hs=>by
    have hO:=ah HGO.out hY;have hA:∀j (hj:j<sT.length) (hp:j<ps.length),Hm (2*vs.length) Y sT[j] ps[j]:=λj hj hp=>by
     rw[HPE.out j hp (by omega)];exact(Xz.out j hj (by omega)).below hY
    by_cases hz:0<rs.length
    ·obtain⟨gg,cgg,e,_,tU,_,_,hc⟩:=aR hO hz
     cases e
     have:=sF (2*vs.length) Y (some ⟨gg,0,none⟩) gg cG sT ps sl l (abe.trans tS.symm) (by omega) (λ_=>⟨rfl,tU⟩) (λj hj=>(hc j (by omega)).trans (List.getElem?_eq_getElem hj)) hA hs;rw[abe]at this;exact this
    ·have:=sF (2*vs.length) Y aG 0 cG sT ps sl l (abe.trans tS.symm) (by omega) (λh=>by omega) (λj hj=>by omega) hA hs
     rw[abe]at this
     exact this)
   obtain⟨R,hR⟩:∃R:List Int->Int,R=λl=>Cx.dy ps l ps.length:=⟨_,rfl⟩
   have Zu:=ae hR;obtain⟨j0,zg,Ku,lh,mh⟩:=info_parts Tryz.infoScene;have nP:=HM.out.symm;clear hLR qQ CB hrs Pq Nw hR;go_wp2_with fail
   go_loopg [9,62] (ls.length) (λk v9 v62 wx=>∃i:Nat,i+k=ls.length/\v62=.int .i64 i/\Below w6.heap.size w6 wx/\wx.ownsRow w6.heap.size 223 2 v9 i (((us.zip (ls.map R)).take i).flatMap scC))
   case atStart=>exact⟨0,by omega,rfl,Below.refl _ _,World.ownsRow_nil _ _ _ _⟩
   case round=>
    obtain⟨i,DR,rfl,jX,hox⟩:=hrel;have fM:=ae jX;have HOX:=ae hox;have hsx:=jX.size;obtain⟨aX,cX,rfl,_,_⟩:=aj hox
    by_cases zr:i<ls.length
    ·have mQ:(i:Int)<ls.length:=by omega
     have dl:(0:Int)<=i:=by omega
     have hiu:i<us.length:=by omega
     obtain⟨gL,af4,e,_,hgL,_,_,Um⟩:=aR HLR.out.own (by omega)
     cases e
     have x0:=(jX.cell hgL).trans ((Um i (by omega)).trans (List.getElem?_eq_getElem hiu));have NA:=((HLR.out.ni i hiu zr).nr).below jX;have Kw:=HLS.out ls[i] (List.getElem_mem zr);have hns:=by have:=NA.ns;rw[Kw,hlc,<-nP]at this;exact this
     obtain⟨gl,cl,el,J4,J5,Zo⟩:=NA;have KA:=ae (CT.out _ _ _ ((HB6.out).trans (jX.mono hs6)) hns);have HSX:=ae (aa9 (rs:=ls.map R) hiu (by simpa using zr));have hRl:(ls.map R)[i]'(by simpa using zr)=R ls[i]:=by simp
     rw[hRl,el]at HSX;rw[el]at x0 KA;have Oi:Hid (Cx.dy ps ls[i] ps.length=R ls[i]):=ae (by rw[Zu.out]);rw[Oi.out]at KA;clear jX hox hns el Um hRl Kw J4 J5 Zo;generalize hlE:ls[i].length=ll at*;generalize R ls[i]=rv at*;clear hlE Oi;go_wp2_with fail;refine KA.out.mono ?_;rintro e w7 ⟨rfl,hb7⟩;have KF:=ae hb7;have hs7:=hb7.size;clear hb7 x0 KA;go_wp2_with (at_builtin;refine wpList_append_own_at _ rfl _ _ 157 rfl w6.heap.size 223 j0 _ 2 32 Tryz.underlying157 zg Ku lh mh rfl (by decide) _ i _ rfl (ah (ah HOX.out KF.out) (ag _ _)) ⟨w7.heap.size,0,none⟩ 1 1 [.slice (some ⟨gl,0,none⟩) ll cl,.int .u32 rv] rfl rfl (aF _ _ rfl [.slice (some ⟨gl,0,none⟩) ll cl,.int .u32 rv] _) (uR rfl rfl) ?e3 ?e4 ?e5 ?_)
     case e3=>omega
     case e4=>omega
     case e5=>first|omega|(simp;omega)
     intro v9 w9 aJ ax _ bu;have lq:=ae aJ;rw[<-HSX.out]at lq
     have kh:=ae (by
      have hG:=eF aJ ax (by omega)
      exact(fM.out.trans (KF.out.mono hsx)).trans (hG.kept.toBelow (λk e=>((ah HOX.out KF.out).lt k e).1) (by omega)))
     clear aJ ax bu;go_wp2_with fail
     go_roundg (ls.length-(i+1))
     case measure=>omega
     case rel=>exact⟨i+1,by omega,by go_num,kh.out,lq.out⟩
    ·obtain rfl:ls.length=i:=by omega
     have HBF:=ae ((HBr.out.trans (HB6.out.mono (by omega))).trans (fM.out.mono (by omega)));have hzl:(us.zip (ls.map R)).length=ls.length:=by rw[List.length_zip];simp;omega
     have HSF:=ae (agi hul (by
      have:=HOX.out;rw[<-hzl,List.take_length,hzl]at this
      exact this) (λj hj px=>((HLR.out.ni j hj px).nr).below jX) H0.out)
     clear jX hox;go_wp2_with fail;go_ret;refine⟨_,rfl,?_,HBF.out⟩;have:=HSF.out;rw[Zu.out,<-Lu.out]at this;exact this
