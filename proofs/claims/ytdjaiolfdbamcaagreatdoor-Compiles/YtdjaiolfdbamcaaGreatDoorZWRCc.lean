/- The walk of helmref's samples. -/
import Derived.Test.YtdjaiolfdbamcaaGreatDoorZWRCa
import Derived.Laws.AppendOwnNone
set_option maxRecDepth 20000
set_option maxHeartbeats 4000000
namespace Go.Proofs.YtdjaiolfdbamcaaGreatDoor
variable {W W':World}{base e i j k:Nat}{s:Value}{ls:List (List Int)}{vals:List Value}{ms:List Hx.MA}
section
open Go.RowKit
structure LO(W:World)(base:Nat)(s:Value)(ls:List (List Int))(vals:List Value):Prop where
 len:vals.length=ls.length
 own:W.ownsRow base 32 1 s ls.length vals
 ni:∀i (hi:i<vals.length) (hj:i<ls.length),W.ownsRow base 3 1 vals[i] ls[i].length (ls[i].map (.int .i64))
theorem LO.below(h:LO W base s ls vals)(hb:Below W.heap.size W W'):LO W' base s ls vals:=⟨h.len,ah h.own hb,λi hi hj=>ah (h.ni i hi hj) hb⟩
theorem LO.mono{b':Nat}(h:LO W base s ls vals)(hb:b'<=base):LO W b' s ls vals:=⟨h.len,dF h.own hb,λi hi hj=>dF (h.ni i hi hj) hb⟩
theorem LO.nil(W:World)(base:Nat):LO W base (.slice none 0 0) [] []:=⟨rfl,World.ownsRow_nil _ _ _ _,λi hi=>by simp⟩
theorem LO.snoc{m:Nat}{s' x:Value}{l:List Int}(h:LO W base s ls vals)(hx:W.ownsRow base 3 1 x l.length (l.map (.int .i64)))(hg:W.grownBy W' s.ownBlock)(ho:W'.ownsRow base 32 1 s' m (vals++[x]))(hm:m=ls.length+1):LO W' base s' (ls++[l]) (vals++[x]):=by
 have hk:Kp (λk=>s.ownBlock=some k) W W':=⟨hg.os,hg.tape,hg.output,hg.size,λk hk hn=>hg.block k hk (λe=>hn e.symm)⟩;refine⟨by simp[h.len],by grind,λi hi hj=>?_⟩
 by_cases hl:i<vals.length
 ·have kq:i<ls.length:=by rw[<-h.len];exact hl
  rw[List.getElem_append_left hl];simp only [List.getElem_append_left kq];exact hk.own (h.ni i hl kq) (fI (h.ni i hl kq) h.own (by decide))
 ·have he:i=vals.length:=by simp at hi;omega
  subst he;have e1:(vals++[x])[vals.length]=x:=by simp
  have e2:(ls++[l])[vals.length]'hj=l:=by simp[h.len]
  rw[e1];simp only [e2];exact hk.own hx (fI hx h.own (by decide))
theorem JA(w:World)(base bx:Nat)(vt:Value)(gt:Nat)(ts:List Hx.Tok)(s:Hx.St)(F:Nat->Prop)(vs:List az)(L:List AQ)(h:db w base bx vt gt ts s F)(hm:br w gt ts)(hs:s.atoms=L.map AQ.gy)(hvs:s.vars=vs.map az.p)(hl:L.length<=8)
  (hN:∀j (hj:j<vs.length),(vs.take j).any (bK vs[j].name.s)=false) (hbd:∀j (hj:j<vs.length),-1000<=vs[j].first.n/\vs[j].last.n<=1000) (ZU:vs.length<=3) (was:Bool)
  (cs:List (List Int)) (hcs:cs=(List.range vs.length).map λv=>Cx.EM vs (L.map (fU vs)) v was) (lP:∀c∈cs,c.length<=1000) (hb:∀i,(Cx.combine (cs.take i)).length<=100000000):
  Calls Tryz.prog 95 #[.pointer (some ⟨bx,0,none⟩),.bool was] w λe w'=>∃u,e=.returned u/\(∃vals,LO w' w.heap.size u (Cx.combine cs) vals)/\Below w.heap.size w w':=by
 obtain⟨av,cv,c1,_⟩:=h.var;have D3:s.vars.length=vs.length:=by rw[hvs,List.length_map]
 have RO:cs.length=vs.length:=by rw[hcs];simp
 rw[D3]at c1;have l1:bx<w.heap.size:=World.block_lt_of_cell? w ⟨bx,1,none⟩ c1
 have IF:Hid (∀W (hW:Below w.heap.size w W) i (hi:i<cs.length),Calls Tryz.prog 145 #[.pointer (some ⟨bx,0,none⟩),.int .i64 i,.bool was] W λe w'=>∃u,e=.returned u/\w'.ownsRow W.heap.size 3 1 u cs[i].length (cs[i].map (.int .i64))/\Below W.heap.size W w'):=ae (λW hW i hi=>by
  have ip:br W gt ts:=λj hj=>by
   obtain⟨t0,t1,t2,t3⟩:=hm j hj;have hlt:gt<w.heap.size:=World.block_lt_of_cell? w ⟨gt,j*4,none⟩ t0;exact⟨(hW.cell hlt).trans t0,(hW.cell hlt).trans t1,(hW.cell hlt).trans t2,(hW.cell hlt).trans t3⟩
  have:=Mw W base bx vt gt ts s F vs L (h.below hW) ip hs hvs hl hN hbd i (by omega) was;have e:cs[i]=Cx.EM vs (L.map (fU vs)) i was:=by simp[hcs]
  rw[e]
  exact this)
 have HB:=ae hb;have HL:=ae lP;obtain⟨i0,dl,eu,dA,eg⟩:=info_parts Tryz.infoIntT;obtain⟨j0,zg,Ku,lh,mh⟩:=info_parts Tryz.infoSl;rw[<-RO]at c1;have lA:cs.length<=3:=by omega
 clear h hm hs hvs hl hN hbd D3 hcs RO hb lP ZU;go_enter Tryz.func95,Tryz.ntmps95;go_wp2_with fail
 go_loopg [5,6] (cs.length) (λk v5 v6 wr=>∃(i:Nat)(us:List Value),i+k=cs.length/\v6=.int .i64 i/\Below w.heap.size w wr/\LO wr w.heap.size v5 (Cx.combine (cs.take i)) us)
 case atStart=>
  refine⟨0,[.slice none 0 0],by omega,rfl,ag _ _,rfl,?_,λi hi hj=>?_⟩
  ·exact World.ownsRow_lit (size:=1) (base:=w.heap.size) (e:=32) w #[.slice none 0 0] 1 (Nat.le_refl _) (by decide) rfl
  ·have he:i=0:=by simp at hi;omega
   subst he;exact World.ownsRow_nil _ _ _ _
 case round=>
  obtain⟨i,us,hi,rfl,lZ,hR⟩:=hrel;obtain⟨wo,rfl⟩:∃wo,wo=wr:=⟨wr,rfl⟩;have zE:=ae lZ;have HR:=ae hR;have hsz:=lZ.size;have y1:=(lZ.cell (p:=⟨bx,1,none⟩) l1).trans c1;obtain⟨aL,cL,rfl,_,_⟩:=aj hR.own;clear hR lZ
  by_cases hlt:i<cs.length
  ·have mQ:(i:Int)<cs.length:=by omega
   have Oe:=ae (IF.out wo zE.out i hlt);have lP:=HL.out cs[i] (List.getElem_mem hlt)
   have HS:Hid (Cx.combine (cs.take (i+1))=Cx.longer (Cx.combine (cs.take i)) cs[i]):=ae (by
    rw[List.take_add_one,List.getElem?_eq_getElem hlt];exact Cx.fG _ _)
   have TX:=HB.out i;have af3:=HB.out (i+1);rw[HS.out,Cx.gK]at af3;have HLL:=ae (Cx.kB cs i (by omega));generalize cs[i]=c at*;generalize Cx.combine (cs.take i)=ls at*;go_wp2_with fail;refine Oe.out.mono ?_;rintro e w1 ⟨u,rfl,jQ,bH⟩;obtain⟨aC,cC,rfl,_,_⟩:=aj jQ;have nZ:=ae jQ;have zk:=ae (HR.out.below bH);have b6:Hid (Below w.heap.size w w1):=ae (zE.out.trans (bH.mono hsz));have gI:=b6.out.size;have azI:=bH.size;clear jQ bH Oe HR zE y1;go_wp2_with fail
   go_loopg [8,9] (ls.length) (λk v8 v9 wm=>∃(j:Nat)(ws:List Value),j+k=ls.length/\v9=.int .i64 j/\Below w1.heap.size w1 wm/\LO wm w1.heap.size v8 (Cx.longer (ls.take j) c) ws)
   case atStart=>exact⟨0,[],by omega,rfl,Below.refl _ _,LO.nil _ _⟩
   case round=>
    obtain⟨j,ws,hj,rfl,vy,hM⟩:=hrel;obtain⟨wm,rfl⟩:∃wm,wm=wr:=⟨wr,rfl⟩;have rH:=ae vy;have HM:=ae hM;have hsm:=vy.size;obtain⟨aM,cM,rfl,_,_⟩:=aj hM.own;clear hM
    by_cases mM:j<ls.length
    ·have Q9:(j:Int)<ls.length:=by omega
     have huj:j<us.length:=by rw[zk.out.len];exact mM
     obtain⟨gL,af4,hL,_,hgL,_,_,Um⟩:=aR zk.out.own (by omega)
     cases hL
     have x0:=(Um j (by omega)).trans (List.getElem?_eq_getElem huj);have hne:=zk.out.ni j huj mM;have Kw:ls[j].length<=1000:=by have:=HLL.out ls[j] (List.getElem_mem mM);omega
     have HSN:=ae (Cx.vx ls j c mM);have hM0:(Cx.longer (ls.take j) c).length+c.length<=100000000:=by
      rw[Cx.gK,List.length_take];have h1:(j+1)*c.length<=ls.length*c.length:=Nat.mul_le_mul_right _ mM;rw[Nat.succ_mul]at h1;rw[show min j ls.length=j by omega];omega
     generalize ls[j]=l at*;generalize us[j]=xv at*;obtain⟨al,cl,rfl,_,_⟩:=aj hne;have HNE:=ae hne;have X0:=ae x0;obtain⟨bs,R4⟩:∃bs,bs=Cx.longer (ls.take j) c:=⟨_,rfl⟩;rw[<-R4]at HM hM0 HSN|-;clear R4 Um x0 hne;go_wp2_with fail
     go_loopg [8,10] (c.length) (λk v8 v10 wi=>∃(q:Nat)(ws:List Value),q+k=c.length/\v10=.int .i64 q/\Below w1.heap.size w1 wi/\LO wi w1.heap.size v8 (bs++(c.take q).map (λn=>l++[n])) ws)
     case atStart=>exact⟨0,ws,by omega,rfl,rH.out,by simpa using HM.out⟩
     case round=>
      obtain⟨q,vs,hq,rfl,mX,hI⟩:=hrel;obtain⟨wi,rfl⟩:∃wi,wi=wr:=⟨wr,rfl⟩;have KC:=ae mX;have HI:=ae hI;have Ua:=mX.size;obtain⟨aI,cI,rfl,_,_⟩:=aj hI.own;clear hI
      by_cases Un:q<c.length
      ·have hlq:(q:Int)<c.length:=by omega
       obtain⟨gC,azJ,hC,_,hgC,_,_,hCc⟩:=aR nZ.out (by omega)
       cases hC
       have c0:=(hCc q (by omega)).trans (show(c.map (Value.int .i64))[q]?=some (.int .i64 c[q]) by simp[Un]);have z0:=(mX.cell (p:=⟨gC,q,none⟩) hgC).trans c0;have y0:=(mX.cell (p:=⟨gL,j,none⟩) hgL).trans X0.out;have HQ:=ae (Cx.IL l c q Un);have HNI:=ae (ah HNE.out mX);have hlen:(bs++(c.take q).map (λn=>l++[n])).length=bs.length+q:=by simp;omega
       generalize c[q]=x at*;obtain⟨es,hes⟩:∃es,es=bs++(c.take q).map (λn=>l++[n]):=⟨_,rfl⟩;rw[<-hes]at HI hlen|-;have HES:=ae hes;clear hes mX hCc c0;rw[hlen];go_upto_region 14 with(fail)
       go_cut [11]from 38 to 43 (λv11 wx=>wx.ownsRow wi.heap.size 3 1 v11 l.length (l.map (.int .i64))/\Below wi.heap.size wi wx)
       case first=>
        rcases HNI.out.2 with⟨e,h0⟩|⟨gl,cap,cur,e,yh,tU,hcp,_,_,Dk⟩
        ·simp only [Value.slice.injEq]at e
         obtain⟨rfl,_,rfl⟩:=e;obtain rfl:l=[]:=List.length_eq_zero_iff.1 h0;go_wp2_with (at_builtin;refine wpList_append_own_none rfl _ _ 32 rfl wi.heap.size 3 i0 1 Tryz.underlying32 dl (.slice none 0 0) 0 [] rfl (World.ownsRow_nil _ _ _ _) rfl ?_);go_wp2_with fail;go_meet
         case rel=>exact⟨World.ownsRow_nil _ _ _ _,Below.refl _ _⟩
        ·cases e
         go_wp2_with (at_builtin;refine wpList_append_own_at _ rfl _ _ 32 rfl wi.heap.size 3 i0 _ 1 8 Tryz.underlying32 dl eu dA eg rfl (by decide) (.slice none 0 0) 0 [] rfl (World.ownsRow_nil _ _ _ _) ⟨gl,0,none⟩ l.length _ (l.map (.int .i64)) rfl (by simp) ?n1 ?n2 ?n3 ?n4 ?n5 ?_)
         case n1=>
          intro k u hu;have hk:=(List.getElem?_eq_some_iff.1 hu).1;have e:((⟨gl,0,none⟩:Addr).add k)=⟨gl,k,none⟩:=by simp[Addr.add];omega
          rw[e,Lib.cell_of_heap tU k];have h3:(cur.toList.take (l.length*1))[k]?=(l.map (Value.int .i64))[k]?:=by rw[Dk]
          rw[List.getElem?_take_of_lt (by simpa using hk),hu]at h3;simpa using h3
         case n2=>intro u hu;obtain⟨_,_,rfl⟩:=List.mem_map.1 hu;rfl
         case n3=>unfold maxLen;omega
         case n4=>omega
         case n5=>omega
         intro v2 w2 lC rF _ _;have lu:Hid (w2.ownsRow wi.heap.size 3 1 v2 l.length (l.map (.int .i64))):=ae (by simpa using lC);have dH:Hid (Below wi.heap.size wi w2):=ae ⟨rF.os,rF.tape,rF.output,rF.size,λk hk=>rF.block k hk (by simp[Value.ownBlock])⟩;clear lC rF;go_wp2_with fail;go_meet
         case rel=>exact⟨lu.out,dH.out⟩
       case rest=>
        obtain⟨j9,aT⟩:=hcut;obtain⟨a2,c2,rfl,_,_⟩:=aj j9;have lu:=ae j9;have z1:=(aT.cell (p:=⟨gC,q,none⟩) (show gC<wi.heap.size by omega)).trans z0;have dH:=ae aT;have jT:=aT.size;clear j9 aT z0 y0;go_wp2_with (at_builtin;refine wpList_append_own_at _ rfl _ _ 32 rfl wi.heap.size 3 i0 _ 1 8 Tryz.underlying32 dl eu dA eg rfl (by decide) _ l.length _ rfl (ah lu.out (ag _ _)) ⟨_,0,none⟩ 1 1 [.int .i64 x] rfl rfl (aF _ _ (by first|rfl|simp) [_] _) (eI rfl) ?c3 ?c4 ?c5 ?_)
        case c3=>unfold maxLen;omega
        case c4=>omega
        case c5=>simp;omega
        intro v3 w3 fZ O9 _ _;obtain⟨a3,c3,rfl,_,_⟩:=aj fZ;have eC:Below wi.heap.size wi w3:=bQ (dH.out.trans ((ag _ _).mono jT)) (ah lu.out (ag _ _)) O9 (by simp;omega);have oS:=eC.size;have mH:Hid (w3.ownsRow w1.heap.size 3 1 (.slice a3 (l.length+1) c3) (l++[x]).length ((l++[x]).map (.int .i64))):=ae (by rw[List.map_append,List.length_append];exact dF fZ Ua);have Ka:=ae (HI.out.below eC);rw[hlen]at Ka;have ji:=ae (KC.out.trans (eC.mono Ua));have HIO:Hid (w3.ownsRow w1.heap.size 32 1 (.slice aI (bs.length+q) cI) (bs.length+q) vs):=ae (by have:=Ka.out.own;rw[hlen]at this;exact this);clear fZ O9 eC lu dH z1;go_wp2_with (at_builtin;refine wpList_append_own_at _ rfl _ _ 24 rfl w1.heap.size 32 j0 _ 1 24 Tryz.underlying24 zg Ku lh mh rfl (by decide) _ (bs.length+q) _ rfl (ah HIO.out (ag _ _)) ⟨_,0,none⟩ 1 1 [.slice a3 (l.length+1) c3] rfl rfl (aF _ _ (by first|rfl|simp) [_] _) (eI rfl) ?e3 ?e4 ?e5 ?_)
        case e3=>unfold maxLen;omega
        case e4=>omega
        case e5=>simp;omega
        intro v9 w9 aJ ax _ _
        have HL9:Hid (LO w9 w1.heap.size v9 (bs++(c.take (q+1)).map (λn=>l++[n])) (vs++[.slice a3 (l.length+1) c3])):=ae (by
         rw[HQ.out,<-List.append_assoc,<-HES.out]
         exact(Ka.out.below (ag _ _)).snoc (ah mH.out (ag _ _)) ax aJ (by rw[hlen]))
        have kh:Hid (Below w1.heap.size w1 w9):=ae (bQ (ji.out.trans ((ag _ _).mono ji.out.size)) (ah HIO.out (ag _ _)) ax (by simp;omega));clear aJ ax;go_wp2_with fail
        go_roundg (c.length-(q+1))
        case measure=>omega
        case rel=>exact⟨q+1,_,by omega,by go_num,kh.out,HL9.out⟩
      ·obtain rfl:q=c.length:=by omega
       have hlq:¬(c.length:Int)<c.length:=by omega
       have he:bs++(c.take c.length).map (λn=>l++[n])=Cx.longer (ls.take (j+1)) c:=by rw[List.take_length,HSN.out]
       rw[he]at HI|-;go_wp2_with fail
       go_roundg (ls.length-(j+1))
       case measure=>omega
       case rel=>exact⟨j+1,vs,by omega,by go_num,KC.out,HI.out⟩
    ·obtain rfl:j=ls.length:=by omega
     have Q9:¬(ls.length:Int)<ls.length:=by omega
     have he:Cx.longer (ls.take ls.length) c=Cx.combine (cs.take (i+1)):=by rw[List.take_length,HS.out]
     rw[he]at HM|-;have kh:Hid (Below w.heap.size w wm):=ae (b6.out.trans (vy.mono gI));go_wp2_with fail
     go_roundg (cs.length-(i+1))
     case measure=>omega
     case rel=>exact⟨i+1,ws,by omega,by go_num,kh.out,HM.out.mono gI⟩
  ·obtain rfl:i=cs.length:=by omega
   have mQ:¬(cs.length:Int)<cs.length:=by omega
   rw[List.take_length]at HR|-;go_wp2_with fail;go_ret;exact⟨_,rfl,⟨us,HR.out⟩,zE.out⟩
end
section
namespace Cx
theorem ag0(vs:List az)(K:List PK)(v:Nat)(was:Bool)(hK:K.length<=8):(EM vs K v was).length<=17:=by
 have hp:(EM vs K v was).Pairwise (· <·):=by
  unfold EM;refine List.Pairwise.filter _ (List.pairwise_map.2 ?_);exact List.pairwise_lt_range.imp (λh=>by omega)
 have hs:∀x∈EM vs K v was,x=fj vs v\/(x∈K.flatMap (λk=>[k.2.2,k.2.2+1])/\fj vs v<x):=by
  intro x hx;obtain⟨⟨h1,_⟩,h2⟩:=su.1 hx;unfold EL at h2;rw[Bool.or_eq_true,beq_iff_eq,List.any_eq_true]at h2
  by_cases e:x=fj vs v
  ·omega
  ·grind
 have hl:(K.flatMap (λk=>[k.2.2,k.2.2+1])).length<=16:=by
  have:∀l:List PK,(l.flatMap (λk=>[k.2.2,k.2.2+1])).length=2*l.length:=by
   intro l
   induction l with
   |nil=>rfl
   |cons a t ih=>grind
  rw[this];omega
 have hn:(EM vs K v was).Nodup:=hp.imp (λh=>by omega)
 have:=hn.length_le_of_subset (l₂:=fj vs v::K.flatMap (λk=>[k.2.2,k.2.2+1])) (λx hx=>by
  grind)
 grind
theorem vH(n:Nat):∀l:List Nat,j8 (l++[n])=if j8 l=7 then j8 [n]else j8 l
 |[]=>by simp[j8]
 |m::l=>by
  simp only [List.cons_append,j8]
  by_cases h0:m=0
  ·simp only [h0,if_true];exact vH n l
  omega
end Cx
section
variable (vs:List az) (xs:List Int) (s:Hx.St) (ms:List Hx.MA) (leaf:Int)
theorem My(l:List Hx.bD):∀p,(l.foldl (jd vs xs s ms leaf) p).1=p.1+(l.filter (λr=>Cx.eval vs r.g xs)).length:=by
 induction l with
 |nil=>intro p;simp
 |cons r l ih=>
  intro p;rw[List.foldl_cons,ih];unfold jd
  cases h:Cx.eval vs r.g xs with
  |false=>simp[h]
  |true=>simp[h];omega
theorem ab2(f:Nat)(k:Int)(h:k<0):jA vs xs s ms leaf f k=(leaf,7):=by
 cases f<;>simp_all[jA]
theorem JB(zK:∀i (hi:i<ms.length),ms[i].outer<i):∀(k g f:Nat),k<ms.length->k<=g->k<f->((jA vs xs s ms leaf f k).2:Int)=Cx.j8 ((Cx.nH ms g k).map λj=>Cx.nk vs ms j xs):=by
 intro k
 induction k using Nat.strongRecOn with
 |ind k ih=>
  intro g f hk hg hf;obtain⟨f,rfl⟩:∃e,f=e+1:=⟨f-1,by omega⟩;have hoo:Cx.aZ ms k=ms[k].outer:=by simp[Cx.aZ,hk]
  have ho:=zK k hk;have hE:jA vs xs s ms leaf (f+1) k=tC leaf (jA vs xs s ms leaf f (Cx.aZ ms k)) ((Cx.rowsOf ms k).foldl (jd vs xs s ms leaf) (0,(jA vs xs s ms leaf f (Cx.aZ ms k)).1)):=by
   show(if(k:Int)<0 then _ else _)=_;rw[if_neg (by omega),Int.toNat_natCast]
  have hq:((Cx.rowsOf ms k).foldl (jd vs xs s ms leaf) (0,(jA vs xs s ms leaf f (Cx.aZ ms k)).1)).1=Cx.nk vs ms k xs:=by
   rw[My];simp[Cx.nk]
  have h1:∀p:Int×Nat,∀q:Nat×Int,((tC leaf p q).2)=if(p.2:Int)=7 then Cx.j8 [q.1]else(p.2):=by
   intro p q;obtain⟨n,t⟩:=q;obtain⟨pt,pe⟩:=p
   by_cases e:pe=7
   ·grind[Cx.j8,tC]
   ·grind[tC]
  rw[hE,h1,hq]
  by_cases hn:Cx.aZ ms k<0
  ·have hp:Cx.nH ms g k=[k]:=by
    cases g with
    |zero=>rfl
    |succ g=>unfold Cx.nH;grind
   grind[ab2]
  ·obtain⟨g,rfl⟩:∃e,g=e+1:=⟨g-1,by omega⟩
   obtain⟨o,LQ⟩:∃o:Nat,Cx.aZ ms k=(o):=⟨(Cx.aZ ms k).toNat,by omega⟩;have hp:Cx.nH ms (g+1) k=Cx.nH ms g o++[k]:=by
    rw[Cx.nH,if_neg hn,LQ,Int.toNat_natCast]
   grind[Cx.vH]
end
theorem NV{s:Hx.St}(h:s.af=ms.map Hx.MA.p)(k:Nat):je s k=Cx.eW ms k:=by
 unfold je Cx.eW Cx.bp;rw[h,List.all_map,Bool.eq_iff_iff,List.all_eq_true,List.isEmpty_iff,List.map_eq_nil_iff,List.filter_eq_nil_iff];constructor
 ·rintro H ⟨m,i⟩ hm
  have:=H m (List.fst_mem_of_mem_zipIdx hm);simp only [Function.comp,Hx.MA.p,Bool.not_eq_true']at this
  grind
 ·intro H m hm
  obtain⟨i,hi,rfl⟩:=List.getElem_of_mem hm;have:=H (ms[i],i) (List.mem_zipIdx_iff_getElem?.2 (by simp))
  simp_all[decide_eq_false,Function.comp,Hx.MA.p]
section
variable {n L M:Nat} {lf:Nat->Bool} {cd:Nat->Nat->Nat->Nat}
def Dn(k i j a b c:Nat):Prop:=a<k\/a=k/\(b<i\/b=i/\c<j)
structure OI(n L M:Nat)(lf:Nat->Bool)(cd:Nat->Nat->Nat->Nat)(e k i j:Nat):Prop where
 six:∀a b c,a<n->lf a=true->b<L->c<M->Dn k i j a b c->cd a b c≠6
 sev:(e=7/\∃a b c,a<n/\lf a=true/\b<L/\c<M/\cd a b c=7)\/(e=0/\∀a b c,a<n->lf a=true->b<L->c<M->Dn k i j a b c->cd a b c≠7)
theorem OI.start:OI n L M lf cd 0 0 0 0:=⟨λa b c _ _ _ _ h=>by grind[Dn],.inr ⟨rfl,λa b c _ _ _ _ h=>by grind[Dn]⟩⟩
theorem OI.to{k' i' j':Nat}(h:OI n L M lf cd e k i j)(hd:∀a b c,a<n->lf a=true->b<L->c<M->Dn k' i' j' a b c->Dn k i j a b c):OI n L M lf cd e k' i' j':=
 ⟨λa b c h1 h2 h3 h4 h5=>h.six a b c h1 h2 h3 h4 (hd a b c h1 h2 h3 h4 h5),h.sev.imp id (λq=>⟨q.1,λa b c h1 h2 h3 h4 h5=>q.2 a b c h1 h2 h3 h4 (hd a b c h1 h2 h3 h4 h5)⟩)⟩
theorem OI.row(h:OI n L M lf cd e k i M):OI n L M lf cd e k (i+1) 0:=h.to (λa b c _ _ _ _ h=>by grind[Dn])
theorem OI.mode(h:OI n L M lf cd e k L 0):OI n L M lf cd e (k+1) 0 0:=h.to (λa b c _ _ _ _ h=>by grind[Dn])
theorem OI.skip(h:OI n L M lf cd e k 0 0)(hk:lf k=false):OI n L M lf cd e (k+1) 0 0:=h.to (λa b c _ h2 _ _ h=>by
 grind[Dn])
theorem OI.step(h:OI n L M lf cd e k i j)(hk:k<n)(hl:lf k=true)(hi:i<L)(hj:j<M)(h6:cd k i j≠6):OI n L M lf cd (if cd k i j=7 then 7 else e) k i (j+1):=by
 have hd:∀a b c,Dn k i (j+1) a b c->Dn k i j a b c\/(a=k/\b=i/\c=j):=λa b c h=>by grind[Dn]
 refine⟨λa b c h1 h2 h3 h4 h5=>?_,?_⟩
 ·rcases hd a b c h5 with q|⟨rfl,rfl,rfl⟩
  ·exact h.six a b c h1 h2 h3 h4 q
  ·exact h6
 ·by_cases e7:cd k i j=7
  ·grind
  ·rw[if_neg e7]
   refine h.sev.imp id (λq=>⟨q.1,λa b c h1 h2 h3 h4 h5=>?_⟩)
   grind
def yX(n L M:Nat)(lf:Nat->Bool)(cd:Nat->Nat->Nat->Nat)(r:Nat):Prop:=
 (r=6/\∃a b c,a<n/\lf a=true/\b<L/\c<M/\cd a b c=6)\/((∀a b c,a<n->lf a=true->b<L->c<M->cd a b c≠6)/\((r=7/\∃a b c,a<n/\lf a=true/\b<L/\c<M/\cd a b c=7)\/(r=0/\∀a b c,a<n->lf a=true->b<L->c<M->cd a b c≠7)))
theorem OI.done(h:OI n L M lf cd e n 0 0):yX n L M lf cd e:=by
 refine .inr ⟨λa b c h1 h2 h3 h4=>h.six a b c h1 h2 h3 h4 (.inl h1),h.sev.imp id (λq=>⟨q.1,λa b c h1 h2 h3 h4=>q.2 a b c h1 h2 h3 h4 (.inl h1)⟩)⟩
end
def Vz(vs:List az)(s:Hx.St)(ms:List Hx.MA)(ls mm:List (List Int))(a b c:Nat):Nat:=(jA vs (ls.getD b []++mm.getD c []) s ms a ms.length a).2
theorem ab3{vs:List az}{s:Hx.St}{K:List Cx.PK}{r:Nat}(hm:s.af=ms.map Hx.MA.p)(zK:∀i (hi:i<ms.length),ms[i].outer<i)(alM:(Cx.dD ms).length<=32)(hnd:(ms.map (·.name.s)).Nodup)(alN:∀i,i<ms.length->∀j∈Cx.path ms i,j<ms.length)
  (h:yX ms.length (Cx.bM vs K true).length (Cx.bM vs K false).length (λa=>je s a) (Vz vs s ms (Cx.bM vs K true) (Cx.bM vs K false)) r):(r:Int)=Cx.Nc vs ms K:=by
 have pP:∀a,a∈Cx.leaves ms↔a<ms.length/\je s a=true:=by
  intro a;unfold Cx.leaves Cx.dR;rw[List.mem_filter,List.mem_range,NV hm]
 have hcd:∀a,a<ms.length->∀b c,(Vz vs s ms (Cx.bM vs K true) (Cx.bM vs K false) a b c)=Cx.gB vs ms a ((Cx.bM vs K true).getD b []++(Cx.bM vs K false).getD c []):=by
  intro a ha b c;rw[Cx.xT vs ms alM hnd a (alN a ha)];exact JB vs _ s ms a zK a a ms.length ha (Nat.le_refl _) ha
 have key:∀code:Int,((Cx.leaves ms).any (λi=>(Cx.mA vs K).any λl=>decide (Cx.gB vs ms i l=code))=true)↔∃a b c,a<ms.length/\je s a=true/\b<(Cx.bM vs K true).length/\c<(Cx.bM vs K false).length/\(Vz vs s ms (Cx.bM vs K true) (Cx.bM vs K false) a b c:Int)=code:=by
  intro code;rw[List.any_eq_true];constructor
  ·rintro⟨a,ha,h⟩
   obtain⟨h1,h2⟩:=(pP a).1 ha;obtain⟨l,hl,h⟩:=List.any_eq_true.1 h;obtain⟨x,hx,hl⟩:=List.mem_flatMap.1 hl;obtain⟨y,hy,rfl⟩:=List.mem_map.1 hl;obtain⟨b,hb,rfl⟩:=List.getElem_of_mem hx;obtain⟨c,hc,rfl⟩:=List.getElem_of_mem hy;refine⟨a,b,c,h1,h2,hb,hc,?_⟩
   grind
  ·rintro⟨a,b,c,h1,h2,hb,hc,h⟩
   rw[hcd a h1]at h;refine⟨a,(pP a).2 ⟨h1,h2⟩,List.any_eq_true.2 ⟨_,List.mem_flatMap.2 ⟨_,List.getElem_mem hb,List.mem_map.2 ⟨_,List.getElem_mem hc,rfl⟩⟩,?_⟩⟩
   grind
 unfold Cx.Nc;rcases h with⟨rfl,a,b,c,h1,h2,h3,h4,h5⟩|⟨h6,h⟩
 ·rw[if_pos ((key 6).2 ⟨a,b,c,h1,h2,h3,h4,by omega⟩)];rfl
 ·rw[if_neg (λq=>by obtain⟨a,b,c,h1,h2,h3,h4,h5⟩:=(key 6).1 q;grind)]
  rcases h with⟨rfl,a,b,c,h1,h2,h3,h4,h5⟩|⟨rfl,h7⟩
  ·rw[if_pos ((key 7).2 ⟨a,b,c,h1,h2,h3,h4,by omega⟩)];rfl
  ·rw[if_neg (λq=>by obtain⟨a,b,c,h1,h2,h3,h4,h5⟩:=(key 7).1 q;grind)];rfl
