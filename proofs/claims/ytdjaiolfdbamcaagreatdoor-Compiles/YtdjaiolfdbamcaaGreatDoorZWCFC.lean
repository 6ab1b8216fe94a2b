/- The walk of combine. -/
import Derived.Test.YtdjaiolfdbamcaaGreatDoorZWCF9
import Derived.Test.YtdjaiolfdbamcaaGreatDoorZWCE7
set_option maxRecDepth 20000
set_option maxHeartbeats 2000000
namespace Go.Proofs.YtdjaiolfdbamcaaGreatDoor
variable {W W' w:World}{base j m n:Nat}{s s' v x:Value}{l:List Int}{F:Nat->Prop}{ls:List (List Int)}{vals:List Value}{ps:List (ByteArray×List Int)}{pv:List (ByteArray×Value)}{gs:List MG}
section
open Go.RowKit
theorem Uk(w:World)(a:Option Addr)(n c:Nat)(hc:n<=c):Calls Tryz.prog 166 #[.slice a n c] w λe w'=>e=.returned (.slice a n n)/\Below w.heap.size w w':=by
 have ql:(n:Int)<=c:=by omega
 go_enter Tryz.func166,Tryz.ntmps166;go_wp2_with fail;go_ret;exact⟨rfl,Below.refl _ _⟩
def NI(W:World)(s:Value)(l:List Int):Prop:=
 ∃g cap cur,s=.slice (some ⟨g,0,none⟩) l.length cap/\l.length<=cap/\cap<=maxLen/\W.heap[g]?=some (.cells cur 3 (0,0))/\cur.toList.take l.length=l.map (.int .i64)
theorem aky(h:W.ownsRow base 3 1 v n (l.map (.int .i64)))(hn:n=l.length)(h0:0<n):NI W v l:=by
 subst hn;rcases h.2 with⟨_,h1⟩|⟨g,cap,cur,rfl,_,hg,hc,hm,_,ht⟩
 ·omega
 ·exact⟨g,cap,cur,rfl,hc,hm,hg,by grind⟩
theorem NI.kept(h:NI W s l)(hk:Kp F W W')(hF:∀g cur,W.heap[g]?=some (.cells cur 3 (0,0))->¬F g):NI W' s l:=by
 obtain⟨g,cap,cur,e,h1,h2,hg,ht⟩:=h;exact⟨g,cap,cur,e,h1,h2,(hk.block g (Array.getElem?_eq_some_iff.1 hg).1 (hF g cur hg)).trans hg,ht⟩
theorem NI.below(h:NI W s l)(hb:Below W.heap.size W W'):NI W' s l:=h.kept (Kp.aK (F:=λ_=>False) hb) (λ_ _ _ h=>h)
theorem aaS{cur:Array Value}(h:cur.toList.take l.length=l.map (.int .i64)){i:Nat}(hi:i<l.length):cur[i]?=some (.int .i64 l[i]):=by
 have h1:(cur.toList.take l.length)[i]?=some (.int .i64 l[i]):=by rw[h];simp[]
 grind
theorem NI.nr(h:NI W s l):NR W s l:=by
 obtain⟨g,cap,cur,e,h1,_,hg,ht⟩:=h;exact⟨g,cap,e,h1,(Array.getElem?_eq_some_iff.1 hg).1,λi hi=>(Lib.cell_of_heap hg i).trans (aaS ht hi)⟩
structure LR(W:World)(base:Nat)(s:Value)(ls:List (List Int))(vals:List Value):Prop where
 len:vals.length=ls.length
 own:W.ownsRow base 32 1 s ls.length vals
 ni:∀i (hi:i<vals.length) (hj:i<ls.length),NI W vals[i] ls[i]
theorem LR.below(h:LR W base s ls vals)(hb:Below W.heap.size W W'):LR W' base s ls vals:=⟨h.len,ah h.own hb,λi hi hj=>(h.ni i hi hj).below hb⟩
theorem LR.nil(W:World)(base:Nat):LR W base (.slice none 0 0) [] []:=⟨rfl,World.ownsRow_nil _ _ _ _,λi hi=>by simp⟩
theorem LR.snoc(h:LR W base s ls vals)(hx:NI W x l)(hg:W.grownBy W' s.ownBlock)(ho:W'.ownsRow base 32 1 s' m (vals++[x]))(hm:m=ls.length+1):LR W' base s' (ls++[l]) (vals++[x]):=by
 have hk:Kp (λk=>s.ownBlock=some k) W W':=⟨hg.os,hg.tape,hg.output,hg.size,λk hk hn=>hg.block k hk (λe=>hn e.symm)⟩;have hF:∀g cur,W.heap[g]?=some (.cells cur 3 (0,0))->¬s.ownBlock=some g:=λg cur hg=>cO h.own hg (by decide)
 refine⟨by simp[h.len],by grind,λi hi hj=>?_⟩
 by_cases hl:i<vals.length
 ·have kq:i<ls.length:=by rw[<-h.len];exact hl
  rw[List.getElem_append_left hl,List.getElem_append_left kq];exact(h.ni i hl kq).kept hk hF
 ·have he:i=vals.length:=by simp at hi;omega
  subst he;have e1:(vals++[x])[vals.length]=x:=by simp
  have e2:(ls++[l])[vals.length]'hj=l:=by simp[h.len]
  rw[e1,e2];exact hx.kept hk hF
namespace Cx
theorem vx(ls:List (List Int))(j:Nat)(c:List Int)(h:j<ls.length):longer (ls.take (j+1)) c=longer (ls.take j) c++c.map (λn=>ls[j]++[n]):=by
 grind[List.take_add_one,List.getElem?_eq_getElem,longer]
theorem IL(l c:List Int)(q:Nat)(h:q<c.length):(c.take (q+1)).map (λn=>l++[n])=(c.take q).map (λn=>l++[n])++[l++[c[q]]]:=by
 rw[List.take_add_one,List.getElem?_eq_getElem h,List.map_append];simp
end Cx
theorem Tryz.infoSl:(Tryz.prog.info? 32).map (λi=>(i.zero,i.size,i.bytes))=some (some (.slice none 0 0),1,24):=by kernel_rfl
theorem IM(w:World)(g cap:Nat)(cs:List (List Int))(vals:List Value)(hlv:vals.length=cs.length)(hg:0<cs.length->g<w.heap.size)(hc:∀i (hi:i<vals.length),w.cell? ⟨g,i,none⟩=some vals[i])(hn:∀i (hi:i<vals.length) (hj:i<cs.length),NR w vals[i] cs[i])
  (hl:cs.length<=1000) (lP:∀c∈cs,c.length<=1000) (hb:∀i,(Cx.combine (cs.take i)).length<=100000000):
  Calls Tryz.prog 115 #[.slice (some ⟨g,0,none⟩) cs.length cap] w λe w'=>∃s us,e=.returned s/\LR w' w.heap.size s (Cx.combine cs) us/\Below w.heap.size w w':=by
 have HC:=ae hc;have HN:=ae hn;have HB:=ae hb;have HL:=ae lP;have HV:=ae hlv;clear hc hn hb lP;obtain⟨i0,dl,eu,dA,eg⟩:=info_parts Tryz.infoIntT;obtain⟨j0,zg,Ku,lh,mh⟩:=info_parts Tryz.infoSl;go_enter Tryz.func115,Tryz.ntmps115;go_wp2_with fail
 go_loopg [3,15] (cs.length) (λk v3 v15 wr=>∃(i:Nat)(us:List Value),i+k=cs.length/\v15=.int .i64 i/\Below w.heap.size w wr/\LR wr w.heap.size v3 (Cx.combine (cs.take i)) us)
 case atStart=>
  refine⟨0,[.slice (some ⟨w.heap.size,0,none⟩) 0 0],by omega,rfl,mB _ _ _,rfl,?_,λi hi hj=>?_⟩
  ·have:=World.ownsRow_lit (size:=1) (e:=32) (w.alloc (.cells #[] 3)) #[.slice (some ⟨w.heap.size,0,none⟩) 0 0] 1 (sy w _) (by decide) rfl
   rw[DM]at this;exact this
  ·have he:=by simp at hi;omega
   subst he;exact⟨w.heap.size,0,#[],rfl,Nat.le_refl _,by omega,((ag (w.alloc _) _).block w.heap.size (by simp)).trans (heap_alloc_new _ _),rfl⟩
 case round=>
  obtain⟨i,us,hi,rfl,lZ,hR⟩:=hrel;obtain⟨wo,rfl⟩:∃wo,wo=wr:=⟨wr,rfl⟩;have zE:=ae lZ;have HR:=ae hR;have hsz:=lZ.size;obtain⟨aL,cL,rfl,_,_⟩:=aj hR.own;clear hR
  by_cases hlt:i<cs.length
  ·have mQ:(i:Int)<cs.length:=by omega
   have Ti:(0:Int)<=i:=by omega
   have Ul:=hg (by omega);have hvi:i<vals.length:=by omega
   have x0:=(lZ.cell Ul).trans (HC.out i hvi);obtain⟨gc,cc,ev,_,Pu,hcc⟩:=HN.out i hvi hlt;rw[ev]at x0;have HCC:=ae (λq hq=>(lZ.cell Pu).trans (hcc q hq));have hgo:gc<wo.heap.size:=by omega
   have lP:=HL.out cs[i] (List.getElem_mem hlt)
   have HS:Hid (Cx.combine (cs.take (i+1))=Cx.longer (Cx.combine (cs.take i)) cs[i]):=ae (by
    rw[List.take_add_one,List.getElem?_eq_getElem hlt];exact Cx.fG _ _)
   have TX:=HB.out i;have af3:=HB.out (i+1);rw[HS.out,Cx.gK]at af3;have Kw:=Cx.kB cs i (by omega);have HLL:=ae Kw;clear lZ ev hcc Kw;generalize cs[i]=c at*;generalize Cx.combine (cs.take i)=ls at*;go_wp2_with fail;clear x0
   go_loopg [6,21] (ls.length) (λk v6 v21 wm=>∃(j:Nat)(ws:List Value),j+k=ls.length/\v21=.int .i64 j/\Below wo.heap.size wo wm/\LR wm wo.heap.size v6 (Cx.longer (ls.take j) c) ws)
   case atStart=>exact⟨0,[],by omega,rfl,Below.refl _ _,LR.nil _ _⟩
   case round=>
    obtain⟨j,ws,hj,rfl,vy,hM⟩:=hrel;obtain⟨wm,rfl⟩:∃wm,wm=wr:=⟨wr,rfl⟩;have rH:=ae vy;have HM:=ae hM;have hsm:=vy.size;obtain⟨aM,cM,rfl,_,_⟩:=aj hM.own;clear hM
    by_cases mM:j<ls.length
    ·have Q9:(j:Int)<ls.length:=by omega
     have aqe:(0:Int)<=j:=by omega
     have huj:j<us.length:=by rw[HR.out.len];exact mM
     obtain⟨gL,af4,hL,_,hgL,_,_,Um⟩:=aR HR.out.own (by omega)
     cases hL
     have hne:=HR.out.ni j huj mM;have x0:=(vy.cell hgL).trans ((Um j (by omega)).trans (List.getElem?_eq_getElem huj));have HNE:=ae hne;obtain⟨gl,cl,ax9,evl,hlc,Zs,ck,_⟩:=hne;rw[evl]at x0 HNE;have Kw:ls[j].length<=1000:=by have:=HLL.out ls[j] (List.getElem_mem mM);omega
     have HSN:=ae (Cx.vx ls j c mM);have hM0:(Cx.longer (ls.take j) c).length+c.length<=100000000:=by
      rw[Cx.gK,List.length_take];have h1:(j+1)*c.length<=ls.length*c.length:=Nat.mul_le_mul_right _ mM;rw[Nat.succ_mul]at h1;rw[show min j ls.length=j by omega];omega
     generalize ls[j]=l at*;obtain⟨bs,R4⟩:∃bs,bs=Cx.longer (ls.take j) c:=⟨_,rfl⟩;rw[<-R4]at HM hM0 HSN|-;clear R4 evl Um;go_wp2_with fail;clear x0
     go_loopg [6,27] (c.length) (λk v6 v27 wi=>∃(q:Nat)(ws:List Value),q+k=c.length/\v27=.int .i64 q/\Below wo.heap.size wo wi/\LR wi wo.heap.size v6 (bs++(c.take q).map (λn=>l++[n])) ws)
     case atStart=>exact⟨0,ws,by omega,rfl,rH.out,by simpa using HM.out⟩
     case round=>
      obtain⟨q,vs,hq,rfl,mX,hI⟩:=hrel;have KC:=ae mX;have HI:=ae hI;have Ua:=mX.size;obtain⟨aI,cI,rfl,_,_⟩:=aj hI.own;clear hI
      by_cases Un:q<c.length
      ·have hlq:(q:Int)<c.length:=by omega
       have aya:(0:Int)<=q:=by omega
       have x0:=(mX.cell hgo).trans (HCC.out q Un);have HQ:=ae (Cx.IL l c q Un);have HNI:=ae (HNE.out.below mX);have hlen:(bs++(c.take q).map (λn=>l++[n])).length=bs.length+q:=by simp;omega
       have QQ:=ae (λY=>Uk Y (some ⟨gl,0,none⟩) l.length cl hlc);generalize c[q]=x at*;obtain⟨es,hes⟩:∃es,es=bs++(c.take q).map (λn=>l++[n]):=⟨_,rfl⟩;rw[<-hes]at HI hlen|-;have HES:=ae hes;clear hes mX;rw[hlen];go_wp2_with fail;refine(QQ.out _).mono ?_;rintro e w1 ⟨rfl,bH⟩;have b6:=ae bH;have gI:=bH.size;obtain⟨gx,cx,ex,_,hgx,hcx⟩:=(HNI.out.below bH).nr
       cases ex
       have akD:∀i (hi:i<l.length),w1.cell? ⟨gl,0+i,none⟩=some (.int .i64 l[i]):=λi hi=>by rw[Nat.zero_add];exact hcx i hi
       clear bH x0 hcx;go_wp2_with (at_builtin;refine wpList_append_grows _ rfl _ _ 32 rfl 3 i0 _ 1 8 Tryz.underlying32 dl eu dA eg rfl (by decide) (some ⟨gl,0,none⟩) l.length l.length (l.map (.int .i64)) rfl ?d1 ?d2 ?d3 ⟨w1.heap.size,0,none⟩ 1 1 [.int .i64 x] rfl rfl (aF _ _ rfl [_] _) (eI rfl) ?c3 ?c4 ?c5 ?_)
       case d1=>simp
       case d2=>simp
       case d3=>intro b hb;cases hb;exact ints_at akD hgx (ag _ _)
       case c3=>omega
       case c4=>unfold maxLen;omega
       case c5=>omega
       intro v2 w2 lC rF;obtain⟨a2,c2,rfl,_,_⟩:=aj lC;have aT:Below w1.heap.size w1 w2:=⟨rF.os,rF.tape,rF.output,by have:=rF.size;simp at this;omega,λk hk=>(rF.block k (by simp;omega) (by simp)).trans ((ag w1 _).block k hk)⟩;have dH:=ae aT;have jT:=aT.size;have HN2:Hid (NI w2 (.slice a2 (l.length+1) c2) (l++[x])):=ae (aky (by rw[List.map_append];exact lC) (by simp) (by omega));have rO:=ae ((HI.out.below b6.out).below aT);rw[hlen]at rO;have HIO:=ae (by have:=rO.out.own;rw[hlen]at this;omega);clear lC rF aT akD;go_wp2_with (at_builtin;refine wpList_append_own_at _ rfl _ _ 24 rfl wo.heap.size 32 j0 _ 1 24 Tryz.underlying24 zg Ku lh mh rfl (by decide) _ (bs.length+q) _ rfl (ah HIO.out (ag _ _)) ⟨w2.heap.size,0,none⟩ 1 1 [.slice a2 (l.length+1) c2] rfl rfl (aF _ _ rfl [_] _) (eI rfl) ?e3 ?e4 ?e5 ?_)
       case e3=>unfold maxLen;omega
       case e4=>omega
       case e5=>simp;omega
       intro v9 w9 aJ ax _ bu
       have HL9:Hid (LR w9 wo.heap.size v9 (bs++(c.take (q+1)).map (λn=>l++[n])) (vs++[.slice a2 (l.length+1) c2])):=ae (by
        rw[HQ.out,<-List.append_assoc,<-HES.out]
        exact(rO.out.below (ag _ _)).snoc (HN2.out.below (ag _ _)) ax aJ (by rw[hlen]))
       have kh:=ae (by
        have hG:=eF aJ ax (by omega)
        exact(((KC.out.trans (b6.out.mono Ua)).trans (dH.out.mono (by omega)))).trans (hG.kept.toBelow (λk e=>(HIO.out.lt k e).1) (by omega)))
       clear aJ ax bu;go_wp2_with fail
       go_roundg (c.length-(q+1))
       case measure=>omega
       case rel=>exact⟨q+1,_,by omega,by go_num,kh.out,HL9.out⟩
      ·obtain rfl:q=c.length:=by omega
       have he:bs++(c.take c.length).map (λn=>l++[n])=Cx.longer (ls.take (j+1)) c:=by rw[List.take_length,HSN.out]
       rw[he]at HI;rw[he];go_wp2_with fail
       go_roundg (ls.length-(j+1))
       case measure=>omega
       case rel=>exact⟨j+1,vs,by omega,by go_num,KC.out,HI.out⟩
    ·obtain rfl:j=ls.length:=by omega
     have he:Cx.longer (ls.take ls.length) c=Cx.combine (cs.take (i+1)):=by rw[List.take_length,HS.out]
     rw[he]at HM;rw[he];have kh:=ae (zE.out.trans (vy.mono hsz));have HM9:Hid (LR wm w.heap.size (.slice aM (Cx.combine (cs.take (i+1))).length cM) (Cx.combine (cs.take (i+1))) ws):=ae ⟨HM.out.len,dF HM.out.own hsz,HM.out.ni⟩;go_wp2_with fail
     go_roundg (cs.length-(i+1))
     case measure=>omega
     case rel=>exact⟨i+1,ws,by omega,by go_num,kh.out,HM9.out⟩
  ·obtain rfl:i=cs.length:=by omega
   have he:Cx.combine (cs.take cs.length)=Cx.combine cs:=by rw[List.take_length]
   rw[he]at HR;rw[he];go_wp2_with fail;go_ret;exact⟨_,us,rfl,HR.out,zE.out⟩
end
section
open Go.RowKit Go.Maps
attribute [local go_sem↓] Go.wp_at_zero Go.wp_at_succ
def SI(W:World)(s:Value)(l:List Int):Prop:=
 ∃g cap cur,s=.slice (some ⟨g,0,none⟩) l.length cap/\W.heap[g]?=some (.cells cur 214 (0,0))/\cur.toList.take l.length=l.map (.int .u32)
theorem akF(h:W.ownsRow base 214 1 v n (l.map (.int .u32)))(hn:n=l.length)(h0:0<n):SI W v l:=by
 subst hn;rcases h.2 with⟨_,h1⟩|⟨g,cap,cur,rfl,_,hg,_,_,_,ht⟩
 ·omega
 ·exact⟨g,cap,cur,rfl,hg,by grind⟩
theorem SI.kept(h:SI W s l)(hk:Kp F W W')(hF:∀g cur,W.heap[g]?=some (.cells cur 214 (0,0))->¬F g):SI W' s l:=by
 obtain⟨g,cap,cur,e,hg,ht⟩:=h;exact⟨g,cap,cur,e,(hk.block g (Array.getElem?_eq_some_iff.1 hg).1 (hF g cur hg)).trans hg,ht⟩
theorem SI.below(h:SI W s l)(hb:Below W.heap.size W W'):SI W' s l:=h.kept (Kp.aK (F:=λ_=>False) hb) (λ_ _ _ h=>h)
theorem SI.sr(h:SI W s l):SR W s l:=by
 obtain⟨g,cap,cur,e,hg,ht⟩:=h;refine⟨g,cap,e,(Array.getElem?_eq_some_iff.1 hg).1,λi hi=>(Lib.cell_of_heap hg i).trans ?_⟩;have h1:(cur.toList.take l.length)[i]?=some (.int .u32 l[i]):=by rw[ht];simp[]
 grind
def plC(p:ByteArray×Value):List Value:=[.string p.1,p.2]
structure PR(W:World)(base:Nat)(s:Value)(ps:List (ByteArray×List Int))(pv:List (ByteArray×Value)):Prop where
 len:pv.length=ps.length
 own:W.ownsRow base 213 2 s ps.length (pv.flatMap plC)
 nm:∀i (hi:i<pv.length) (hj:i<ps.length),pv[i].1=ps[i].1
 si:∀i (hi:i<pv.length) (hj:i<ps.length),SI W pv[i].2 ps[i].2
theorem PR.below(h:PR W base s ps pv)(hb:Below W.heap.size W W'):PR W' base s ps pv:=⟨h.len,ah h.own hb,h.nm,λi hi hj=>(h.si i hi hj).below hb⟩
theorem PR.nil(W:World)(base:Nat):PR W base (.slice none 0 0) [] []:=⟨rfl,World.ownsRow_nil _ _ _ _,λi hi=>by simp,λi hi=>by simp⟩
theorem PR.snoc{n:ByteArray}(h:PR W base s ps pv)(hx:SI W x l)(hg:W.grownBy W' s.ownBlock)(ho:W'.ownsRow base 213 2 s' m (pv.flatMap plC++[.string n,x]))(hm:m=ps.length+1):PR W' base s' (ps++[(n,l)]) (pv++[(n,x)]):=by
 have hk:Kp (λk=>s.ownBlock=some k) W W':=⟨hg.os,hg.tape,hg.output,hg.size,λk hk hn=>hg.block k hk (λe=>hn e.symm)⟩;have hF:∀g cur,W.heap[g]?=some (.cells cur 214 (0,0))->¬s.ownBlock=some g:=λg cur hg=>cO h.own hg (by decide)
 have e0:∀(hi:pv.length<(pv++[(n,x)]).length),(pv++[(n,x)])[pv.length]=(n,x):=λ_=>by simp
 have e2:∀(hj:pv.length<(ps++[(n,l)]).length),(ps++[(n,l)])[pv.length]=(n,l):=λ_=>by simp[h.len]
 refine⟨by simp[h.len],by rw[List.length_append,List.flatMap_append];rw[hm]at ho;exact ho,λi hi hj=>?_,λi hi hj=>?_⟩
 ·by_cases hl:i<pv.length
  ·have kq:i<ps.length:=by rw[<-h.len];exact hl
   rw[List.getElem_append_left hl,List.getElem_append_left kq];exact h.nm i hl kq
  grind
 ·by_cases hl:i<pv.length
  ·have kq:i<ps.length:=by rw[<-h.len];exact hl
   rw[List.getElem_append_left hl,List.getElem_append_left kq];exact(h.si i hl kq).kept hk hF
  ·have he:i=pv.length:=by simp at hi;omega
   subst he;rw[e0,e2];exact hx.kept hk hF
theorem akH(pv:List (ByteArray×Value)):∀i (hi:i<pv.length),(pv.flatMap plC)[i*2]?=some (.string pv[i].1)/\(pv.flatMap plC)[i*2+1]?=some pv[i].2:=by
 intro i hi;have h:=λj hj=>sP plC 2 pv (λ_=>rfl) i j hi hj
 exact⟨h 0 (by omega),h 1 (by omega)⟩
theorem PR.plm(h:PR W base s ps pv)(h0:0<ps.length):PlM W s ps:=by
 obtain⟨g,cap,hv,_,hg,_,_,hc⟩:=aR h.own h0;refine⟨g,cap,hv,hg,λi hi=>?_⟩;have DR:i<pv.length:=by rw[h.len];exact hi
 obtain⟨f1,f2⟩:=akH pv i DR;refine⟨(hc (i*2) (by omega)).trans (f1.trans (by rw[h.nm i DR hi])),_,(hc (i*2+1) (by omega)).trans f2,(h.si i DR hi).sr⟩
theorem E2(hj:j<gs.length):Cx.nameOf (gs.map (·.a)) j=gs[j].a.name.s:=by simp[Cx.nameOf,hj]
theorem uA{tb:Nat}{vt vv vm:Value}{vs:List az}(hT:PT w base tb vt vs gs F vv vm)(hj:j<gs.length):w.cell? ⟨bl gs j,1,none⟩=some (.string (Cx.nameOf (gs.map (·.a)) j))/\bl gs j<w.heap.size:=by
 rw[E2 hj,kU hj];exact⟨((hT.bG hj).1 1 (by omega)).trans rfl,(hT.bG hj).2.2.2.1⟩
theorem Tryz.infoRowSet:(Tryz.prog.info? 214).map (λi=>(i.zero,i.size,i.bytes))=some (some (.int .u32 0),1,4):=by kernel_rfl
theorem Tryz.infoPlace:(Tryz.prog.info? 213).map (λi=>(i.zero,i.size,i.bytes))=some (some (.agg #[.string ⟨#[]⟩,.slice none 0 0]),2,40):=by kernel_rfl
theorem E3{H:Type}{P:Program}{k:TypeId}{R:Value->Option (DataW H×List MemPlace)}{w':World}{b:Nat}{D:DataW H}(h:w.ownsMap P k R b n D)(hk:Kp F w w')(hF:¬F b):w'.ownsMap P k R b n D:=by
 have hlt:=h.lt;obtain⟨es,clock,hb,f,hs,hD⟩:=h;exact⟨es,clock,(hk.block b hlt hF).trans hb,f,hs,hD⟩
theorem D5(ms:List Hx.MA):∀j∈Cx.leaves ms,j<ms.length:=by
 intro j hj;have:=(List.mem_filter.1 hj).1
 grind
theorem E5(w:World)(base tb:Nat)(vt vv vm:Value)(vs:List az)(gs:List MG)(F:Nat->Prop)(hT:PT w base tb vt vs gs F vv vm)(hL:Links gs)(ck:gs.length<=1000)(F3:(Cx.cD (gs.map (·.a))).length<=100000)(nU:∀m∈gs,m.a.name.s.size<=1000):
  Calls Tryz.prog 76 #[.pointer (some ⟨tb,0,none⟩)] w λe w'=>∃s pv,e=.returned s/\PR w' w.heap.size s (Cx.places (gs.map (·.a))) pv/\Below w.heap.size w w':=by
 have HRO:=ae (Lz w base tb vt vv vm vs gs F hT (by omega) F3 nU);have HT:=ae hT;have Rc:=ae hL;have zh:=ae nU;clear hT hL nU;obtain⟨i0,dl,eu,dA,eg⟩:=info_parts Tryz.infoRowSet;obtain⟨j0,zg,Ku,lh,mh⟩:=info_parts Tryz.infoPlace;go_enter Tryz.func76,Tryz.ntmps76;go_wp2_with fail;refine HRO.out.mono ?_;rintro e w1 ⟨D,rfl,jQ,hD,bH⟩;have HLV:=ae (yr w1 base tb vt vv vm vs gs F (HT.out.below bH) Rc.out (by omega));have b6:=ae bH;have nZ:=ae jQ;have HD:=ae hD;have gI:=bH.size;have Q0:=jQ.lt;clear bH jQ hD HRO;go_wp2_with fail;refine HLV.out.mono ?_;rintro e w2 ⟨v2,rfl,j9,aT⟩;obtain⟨aL,cL,rfl,_,_⟩:=aj j9;have dH:=ae aT;have HL2:=ae j9;have jT:=aT.size;have lu:=ae (E3 nZ.out (Kp.aK (F:=λ_=>False) aT) (λh=>h));have rP:=ae ((HT.out.below b6.out).below aT);have HLT:=ae (D5 (gs.map (·.a)));have hlen:=gN (gs.map (·.a)) (gs.map (·.a)).length;have auq:(Cx.leaves (gs.map (·.a))).length<=1000:=by
  have:(gs.map (·.a)).length=gs.length:=by simp
  unfold Cx.leaves;omega
 have Zi:Hid (Cx.places (gs.map (·.a))=(Cx.leaves (gs.map (·.a))).map (Cx.placeOf (gs.map (·.a)))):=ae rfl;clear aT j9 HLV nZ hlen;generalize hlv:Cx.leaves (gs.map (·.a))=lv at*;have HLV:=ae hlv;clear hlv;go_wp2_with fail
 go_loopg [4,15] (lv.length) (λk v4 v15 wr=>∃(i:Nat)(pv:List (ByteArray×Value)),i+k=lv.length/\v15=.int .i64 i/\Below w2.heap.size w2 wr/\PR wr w2.heap.size v4 ((lv.take i).map (Cx.placeOf (gs.map (·.a)))) pv)
 case atStart=>exact⟨0,[],by omega,rfl,Below.refl _ _,PR.nil _ _⟩
 case round=>
  obtain⟨i,pv,hi,rfl,lZ,hP⟩:=hrel;obtain⟨wo,rfl⟩:∃wo,wo=wr:=⟨wr,rfl⟩;have zE:=ae lZ;have HP:=ae hP;have hso:=lZ.size;obtain⟨aP,cP,rfl,_,_⟩:=aj hP.own;clear hP
  by_cases hlt:i<lv.length
  ·have mQ:(i:Int)<lv.length:=by omega
   have Ti:(0:Int)<=i:=by omega
   obtain⟨gL,af4,hL,_,hgL,_,_,Um⟩:=aR HL2.out (by omega)
   cases hL
   have x0:=(lZ.cell hgL).trans ((Um i (by omega)).trans (by rw[List.getElem?_map,List.getElem?_eq_getElem hlt]));have Uo:=by have:=HLT.out lv[i] (List.getElem_mem hlt);simpa using this
   obtain⟨ql,eS⟩:=uA rP.out Uo;have c1:=(lZ.cell eS).trans ql;have HSN:Hid ((lv.take (i+1)).map (Cx.placeOf (gs.map (·.a)))=(lv.take i).map (Cx.placeOf (gs.map (·.a)))++[Cx.placeOf (gs.map (·.a)) lv[i]]):=ae (by rw[List.take_add_one,List.getElem?_eq_getElem hlt,List.map_append];rfl);have Up:((lv.take i).map (Cx.placeOf (gs.map (·.a)))).length=i:=by simp;omega
   simp only [Option.map_some]at x0;obtain⟨ps,Pq⟩:∃ps,ps=(lv.take i).map (Cx.placeOf (gs.map (·.a))):=⟨_,rfl⟩;rw[<-Pq]at HP HSN Up|-;clear lZ Um ql Pq;rw[Up];generalize lv[i]=li at*;have HPO:Hid (Cx.placeOf (gs.map (·.a)) li=(Cx.nameOf (gs.map (·.a)) li,(Cx.path (gs.map (·.a)) li).map λj=>Cx.setOf (gs.map (·.a)) (Cx.nameOf (gs.map (·.a)) j))):=ae rfl;have tS:=sQ Rc.out li Uo;have IF:=ae (wQ Rc.out li Uo);have hp0:0<(Cx.path (gs.map (·.a)) li).length:=by
    rw[mL Rc.out Uo];split<;>simp
   generalize Cx.nameOf (gs.map (·.a)) li=nl at*;unfold dz at x0;have LA:=ae (λ(Y) (hY)=>IE base tb vt vv vm vs gs F Rc.out (by omega) li Uo Y (((rP.out.below zE.out)).below hY));unfold dz at LA;go_wp2_with fail;refine(LA.out _ (ag _ _)).mono ?_;rintro e w3 ⟨v3,rfl,ho3,eC⟩;have hsa:(wo.alloc (.cells #[.string nl,.slice none 0 0] 213)).heap.size=wo.heap.size+1:=by simp
   have hx3:w3.heap[wo.heap.size]?=some (.cells #[.string nl,.slice none 0 0] 213 (0,0)):=(eC.block wo.heap.size (by omega)).trans (heap_alloc_new _ _);have aaU:=(ag wo _).trans (eC.mono (ag _ _).size);have ji:=ae aaU;have oS:=eC.size;rw[hsa]at oS;have Dr:=ae hx3;obtain⟨gP,aye,hP,aqh,hgP,_,_,hPc⟩:=aR ho3 hp0;rw[hsa]at aqh;subst hP;have Oe:=ae hPc;have nL:=ae ((rP.out.below zE.out).below aaU);have HM3:=ae (E3 (E3 lu.out (Kp.aK (F:=λ_=>False) zE.out) (λh=>h)) (Kp.aK (F:=λ_=>False) aaU) (λh=>h));have ayg:w.heap.size<wo.heap.size:=by omega
   clear ho3 eC aaU hPc hx3 LA x0 c1;generalize Nw:Cx.path (gs.map (·.a)) li=kJ at*;clear Nw;go_wp2_with fail
   go_loopg [28] (kJ.length) (λk v28 wr=>∃(j:Nat)(pv:Value),j+k=kJ.length/\v28=.int .i64 j/\Kp (λk=>k=wo.heap.size) w3 wr/\wr.heap[wo.heap.size]?=some (.cells #[.string nl,pv] 213 (0,0))/\wr.ownsRow w3.heap.size 214 1 pv j (((kJ.take j).map λj=>Cx.setOf (gs.map (·.a)) (Cx.nameOf (gs.map (·.a)) j)).map (.int .u32)))
   case atStart=>exact⟨0,.slice none 0 0,by omega,rfl,Kp.refl _ _,Dr.out,World.ownsRow_nil _ _ _ _⟩
   case round=>
    obtain⟨j,qv,hj,rfl,hk,hx,hq⟩:=hrel;have HK:=ae hk;have HX:=ae hx;have HQ:=ae hq;have OY:=hk.size;obtain⟨aQ,cQ,rfl,_,_⟩:=aj hq
    by_cases mM:j<kJ.length
    ·have Q9:(j:Int)<kJ.length:=by omega
     have aqe:(0:Int)<=j:=by omega
     have hjg:=IF.out kJ[j] (List.getElem_mem mM);have x0:=(hk.cell hgP (by omega)).trans ((Oe.out j (by omega)).trans (by rw[List.getElem?_map,List.getElem?_eq_getElem mM]));simp only [Option.map_some]at x0;obtain⟨ql,LB⟩:=uA nL.out hjg;have ayh:bl gs kJ[j]<wo.heap.size:=by have:=(uA (rP.out) hjg).2;omega
     have n1:=(hk.cell LB (by omega)).trans ql;have hns:(Cx.nameOf (gs.map (·.a)) kJ[j]).size<=1000:=by rw[E2 hjg];exact zh.out _ (List.getElem_mem hjg)
     have p1:=fS hx;have HMR:=E3 HM3.out hk (by omega);obtain⟨cv,hrun,bu,DV⟩:=(World.ownsMap.drew HMR).lookup_int Tryz.keyStr Tryz.underlying209 Tryz.underlying214 (Tryz.zeroRowSet _) (Go.WideMaps.keyOf_string_mk Tryz.underlying9 (s:=Cx.nameOf (gs.map (·.a)) kJ[j]) (by unfold maxLen;omega));have hcv:cv=Cx.setOf (gs.map (·.a)) (Cx.nameOf (gs.map (·.a)) kJ[j]):=by
      have:=(HD.out.2 (Cx.nameOf (gs.map (·.a)) kJ[j])).symm.trans bu;simpa using this.symm
     have qO:Hid (((kJ.take (j+1)).map λj=>Cx.setOf (gs.map (·.a)) (Cx.nameOf (gs.map (·.a)) j)).map (Value.int .u32)=((kJ.take j).map λj=>Cx.setOf (gs.map (·.a)) (Cx.nameOf (gs.map (·.a)) j)).map (Value.int .u32)++[.int .u32 cv]):=ae (by
      rw[List.take_add_one,List.getElem?_eq_getElem mM,List.map_append,List.map_append,hcv];rfl)
     clear ql bu hcv DV hx hq hk HMR;generalize bl gs kJ[j]=bk at*;generalize Cx.nameOf (gs.map (·.a)) kJ[j]=nj at*;generalize ((kJ.take j).map λj=>Cx.setOf (gs.map (·.a)) (Cx.nameOf (gs.map (·.a)) j)).map (Value.int .u32)=xs at*;have iP:j<=1000:=by omega
     have iq:j+1<=maxLen:=by unfold maxLen;omega
     have qP:(j+1)*4<=140737488355328:=by omega
     have ayi:wo.heap.size<w3.heap.size:=by omega
     have hor:wo.heap.size<wr.heap.size:=by omega
     have HQO:=ae HQ.out;have ND:=λk hk=>(HQ.out.lt k hk).1
     go_upto_region 10 with(fail)
     go_region_law (refine aD rfl _ _ 211 rfl w3.heap.size 214 i0 _ 1 4 Tryz.underlying211 dl eu dA eg rfl (by decide) _ j xs rfl (ah HQO.out (cZ _ _)) ⟨_,0,none⟩ 1 1 [.int .u32 cv] rfl rfl (sb _ _ rfl [.int .u32 cv] _) (eI rfl) iq qP (Nat.le_trans OY (cZ _ _).size) ?_;intro v5 w5 aJ ax bu;obtain⟨a5,c5,rfl,_,_⟩:=aj aJ;have hx5:=(ax.block wo.heap.size (Nat.lt_of_lt_of_le hor (cZ _ _).size) (λe=>by have:=ND _ e.symm;omega)).trans (((cZ wr _).block wo.heap.size hor).trans HX.out);have y5:=fS hx5;have f5:=Lib.frozen_of_heap hx5 1)
     all_goals
      have lm:=((HK.out.alloc _).drew.grown ax (λk e=>.inr (ND k e)));have HK9:Hid (Kp (λk=>k=wo.heap.size) w3 (w5.setCell ⟨wo.heap.size,1,none⟩ (.slice a5 (j+1) c5))):=ae (lm.setCell (.inl rfl) _);have HX9:Hid ((w5.setCell ⟨wo.heap.size,1,none⟩ (.slice a5 (j+1) c5)).heap[wo.heap.size]?=some (.cells #[.string nl,.slice a5 (j+1) c5] 213 (0,0))):=ae (aE hx5);have HQ9:Hid ((w5.setCell ⟨wo.heap.size,1,none⟩ (.slice a5 (j+1) c5)).ownsRow w3.heap.size 214 1 (.slice a5 (j+1) c5) (j+1) (xs++[.int .u32 cv])):=ae (((Kp.refl (λk=>k=wo.heap.size) w5).setCell (.inl rfl) _).own aJ (λk hk e=>by have:=(aJ.lt k hk).1;omega));rw[<-qO.out]at HQ9;clear aJ ax bu lm hx5 hrun x0 n1 p1;go_wp2_with fail
      go_roundg (kJ.length-(j+1))
      case measure=>omega
      case rel=>exact⟨j+1,_,by omega,by go_num,HK9.out,HX9.out,HQ9.out⟩
    ·obtain rfl:j=kJ.length:=by omega
     have HSI:=ae (akF (by rw[List.take_length]at hq;exact hq) (by simp) hp0);obtain⟨p0,p1⟩:=iQ hx;have hbr:=ji.out.trans (hk.toBelow (λk e=>by omega) (by omega));have HBR:=ae hbr;have HPR:=ae (HP.out.below hbr);rw[Up]at HPR;have af7:=ae HPR.out.own;rw[Up]at af7;have hwr:w2.heap.size<=wr.heap.size:=by omega
     have oA:i<=1000:=by omega
     clear hk hx hq hbr;go_wp2_with (at_builtin;refine wpList_append_own_at _ rfl _ _ 155 rfl w2.heap.size 213 j0 _ 2 40 Tryz.underlying155 zg Ku lh mh rfl (by decide) _ i _ rfl (ah af7.out (ag _ _)) ⟨wr.heap.size,0,none⟩ 1 1 [.string nl,.slice aQ kJ.length cQ] rfl rfl (aF _ _ rfl [.string nl,.slice aQ kJ.length cQ] _) (uR rfl rfl) ?e3 ?e4 ?e5 ?_)
     case e3=>omega
     case e4=>omega
     case e5=>omega
     intro v9 w9 aJ ax _ bu;have HP9:=ae ((HPR.out.below (ag wr _)).snoc (HSI.out.below (ag wr _)) ax aJ (by rw[Up]));rw[<-HPO.out,<-HSN.out]at HP9
     have kh:=ae (by
      have hG:=eF aJ ax (by omega)
      exact(zE.out.trans (HBR.out.mono hso)).trans (hG.kept.toBelow (λk e=>(af7.out.lt k e).1) hwr))
     clear aJ ax bu;go_wp2_with fail
     go_roundg (lv.length-(i+1))
     case measure=>omega
     case rel=>exact⟨i+1,_,by omega,by go_num,kh.out,HP9.out⟩
  ·obtain rfl:i=lv.length:=by omega
   have he:(lv.take lv.length).map (Cx.placeOf (gs.map (·.a)))=Cx.places (gs.map (·.a)):=by rw[List.take_length,Zi.out]
   rw[he]at HP;rw[he];have kh:=ae ((b6.out.trans (dH.out.mono gI)).trans (zE.out.mono (by omega)));have HP9:=ae (dF HP.out.own (show w.heap.size<=w2.heap.size by omega));have HQ9:Hid (PR wo w.heap.size (.slice aP (Cx.places (gs.map (·.a))).length cP) (Cx.places (gs.map (·.a))) pv):=ae ⟨HP.out.len,HP9.out,HP.out.nm,HP.out.si⟩;go_wp2_with fail;go_ret;exact⟨_,rfl,⟨pv,HQ9.out⟩,kh.out⟩
