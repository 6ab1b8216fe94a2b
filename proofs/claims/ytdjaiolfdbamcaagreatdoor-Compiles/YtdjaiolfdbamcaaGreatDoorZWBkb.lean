/- A program on its way, in memory; the walks of next, nextTwo, nextAsked, put, take. -/
import Derived.Test.YtdjaiolfdbamcaaGreatDoorZBWc
import Derived.Test.YtdjaiolfdbamcaaGreatDoorZWRCf
import Derived.Lib.AppendZeros
set_option maxRecDepth 20000
set_option maxHeartbeats 4000000
namespace Go.Proofs.YtdjaiolfdbamcaaGreatDoor
variable {W w w':World}{b cc e g i k kb n:Nat}{v vl vr vw:Value}{xs:List Value}{m:Int}{us:List (Option Addr×Nat×Nat)}{F:Nat->Prop}
section
open Go.RowKit
attribute [local go_sem↓] Go.wp_at_zero Go.wp_at_succ
theorem lK{base size:Nat}(h:w.ownsRow base e size v n xs):∃a c,v=.slice a n c/\n<=c/\c<=maxLen:=by
 rcases h.2 with⟨rfl,rfl⟩|⟨g,cap,cur,rfl,_,_,h1,h2,_⟩
 ·exact⟨none,0,rfl,Nat.le_refl _,Nat.zero_le _⟩
 ·exact⟨_,cap,rfl,h1,h2⟩
end
section
open Go.RowKit
attribute [local go_sem↓] Go.wp_at_zero Go.wp_at_succ
theorem Tryz.infoIntT2:(Tryz.prog.info? 3).map (λi=>(i.zero,i.size,i.bytes))=some (some (.int .i64 0),1,8):=by kernel_rfl
namespace Mx
end Mx
theorem aam{cap:Nat}(h:w.ownsRow b e 1 (.slice (some ⟨g,0,none⟩) n cap) n xs):(w.setCell ⟨g,i,none⟩ v).ownsRow b e 1 (.slice (some ⟨g,0,none⟩) n cap) n (xs.set i v):=by
 rcases h.2 with⟨e1,_⟩|⟨g',cap',cur,e1,hb,hg,h1,h2,h3,h4⟩
 ·cases e1
 ·cases e1
  refine⟨by simpa using h.1,.inr ⟨g,cap,cur.setIfInBounds i v,rfl,hb,aE hg,h1,h2,by simpa using h3,?_⟩⟩;rw[Array.toList_setIfInBounds,List.take_set,h4]
end
section
open Go.RowKit
def jP(w:World)(g k:Nat)(m:Int):Prop:=∃cur,w.heap[g]?=some (.cells cur 3 (0,0))/\∀j,j<k->cur[j]?=some (.int .i64 m)
theorem jP.kept(h:jP w g k m)(hb:w'.heap[g]?=w.heap[g]?):jP w' g k m:=by
 obtain⟨cur,h1,h2⟩:=h;exact⟨cur,hb.trans h1,h2⟩
theorem jP.lt(h:jP w g k m):g<w.heap.size:=by
 obtain⟨cur,h1,_⟩:=h
 grind
theorem H8(h:w.ownsRow b 3 1 v n (List.replicate n (.int .i64 m)))(e:v.ownBlock=some g):jP w g n m:=by
 rcases h.2 with⟨rfl,_⟩|⟨g',cap,cur,rfl,hb,hg,h1,h2,h3,h4⟩
 ·cases e
 ·cases e
  refine⟨cur,hg,λj hj=>?_⟩;have e1:(cur.toList.take (n*1))[j]?=cur[j]?:=by rw[List.getElem?_take_of_lt (by omega),Array.getElem?_toList]
  grind
theorem aan(W:World)(b n:Nat)(v:Value)(m:Int)(ho:W.ownsRow b 3 1 v n (List.replicate n (.int .i64 m)))(hb:b<=W.heap.size)(ad:Addr)(c:Nat)(hx:∀j u,[Value.int .i64 m][j]?=some u->W.cell? (ad.add j)=some u)(hn:n<=2000010):
  ∃v' w',(Builtin.append_ #[32,32] 32 #[v,.slice (some ad) 1 c]).run Tryz.prog W=.ok v' w'/\w'.ownsRow b 3 1 v' (n+1) (List.replicate (n+1) (.int .i64 m))/\W.grownBy w' v.ownBlock/\(v'.ownBlock=v.ownBlock\/v'.ownBlock=some W.heap.size)/\∀g k,jP W g k m->k<=n->jP w' g k m:=by
 obtain⟨i0,dl,eu,dA,eg⟩:=info_parts Tryz.infoIntT2;obtain⟨v',w',hr,h2,h3,h4,h5⟩:=run_append_own_at W b 32 32 3 i0 (.int .i64 0) 1 8 Tryz.underlying32 dl eu dA eg rfl (by decide) v n _ ho ad 1 c [.int .i64 m] rfl hx (λu hu=>by simp at hu;subst hu;rfl) (by grind[maxLen]) (by omega) hb;have h2':w'.ownsRow b 3 1 v' (n+1) (List.replicate (n+1) (.int .i64 m)):=by rw[List.replicate_succ'];exact h2
 refine⟨v',w',hr,h2',h3,h5,λg k hf hk=>?_⟩
 by_cases hg:v.ownBlock=some g
 ·rcases h5 with h5|h5
  ·obtain⟨cur,iH,lQ⟩:=H8 h2' (h5.trans hg)
   exact⟨cur,iH,λj hj=>lQ j (by omega)⟩
  ·rcases ho.2 with⟨rfl,_⟩|⟨g',cap,cur,rfl,hbg,tU,h1,h2c,hcs,ht⟩
   ·cases hg
   ·cases hg
    by_cases hroom:n+1<=cap
    ·have fv:=run_append_room W 32 32 3 i0 Tryz.underlying32 dl g' n cap cur tU ad 1 c [.int .i64 m] (by grind) hx (λu hu=>by simp at hu;subst hu;rfl) hroom (by grind)
     grind[Value.ownBlock,bo]
    ·obtain⟨v2,w2,fv,_,Xi⟩:=run_append_arg_grows W 32 32 3 i0 (.int .i64 0) 1 8 Tryz.underlying32 dl eu dA eg rfl (by decide) ⟨g',0,none⟩ n cap (List.replicate n (.int .i64 m)) (by simp) (ho.cells rfl) ad 1 c [.int .i64 m] rfl hx (by omega) (by grind[maxLen]) (by omega)
     rw[hr]at fv;injection fv with e1 e2;subst e2;exact hf.kept (Xi.block _ (bo tU) (by simp))
 ·exact hf.kept (h3.block g hf.lt (λe=>hg e.symm))
def afn(us tK:List (Option Addr×Nat×Nat))(v:Value)(n:Nat):Prop:=∀u∈tK,u∈us\/∀g,u.1=some ⟨g,0,none⟩->v.ownBlock=some g\/n<=g
def aao(vl Li:Value)(n:Nat):Prop:=∀k,Li.ownBlock=some k->vl.ownBlock=some k\/n<=k
structure Ia(w:World)(cc kb:Nat)(vl vw vr:Value)(us:List (Option Addr×Nat×Nat)):Prop where
 box:w.heap[kb]?=some (.cells #[vl,vw,vr] 26 (0,0))
 le:cc<=w.heap.size
 row:w.ownsRow cc 32 1 vl us.length (us.map λu=>.slice u.1 u.2.1 u.2.2)
 four:∃k,us.length=4*k
 full:∀i (hi:i<us.length),0<us[i].2.1->∃g,us[i].1=some ⟨g,0,none⟩/\jP w g us[i].2.1 (-7000-((i/4:Nat):Int))
 small:∀i (hi:i<us.length),us[i].2.1<=2000003
theorem Ia.lists(h:Ia w cc kb vl vw vr us):∃al cl,vl=.slice al us.length cl/\BkL w al us:=by
 obtain⟨al,cl,rfl,_,_⟩:=lK h.row;refine⟨al,cl,rfl,λi hi=>?_,λi hi j hj=>?_,λi hi=>Nat.le_trans (h.small i hi) (by omega)⟩
 ·obtain⟨g,cap,e,_,_,_,_,hc⟩:=aR h.row (by omega)
  grind
 ·obtain⟨g,e,cur,h1,h2⟩:=h.full i hi (by omega)
  refine⟨g,0,e,?_⟩;rw[Nat.zero_add];grind[Lib.cell_of_heap,trans]
theorem Tryz.infoSlB:(Tryz.prog.info? 32).map (λi=>(i.zero,i.size,i.bytes))=some (some (.slice none 0 0),1,24):=by kernel_rfl
theorem Tm(n i:Nat)(v:Value)(xs:List Value)(hl:xs.length=n)(hi:i<n):(List.replicate i v++xs.drop i).set i v=List.replicate (i+1) v++xs.drop (i+1):=by
 rw[List.set_append_right _ _ (by simp),List.length_replicate,Nat.sub_self,List.drop_eq_getElem_cons (by omega),List.set_cons_zero,List.replicate_succ',List.append_assoc];rfl
theorem Ia.Tn(h:Ia w cc kb vl vw vr us)(hk:Kp F w w')(h0:¬F kb)(h1:∀g,vl.ownBlock=some g->¬F g)(h2:∀i (hi:i<us.length),0<us[i].2.1->∀g,us[i].1=some ⟨g,0,none⟩->¬F g):Ia w' cc kb vl vw vr us:=by
 refine⟨(hk.block kb (bo h.box) h0).trans h.box,Nat.le_trans h.le hk.size,⟨h.row.1,?_⟩,h.four,λi hi hp=>?_,h.small⟩
 ·rcases h.row.2 with h3|⟨g,cap,cur,rfl,h4,h5,h6⟩
  ·grind
  ·exact .inr ⟨g,cap,cur,rfl,h4,(hk.block g (bo h5) (h1 g rfl)).trans h5,h6⟩
 ·obtain⟨g,e,hf⟩:=h.full i hi hp
  exact⟨g,e,hf.kept (hk.block g hf.lt (h2 i hi hp g e))⟩
theorem Ib{r:Option Nat}(h:W.grownBy w' r):Kp (λk=>r=some k) W w':=⟨h.os,h.tape,h.output,h.size,λk hk hn=>h.block k hk (λe=>hn e.symm)⟩
theorem i7(h:w.ownsRow b e 1 v n xs)(hv:v.ownBlock=some g):∃cur,w.heap[g]?=some (.cells cur e (0,0)):=by
 rcases h.2 with⟨rfl,_⟩|⟨g',cap,cur,rfl,hb,hg,_⟩
 ·cases hv
 ·cases hv;grind
theorem ye(wr W:World)(c n:Nat)(v0 v:Value)(m:Int)(ho:W.ownsRow c 3 1 v n (List.replicate n (.int .i64 m)))(hc:c<=W.heap.size)(hK:Kp (λk=>v0.ownBlock=some k) wr W)(hv:∀k,v.ownBlock=some k->v0.ownBlock=some k\/wr.heap.size<=k)(hn:n<=2000010):
  ∃v' w',(Builtin.append_ #[32,32] 32 #[v,.slice (some ⟨W.heap.size,0,none⟩) 1 1]).run Tryz.prog (W.alloc (.cells #[.int .i64 m] 3))=.ok v' w'/\w'.ownsRow c 3 1 v' (n+1) (List.replicate (n+1) (.int .i64 m))/\c<=w'.heap.size/\Kp (λk=>v0.ownBlock=some k) wr w'/\(∀k,v'.ownBlock=some k->v0.ownBlock=some k\/wr.heap.size<=k)/\∀g k,jP W g k m->k<=n->jP w' g k m:=by
 have Sx:=ag W (.cells #[.int .i64 m] 3);obtain⟨v',w',hr,h1,h2,h3,h4⟩:=aan (W.alloc (.cells #[.int .i64 m] 3)) c n v m (ah ho Sx) (Nat.le_trans hc Sx.size) ⟨W.heap.size,0,none⟩ 1 (aF W _ rfl [_] _) hn;have hw:=Nat.le_trans hK.size Sx.size;refine⟨v',w',hr,h1,Nat.le_trans hc (Nat.le_trans Sx.size h2.size),(hK.below Sx).trans (Ib h2) (λk e=>hv k e),λk e=>?_,λg k hf hk=>h4 g k (hf.kept (Sx.block g hf.lt)) hk⟩
 grind
theorem O8(wr:World)(cc kb c n:Nat)(vl vw vr v:Value)(us:List (Option Addr×Nat×Nat))(h:Ia wr cc kb vl vw vr us)(ho:wr.ownsRow c 3 1 v n (List.replicate n (.int .i64 (-7000-((us.length/4:Nat):Int)))))(hc:c<=wr.heap.size)
  (nM:∀i (hi:i<us.length),0<us[i].2.1->∀g,us[i].1=some ⟨g,0,none⟩->v.ownBlock≠some g) (hn:n<=2000000) (hus:us.length<=100000000) (m:Int) (hm:m=-7000-((us.length/4:Nat):Int)):
  ∃b1 c1 w1 b2 c2 w2 b3 c3 w3 b4 c4 w4,(Builtin.append_ #[32,32] 32 #[v,.slice (some ⟨wr.heap.size,0,none⟩) 1 1]).run Tryz.prog (wr.alloc (.cells #[.int .i64 m] 3))=.ok (.slice b1 (n+1) c1) w1/\
   (Builtin.append_ #[32,32] 32 #[.slice b1 (n+1) c1,.slice (some ⟨w1.heap.size,0,none⟩) 1 1]).run Tryz.prog (w1.alloc (.cells #[.int .i64 m] 3))=.ok (.slice b2 (n+1+1) c2) w2/\
   (Builtin.append_ #[32,32] 32 #[.slice b2 (n+1+1) c2,.slice (some ⟨w2.heap.size,0,none⟩) 1 1]).run Tryz.prog (w2.alloc (.cells #[.int .i64 m] 3))=.ok (.slice b3 (n+1+1+1) c3) w3/\
   w3.cell? ⟨kb,0,none⟩=some vl/\
   (Builtin.append_ #[24,24] 24 #[vl,.slice (some ⟨w3.heap.size,0,none⟩) 4 4]).run Tryz.prog (w3.alloc (.cells #[v,.slice b1 (n+1) c1,.slice b2 (n+1+1) c2,.slice b3 (n+1+1+1) c3] 32))=.ok (.slice b4 (us.length+4) c4) w4/\
   w4.cell? ⟨kb,0,none⟩=some vl/\w4.frozen? ⟨kb,0,none⟩=false/\
   (∃tK,Ia (w4.setCell ⟨kb,0,none⟩ (.slice b4 (us.length+4) c4)) cc kb (.slice b4 (us.length+4) c4) vw vr tK/\tK.length=us.length+4/\afn us tK v wr.heap.size/\aao vl (.slice b4 (us.length+4) c4) wr.heap.size)/\Kp (λk=>k=kb\/v.ownBlock=some k\/vl.ownBlock=some k) wr (w4.setCell ⟨kb,0,none⟩ (.slice b4 (us.length+4) c4)):=by
 rw[<-hm]at ho;obtain⟨i0,dl,eu,dA,eg⟩:=info_parts Tryz.infoSlB;have hK0:Kp (λk=>v.ownBlock=some k) wr wr:=Kp.refl _ _;obtain⟨v1,w1,r1,o1,s1,k1,a1,f1⟩:=ye wr wr c n v v m ho hc hK0 (λk e=>.inl e) (by omega);obtain⟨v2,w2,r2,o2,s2,k2,a2,f2⟩:=ye wr w1 c (n+1) v v1 m o1 s1 k1 a1 (by omega);obtain⟨v3,w3,r3,o3,s3,k3,a3,f3⟩:=ye wr w2 c (n+1+1) v v2 m o2 s2 k2 a2 (by omega);have hvk:¬v.ownBlock=some kb:=λe=>by
  obtain⟨cur,hh⟩:=i7 ho e;rw[h.box]at hh
  grind
 have kz:∀g,vl.ownBlock=some g->¬v.ownBlock=some g:=λg e1 e2=>by
  obtain⟨cur,hh⟩:=i7 ho e2;obtain⟨afp,hh2⟩:=i7 h.row e1
  grind
 have h3:=h.Tn k3 hvk kz nM;obtain⟨b0,c0,rfl,_,_⟩:=lK ho;obtain⟨b1,c1,rfl,_,_⟩:=lK o1;obtain⟨b2,c2,rfl,_,_⟩:=lK o2;obtain⟨b3,c3,rfl,_,_⟩:=lK o3;have Sx:=ag w3 (.cells #[.slice b0 n c0,.slice b1 (n+1) c1,.slice b2 (n+1+1) c2,.slice b3 (n+1+1+1) c3] 32);obtain⟨v4,w4,r4,o4,g4,_,at4⟩:=run_append_own_at (w3.alloc (.cells #[.slice b0 n c0,.slice b1 (n+1) c1,.slice b2 (n+1+1) c2,.slice b3 (n+1+1+1) c3] 32)) cc 24 24 32 i0 (.slice none 0 0) 1 24 Tryz.underlying24 dl eu dA eg rfl (by decide) vl us.length _ (ah h3.row Sx) ⟨w3.heap.size,0,none⟩ 4 4 [.slice b0 n c0,.slice b1 (n+1) c1,.slice b2 (n+1+1) c2,.slice b3 (n+1+1+1) c3] rfl (aF w3 _ rfl [_,_,_,_] _) (λu hu=>by simp at hu;rcases hu with rfl|rfl|rfl|rfl<;>rfl) (by grind[maxLen]) (by omega) (Nat.le_trans h3.le Sx.size);obtain⟨b4,c4,rfl,_,_⟩:=lK o4;have tL:=(Kp.aK Sx).trans (Ib g4) (λk e=>.inl e);have xi:¬vl.ownBlock=some kb:=λe=>by
  obtain⟨afp,hh2⟩:=i7 h3.row e;rw[h3.box]at hh2
  grind
 have Tp:=(tL.block kb (bo h3.box) xi).trans h3.box;have hfk:∀g k mm,jP w3 g k mm->jP (w4.setCell ⟨kb,0,none⟩ (.slice b4 (us.length+4) c4)) g k mm:=λg k mm hf=>by
  have hf4:=hf.kept (tL.block g hf.lt (λe=>by
   obtain⟨cur,hh,_⟩:=hf;obtain⟨afp,hh2⟩:=i7 h3.row e
   grind))
  refine hf4.kept ((gX w4 kb 0 (.slice b4 (us.length+4) c4)).block g hf4.lt (λe=>?_));obtain⟨cur,hh,_⟩:=hf4
  grind
 obtain⟨kk,J8⟩:=h.four;refine⟨_,_,w1,_,_,w2,_,_,w3,_,_,w4,r1,r2,r3,Lib.cell_of_heap h3.box 0,r4,Lib.cell_of_heap Tp 0,Lib.frozen_of_heap Tp 0,⟨us++[(b0,n,c0),(b1,n+1,c1),(b2,n+1+1,c2),(b3,n+1+1+1,c3)],⟨?_,Nat.le_trans h3.le (Nat.le_trans tL.size (gX w4 kb 0 _).size),?_,⟨kk+1,by grind⟩,λi hi hp=>?_,λi hi=>?_⟩,by simp,λu hu=>?_,λk e=>?_⟩,?_⟩
 ·rw[aE Tp];rfl
 ·have e1:(us++[(b0,n,c0),(b1,n+1,c1),(b2,n+1+1,c2),(b3,n+1+1+1,c3)]).length=us.length+4:=by simp
  rw[e1,List.map_append];refine⟨o4.1,?_⟩;rcases o4.2 with q|⟨g,cap,cur,q1,q2,q3,q4⟩
  ·omega
  ·refine .inr ⟨g,cap,cur,q1,q2,((gX w4 kb 0 (.slice b4 (us.length+4) c4)).block g (bo q3) (λe=>?_)).trans q3,q4⟩
   grind
 ·by_cases hl:i<us.length
  ·have e1:(us++[(b0,n,c0),(b1,n+1,c1),(b2,n+1+1,c2),(b3,n+1+1+1,c3)])[i]=us[i]:=List.getElem_append_left hl
   rw[e1]at hp|-;obtain⟨g,e,hf⟩:=h3.full i hl hp
   grind
  ·have hmk:(-7000-((i/4:Nat)))=m:=by
    rw[hm];have:i/4=us.length/4:=by simp at hi;omega
    rw[this]
   rw[hmk];have hi4:=by simpa using hi
   have key:∀(W:World)(b:Option Addr)(k cc:Nat),W.ownsRow c 3 1 (.slice b k cc) k (List.replicate k (.int .i64 m))->(∀g,jP W g k m->jP w3 g k m)->0<k->∃g,b=some ⟨g,0,none⟩/\jP (w4.setCell ⟨kb,0,none⟩ (.slice b4 (us.length+4) c4)) g k m:=λW b k cc hoo nX hpp=>by
    obtain⟨g,cap,e,_⟩:=aR hoo hpp
    cases e
    exact⟨g,rfl,hfk _ _ _ (nX g (H8 hoo rfl))⟩
   rcases(show i=us.length\/i=us.length+1\/i=us.length+2\/i=us.length+3 by omega)with e|e|e|e
   ·subst e
    have e1:(us++[(b0,n,c0),(b1,n+1,c1),(b2,n+1+1,c2),(b3,n+1+1+1,c3)])[us.length]=(b0,n,c0):=by simp
    rw[e1]at hp|-
    grind
   ·subst e
    have e1:(us++[(b0,n,c0),(b1,n+1,c1),(b2,n+1+1,c2),(b3,n+1+1+1,c3)])[us.length+1]=(b1,n+1,c1):=by simp
    rw[e1]at hp|-;exact key w1 b1 (n+1) c1 o1 (λg hf=>f3 g _ (f2 g _ hf (by omega)) (by omega)) hp
   ·subst e
    have e1:(us++[(b0,n,c0),(b1,n+1,c1),(b2,n+1+1,c2),(b3,n+1+1+1,c3)])[us.length+2]=(b2,n+1+1,c2):=by simp
    rw[e1]at hp|-
    grind
   ·subst e
    have e1:(us++[(b0,n,c0),(b1,n+1,c1),(b2,n+1+1,c2),(b3,n+1+1+1,c3)])[us.length+3]=(b3,n+1+1+1,c3):=by simp
    grind
 ·have:=List.getElem_mem hi
  generalize (us++[(b0,n,c0),(b1,n+1,c1),(b2,n+1+1,c2),(b3,n+1+1+1,c3)])[i]=u at this|-;rcases List.mem_append.1 this with q|q
  ·obtain⟨j,hj,e⟩:=List.getElem_of_mem q
   rw[<-e];exact h.small j hj
  ·simp at q
   grind
 ·rcases List.mem_append.1 hu with q|q
  ·grind
  ·refine .inr (λg e=>?_)
   simp at q;rcases q with rfl|rfl|rfl|rfl<;>simp only at e<;>subst e
   ·exact .inl rfl
   ·exact a1 g rfl
   ·exact a2 g rfl
   ·exact a3 g rfl
 ·rcases at4 with q|q
  ·grind
  ·rw[q]at e
   simp at e;exact .inr (by have:=k3.size;omega)
 ·refine Kp.trans (G:=λk=>k=kb\/vl.ownBlock=some k) ⟨k3.os,k3.tape,k3.output,k3.size,λk hk Nk=>k3.block k hk (λe=>Nk (.inr (.inl e)))⟩ (Kp.trans ⟨tL.os,tL.tape,tL.output,tL.size,λk hk Nk=>tL.block k hk (λe=>Nk (.inr e))⟩ (gX w4 kb 0 (.slice b4 (us.length+4) c4)) (λk e=>.inl (.inl e))) (λk e=>?_)
  grind
theorem Tq(w:World)(cc kb c n:Nat)(vl vw vr v:Value)(us:List (Option Addr×Nat×Nat))(vals:List Value)(h:Ia w cc kb vl vw vr us)(ho:w.ownsRow c 3 1 v n vals)(hc:c<=w.heap.size)
  (nM:∀i (hi:i<us.length),0<us[i].2.1->∀g,us[i].1=some ⟨g,0,none⟩->v.ownBlock≠some g) (hn:n<=2000000) (hus:us.length<=100000000):
  Calls Tryz.prog 43 #[.pointer (some ⟨kb,0,none⟩),v] w λe w'=>e=.returned (.tuple #[])/\(∃Li tK,Ia w' cc kb Li vw vr tK/\tK.length=us.length+4/\afn us tK v w.heap.size/\aao vl Li w.heap.size)/\Kp (λk=>k=kb\/v.ownBlock=some k\/vl.ownBlock=some k) w w':=by
 obtain⟨al,cl,rfl,_,_⟩:=lK h.row;obtain⟨bv,cv,rfl,_,_⟩:=lK ho;have c0:=dt h.box;have kz:vals.length=n:=by have:=ho.1;omega
 have hvk:¬(Value.slice bv n cv).ownBlock=some kb:=λe=>by
  obtain⟨cur,hh⟩:=i7 ho e;rw[h.box]at hh
  grind
 have nR:∀g,(Value.slice al us.length cl).ownBlock=some g->¬(Value.slice bv n cv).ownBlock=some g:=λg e1 e2=>by
  obtain⟨cur,hh⟩:=i7 ho e2;obtain⟨afp,hh2⟩:=i7 h.row e1
  grind
 have HT:=ae (λwr (hk) j9 m hm=>O8 wr cc kb c n (.slice al us.length cl) vw vr (.slice bv n cv) us (h.Tn hk hvk nR nM) j9 (Nat.le_trans hc hk.size) nM hn hus m hm);have HO:=ae ho;have HVL:=ae kz;have hq:(us.length:Int).tdiv 4=((us.length/4:Nat)):=by rw[Int.tdiv_eq_ediv_of_nonneg (by omega)];rfl
 have J5:IntKind.i64.wrap ((us.length:Int).tdiv 4)=((us.length/4:Nat)):=by rw[hq,IntWalk.i64_in _ (by omega)]
 have Zo:(us.length)/4=((us.length/4:Nat):Int):=rfl;have hq9:us.length/4<=100000000:=by omega
 obtain⟨q,hqq⟩:∃q,q=us.length/4:=⟨_,rfl⟩;obtain⟨ul,hul⟩:∃ul,ul=us.length:=⟨_,rfl⟩;rw[<-hqq]at hq J5 Zo hq9 HT;rw[<-hul]at hq J5 Zo c0;have HUL:=ae hul;clear hqq h nM hvk nR kz ho hus hul;go_enter Tryz.func43,Tryz.ntmps43;go_wp2
 go_loopg [5] n (λgk v5 wr=>∃i:Nat,i+gk=n/\v5=.int .i64 i/\wr.ownsRow c 3 1 (.slice bv n cv) n (List.replicate i (.int .i64 (-7000-(q:Int)))++vals.drop i)/\Kp (λk=>(Value.slice bv n cv).ownBlock=some k) w wr)
 case atStart=>exact⟨0,by omega,rfl,by simpa using HO.out,Kp.refl _ _⟩
 case round=>
  obtain⟨i,RM,rfl,ho,hk⟩:=hrel
  by_cases hlt:i<n
  ·have J6:(i:Int)<n:=by omega
   have dl:(0:Int)<=i:=by omega
   rcases ho.2 with⟨_,h0⟩|⟨g,cap,cur,e,hbg,hg,h1,h2,h3,h4⟩
   ·omega
   ·cases e
    have x1:=ho.cellAt i (by omega);obtain⟨xv,hxv⟩:∃xv,(List.replicate i (Value.int .i64 (-7000-(q)))++vals.drop i)[i]?=some xv:=⟨_,List.getElem?_eq_getElem (by have:=HVL.out;simp;omega)⟩;rw[hxv]at x1;have x2:=Lib.frozen_of_heap hg i;have HS:=ae (aam (i:=i) (v:=.int .i64 (-7000-(q))) ho);have HK:Hid (Kp (λk=>(Value.slice (some ⟨g,0,none⟩) n cv).ownBlock=some k) w (wr.setCell ⟨g,i,none⟩ (.int .i64 (-7000-(q))))):=ae (hk.trans (gX wr g i _) (λk e=>.inl (by subst e;rfl)));clear ho hk hxv hg h3 h4;go_wp2
    go_roundg (n-(i+1))
    case measure=>omega
    case rel=>
     refine⟨i+1,by omega,by go_num,?_,HK.out⟩;have:=HS.out;rw[Tm n i _ vals HVL.out hlt]at this;omega
  ·have J6:¬(i:Int)<n:=by omega
   obtain rfl:i=n:=by omega
   rw[List.drop_of_length_le (by have:=HVL.out;omega),List.append_nil]at ho;obtain⟨b1,c1,w1,b2,c2,w2,b3,c3,w3,b4,c4,w4,r1,r2,r3,y3,r4,y4,z4,tX,uQ⟩:=HT.out wr hk ho (-7000-(q)) rfl;have J3:=ae tX;have vo:=ae (Kp.trans ⟨hk.os,hk.tape,hk.output,hk.size,λk J8 Nk=>hk.block k J8 (λe=>Nk (.inr (.inl e)))⟩ uQ (λk e=>.inl e));have hsz:=hk.size;clear tX uQ ho hk HT;rw[<-HUL.out]at y3 r4 y4 J3 vo;go_upto_region 6 with(at_builtin;refine Lib.wpList_append_run _ rfl _ _ _ _ rfl _ _ rfl rfl _ _ r1 ?_);go_upto_region 7 with(at_builtin;refine Lib.wpList_append_run _ rfl _ _ _ _ rfl _ _ rfl rfl _ _ r2 ?_);go_upto_region 8 with(at_builtin;refine Lib.wpList_append_run _ rfl _ _ _ _ rfl _ _ rfl rfl _ _ r3 ?_);go_wp2_with (at_builtin;refine Lib.wpList_append_run _ rfl _ _ _ _ rfl _ _ rfl rfl _ _ r4 ?_);go_end0;obtain⟨tK,zj,hl',hu',hv'⟩:=J3.out;refine⟨rfl,⟨_,tK,zj,by rw[hl',<-HUL.out],λu hu=>(hu' u hu).imp id (λq g e=>(q g e).imp id (λh=>Nat.le_trans hsz h)),λk e=>(by rw[HUL.out]at hv' e;exact(hv' k e).imp id (λh=>Nat.le_trans hsz h))⟩,?_⟩;rw[<-HUL.out];exact vo.out
end
section
open Go.RowKit
attribute [local go_sem↓] Go.wp_at_zero Go.wp_at_succ
structure WP where
 v:Value
 u:Value
 l:List Int
structure Nl(w:World)(cc kb:Nat)(vl vw vr:Value)(us:List (Option Addr×Nat×Nat))(ps:List WP):Prop where
 bk:Ia w cc kb vl vw vr us
 F8:w.ownsRow cc 32 1 vw ps.length (ps.map (·.v))
 Q6:w.ownsRow cc 32 1 vr ps.length (ps.map (·.u))
 rv:∀p∈ps,w.ownsRow cc 3 1 p.v p.l.length (p.l.map (.int .i64))
 ru:∀p∈ps,w.ownsRow cc 3 1 p.u p.l.length (p.l.map (.int .i64))
 len:∀p∈ps,p.l.length<=1000
 lw:∀k,vl.ownBlock=some k->vw.ownBlock≠some k
 lr:∀k,vl.ownBlock=some k->vr.ownBlock≠some k
 wr:∀k,vw.ownBlock=some k->vr.ownBlock≠some k
 ap:ps.Pairwise λp q=>∀k,p.v.ownBlock=some k->q.v.ownBlock≠some k
 ua:∀p∈ps,∀u∈us,∀g,u.1=some ⟨g,0,none⟩->p.v.ownBlock≠some g
theorem Nl.below{ps:List WP}(h:Nl w cc kb vl vw vr us ps)(hb:Below w.heap.size w w'):Nl w' cc kb vl vw vr us ps:=
 ⟨h.bk.Tn (Kp.aK (F:=λ_=>False) hb) (λh=>h) (λ_ _ h=>h) (λ_ _ _ _ _ h=>h),ah h.F8 hb,ah h.Q6 hb,λp hp=>ah (h.rv p hp) hb,λp hp=>ah (h.ru p hp) hb,h.len,h.lw,h.lr,h.wr,h.ap,h.ua⟩
theorem Ia.adw{vw' vr':Value}(h:Ia w cc kb vl vw vr us)(hk:Kp F w w')(hb:w'.heap[kb]?=some (.cells #[vl,vw',vr'] 26 (0,0)))(h1:∀g,vl.ownBlock=some g->¬F g)(h2:∀g cur,w.heap[g]?=some (.cells cur 3 (0,0))->¬F g):Ia w' cc kb vl vw' vr' us:=by
 refine⟨hb,Nat.le_trans h.le hk.size,hk.own h.row h1,h.four,λi hi hp=>?_,h.small⟩;obtain⟨g,e,cur,hc,hf⟩:=h.full i hi hp;exact⟨g,e,cur,(hk.block g (bo hc) (h2 g cur hc)).trans hc,hf⟩
theorem ut{P:Program}{ops:Array Oper}{o:Oper}{a:Act}{K:Act->World->Prop}{Q:Exit->Act->World->Prop}{E:Prop}
  (zi:o.guard=none) (s x:Operand) (t:TypeId) (hop:o.op=Op.call {callee:=Callee.builtin Builtin.append,args:=#[s,x],argTypes:=#[t,t]})
  (base:Nat) (e:TypeId) (i:TypeInfo) (size:Nat) (ht:P.underlying t=some (.slice e)) (hi:P.info? e=some i) (v:Value) (n:Nat) (xs:List Value) (hs:a.eval s=v) (aJ:w.ownsRow base e size v n xs) (hx:a.eval x=.slice none 0 0)
  (h:K (a.put o.dst v) w):if Region.wanted o (yielded ops a.tmps)=true then Oper.wp P o a w K Q else E:=by
 have hw:Region.wanted o (yielded ops a.tmps)=true:=by simp[Region.wanted,zi]
 rw[if_pos hw];have hr:=run_append_owned_none (w:=w) base t o.type e i size ht hi v n xs aJ;unfold Oper.wp;simp[execOp,hop,resolve,invoke,builtin,hs,hx,hr];exact h
theorem Ts{cur:Array Value}{l:List Int}(hg:W.heap[g]?=some (.cells cur 3 (0,0)))(ht:cur.toList.take (l.length*1)=l.map (.int .i64)):∀k u,(l.map (Value.int .i64))[k]?=some u->W.cell? ((⟨g,0,none⟩:Addr).add k)=some u:=by
 grind[List.getElem?_take_of_lt,Lib.cell_of_heap,Addr.add,List.getElem?_eq_some_iff]
theorem Ic(w:World)(cc kb n:Nat)(vl vw vr v:Value)(us:List (Option Addr×Nat×Nat))(ps:List WP)(l:List Int)(h:Nl w cc kb vl vw vr us ps)(ho:w.ownsRow cc 3 1 v n (l.map (.int .i64)))(hn:n=l.length)(hl:l.length<=1000)(hp:ps.length<=1000)(nM:∀p∈ps,∀k,p.v.ownBlock=some k->v.ownBlock≠some k)(hau:∀u∈us,∀g,u.1=some ⟨g,0,none⟩->v.ownBlock≠some g):
  Calls Tryz.prog 40 #[.pointer (some ⟨kb,0,none⟩),v] w λe w'=>e=.returned (.tuple #[])/\(∃vw' vr' u,Nl w' cc kb vl vw' vr' us (ps++[⟨v,u,l⟩]))/\Kp (λk=>k=kb\/vw.ownBlock=some k\/vr.ownBlock=some k) w w':=by
 subst hn;obtain⟨aw,cw,rfl,_,_⟩:=aj h.F8;obtain⟨ar,cr,rfl,_,_⟩:=aj h.Q6;obtain⟨bv,cv,rfl,_,_⟩:=aj ho;obtain⟨i0,dl,eu,dA,eg⟩:=info_parts Tryz.infoIntT;obtain⟨j0,zg,Ku,lh,mh⟩:=info_parts Tryz.infoSl;have c1:=fS h.bk.box;have f1:=Lib.frozen_of_heap h.bk.box 1;have hcc:=h.bk.le;have QP:=bo h.bk.box;have HH:=ae h;have HO:=ae ho;have hkw:¬(Value.slice aw ps.length cw).ownBlock=some kb:=λe=>by
  obtain⟨cur,hh⟩:=i7 h.F8 e;rw[h.bk.box]at hh
  grind
 have yg:=ae hkw;clear h ho;go_enter Tryz.func40,Tryz.ntmps40;go_wp2_with (at_builtin;refine wpList_append_own_at _ rfl _ _ 24 rfl cc 32 j0 _ 1 24 Tryz.underlying24 zg Ku lh mh rfl (by decide) _ ps.length _ rfl (ah HH.out.F8 (ag _ _)) ⟨_,0,none⟩ 1 1 [.slice bv l.length cv] rfl rfl (aF _ _ (by omega) [_] _) (eI rfl) ?c3 ?c4 ?c5 ?_)
 case c3=>grind[maxLen]
 case c4=>omega
 case c5=>simp;omega
 intro v3 w3 fZ O9 _ ajU;obtain⟨a3,c3,rfl,_,_⟩:=aj fZ;have jq:=((Kp.refl _ _).alloc _).grown O9 (λk e=>.inl e);have eC:=(jq.block kb QP yg.out).trans HH.out.bk.box;have c1:=fS eC;have f1:=Lib.frozen_of_heap eC 1;have Lj:=aE (o:=1) (v:=.slice a3 (ps.length+1) c3) eC;have DT:Kp (λk=>k=kb\/(Value.slice aw ps.length cw).ownBlock=some k) w (w3.setCell ⟨kb,1,none⟩ (.slice a3 (ps.length+1) c3)):=(jq.mono (λ_ _ e=>.inr e)).setCell (.inl (.inl rfl)) _;have hnb:=λk e=>du fZ eC (by decide) k e
 have hoY:=(gX w3 kb 1 (.slice a3 (ps.length+1) c3)).own fZ (λk e=>hnb k e);have ady:∀k,(Value.slice a3 (ps.length+1) c3).ownBlock=some k->(Value.slice aw ps.length cw).ownBlock=some k\/w.heap.size<=k:=λk e=>by
  grind
 go_upto_region 1 with(fail);have Tt:(w3.setCell ⟨kb,1,none⟩ (.slice a3 (ps.length+1) c3)).heap[kb]?=some (.cells #[vl,.slice a3 (ps.length+1) c3,.slice ar ps.length cr] 26 (0,0)):=Lj;have hsY:=DT.size;clear Lj c1 f1 eC fZ O9 ajU jq;generalize w3.setCell ⟨kb,1,none⟩ (.slice a3 (ps.length+1) c3)=Y at*;have c2:=jr Tt;have f2:=Lib.frozen_of_heap Tt 2;have HI:Hid (∀b v n xs,w.ownsRow b 3 1 v n xs->Y.ownsRow b 3 1 v n xs):=ae (λb v n xs ho=>DT.own ho (λk e q=>q.elim (du ho HH.out.bk.box (by decide) k e) (fI HH.out.F8 ho (by decide) k · e)));have HRR:=ae (DT.own HH.out.Q6 (λk e q=>q.elim (du HH.out.Q6 HH.out.bk.box (by decide) k e) (λq=>HH.out.wr k q e)));have HOV:=ae (HI.out _ _ _ _ HO.out);have fR:=ae Tt;have HKY:=ae DT;have HOY:=ae hoY;have F9:=ae ady;have Tv:=bo Tt;have hkr:¬(Value.slice ar ps.length cr).ownBlock=some kb:=λe=>du HH.out.Q6 HH.out.bk.box (by decide) kb e rfl
 have FIN:Hid (∀(u:Value)(w5 w6:World)(a6:Option Addr)(c6:Nat),Below Y.heap.size Y w5->w5.ownsRow cc 3 1 u l.length (l.map (.int .i64))->w6.ownsRow cc 32 1 (.slice a6 (ps.length+1) c6) (ps.length+1) (ps.map (·.u)++[u])->Kp (λk=>(Value.slice ar ps.length cr).ownBlock=some k) w5 w6->(∀k,(Value.slice a6 (ps.length+1) c6).ownBlock=some k->(Value.slice ar ps.length cr).ownBlock=some k\/Y.heap.size<=k)->
   (∃vw' vr' u,Nl (w6.setCell ⟨kb,2,none⟩ (.slice a6 (ps.length+1) c6)) cc kb vl vw' vr' us (ps++[⟨.slice bv l.length cv,u,l⟩]))/\Kp (λk=>k=kb\/(Value.slice aw ps.length cw).ownBlock=some k\/(Value.slice ar ps.length cr).ownBlock=some k) w (w6.setCell ⟨kb,2,none⟩ (.slice a6 (ps.length+1) c6))):=ae (λu w5 w6 a6 c6 hY5 hu ho6 DU Id=>by
  have J8:=(Kp.aK hY5).trans DU (λk e=>.inl e);have qQ:=(J8.block kb Tv hkr).trans fR.out;have Ie:Kp (λk=>k=kb\/(Value.slice ar ps.length cr).ownBlock=some k) Y (w6.setCell ⟨kb,2,none⟩ (.slice a6 (ps.length+1) c6)):=(J8.mono (λ_ _ e=>.inr e)).setCell (.inl (.inl rfl)) _;have hbZ:(w6.setCell ⟨kb,2,none⟩ (.slice a6 (ps.length+1) c6)).heap[kb]?=some (.cells #[vl,.slice a3 (ps.length+1) c3,.slice a6 (ps.length+1) c6] 26 (0,0)):=aE qQ;have hkA:Kp (λk=>k=kb\/(Value.slice aw ps.length cw).ownBlock=some k\/(Value.slice ar ps.length cr).ownBlock=some k) w (w6.setCell ⟨kb,2,none⟩ (.slice a6 (ps.length+1) c6)):=(HKY.out.mono (λ_ _ e=>e.imp id .inl)).trans Ie (λk e=>.inl (e.imp id .inr));have rl:=λk e=>(HH.out.Q6.lt k e).2
  have wl:=λk e=>(HH.out.F8.lt k e).2
  have ll:=λk e=>(HH.out.bk.row.lt k e).2
  have yl:=λk e=>(HOY.out.lt k e).2
  have iZ:=λb v n xs ho=>Ie.own (HI.out b v n xs ho) (λk e q=>q.elim (du ho HH.out.bk.box (by decide) k e) (fI HH.out.Q6 ho (by decide) k · e))
  refine⟨⟨_,_,u,HH.out.bk.adw hkA hbZ (λg e q=>?_) (λg cur hg q=>?_),?_,?_,λp hp=>?_,λp hp=>?_,λp hp=>?_,λk e1 e2=>?_,λk e1 e2=>?_,λk e1 e2=>?_,?_,λp hp=>?_⟩,hkA⟩
  ·rcases q with q|q|q
   ·exact du HH.out.bk.row HH.out.bk.box (by decide) g e q
   ·exact HH.out.lw g e q
   ·exact HH.out.lr g e q
  ·rcases q with q|q|q
   ·rw[q,HH.out.bk.box]at hg;grind
   ·obtain⟨c,hh⟩:=i7 HH.out.F8 q;grind
   ·obtain⟨c,hh⟩:=i7 HH.out.Q6 q;grind
  ·rw[List.length_append,List.map_append]
   refine Ie.own HOY.out (λk e q=>?_);rcases q with q|q
   ·grind
   ·rcases F9.out k e with h1|h1
    ·exact HH.out.wr k h1 q
    grind
  ·rw[List.length_append,List.map_append]
   exact(gX w6 kb 2 _).own ho6 (λk e=>du ho6 qQ (by decide) k e)
  ·rcases List.mem_append.1 hp with hp|hp
   ·exact iZ _ _ _ _ (HH.out.rv p hp)
   ·rw[List.mem_singleton]at hp;subst hp;exact iZ _ _ _ _ HO.out
  ·rcases List.mem_append.1 hp with hp|hp
   ·exact iZ _ _ _ _ (HH.out.ru p hp)
   ·rw[List.mem_singleton]at hp;subst hp
    have lm:=DU.own hu (λk e q=>fI (ah HRR.out hY5) hu (by decide) k q e);exact(gX w6 kb 2 _).own lm (λk e=>du lm qQ (by decide) k e)
  ·rcases List.mem_append.1 hp with hp|hp
   ·exact HH.out.len p hp
   grind
  ·rcases F9.out k e2 with h1|h1
   ·exact HH.out.lw k e1 h1
   grind
  ·rcases Id k e2 with h1|h1
   ·exact HH.out.lr k e1 h1
   grind
  ·rcases Id k e2 with h2|h2
   ·rcases F9.out k e1 with h1|h1
    ·exact HH.out.wr k h1 h2
    grind
   grind
  ·rw[List.pairwise_append]
   refine⟨HH.out.ap,List.pairwise_singleton _ _,λp hp q hq=>?_⟩
   grind
  ·rcases List.mem_append.1 hp with hp|hp
   ·exact HH.out.ua p hp
   grind)
 clear Tt DT hoY ady hnb HO;rcases HOV.out.2 with⟨e,h0⟩|⟨gl,cap,cur,e,yh,tU,hcp,_,_,Dk⟩
 ·simp only [Value.slice.injEq]at e
  obtain⟨rfl,_,rfl⟩:=e;obtain rfl:=List.length_eq_zero_iff.1 h0
  go_region_law (first|(refine ut rfl _ _ 32 rfl cc 3 i0 1 Tryz.underlying32 dl (.slice none 0 0) 0 [] rfl (World.ownsRow_nil _ _ _ _) rfl ?_)|(refine aD rfl _ _ 24 rfl cc 32 j0 _ 1 24 Tryz.underlying24 zg Ku lh mh rfl (by decide) _ ps.length _ rfl (ah HRR.out ⟨rfl,rfl,rfl,by simp,λk hk=>Below.heap_alloc _ _ _ hk⟩) ⟨_,0,none⟩ 1 1 [.slice none 0 0] rfl rfl (aF _ _ (by first|rfl|simp) [_] _) (eI rfl) (by unfold maxLen;omega) (by omega) (by simp;omega) ?_;intro v6 w6 yi hg6 Id;obtain⟨a6,c6,rfl,_,_⟩:=aj yi;have DU:Kp (λk=>(Value.slice ar ps.length cr).ownBlock=some k) Y w6:=by{refine Kp.grown ?_ hg6 (λ_ e=>.inl e);exact⟨rfl,rfl,rfl,by simp,λk hk _=>Below.heap_alloc _ _ _ hk⟩};have qQ:=(DU.block kb Tv hkr).trans fR.out;have d2:=jr qQ;have e2:=Lib.frozen_of_heap qQ 2))
  all_goals
   have HF:=ae (FIN.out (.slice none 0 0) Y w6 a6 c6 (Below.refl _ _) (World.ownsRow_nil _ _ _ _) yi DU (λk e=>by rcases Id with q|q;exact .inl (q▸e);rw[q]at e;simp at e;exact .inr (by omega)));clear yi hg6 Id DU qQ;go_wp2_with fail;go_end0;exact⟨rfl,HF.out⟩
 ·cases e
  go_region_law (first|(refine aD rfl _ _ 32 rfl cc 3 i0 _ 1 8 Tryz.underlying32 dl eu dA eg rfl (by decide) (.slice none 0 0) 0 [] rfl (World.ownsRow_nil _ _ _ _) ⟨gl,0,none⟩ l.length _ (l.map (.int .i64)) rfl (by simp) (Ts tU Dk) (sG l) (by unfold maxLen;omega) (by omega) (by show cc<=Y.heap.size;omega) ?_;intro v5 w5 adz hg5 aaq;have oy:Below Y.heap.size Y w5:=⟨hg5.os,hg5.tape,hg5.output,hg5.size,λk hk=>hg5.block k hk (by simp[Value.ownBlock])⟩;have hu5:=by{simpa using adz};obtain⟨a5,c5,rfl,_,_⟩:=aj hu5;have m5:=(oy.cell Tv).trans c2;have n5:=Nat.lt_of_lt_of_le Tv oy.size)|(refine aD rfl _ _ 24 rfl cc 32 j0 _ 1 24 Tryz.underlying24 zg Ku lh mh rfl (by decide) _ ps.length _ rfl (ah HRR.out (oy.trans ((ag _ _).mono oy.size))) ⟨_,0,none⟩ 1 1 [.slice a5 l.length c5] rfl rfl (aF _ _ (by first|rfl|simp) [_] _) (eI rfl) (by unfold maxLen;omega) (by omega) (by have:=oy.size;simp;omega) ?_;intro v6 w6 yi hg6 Id;obtain⟨a6,c6,rfl,_,_⟩:=aj yi;have DU:Kp (λk=>(Value.slice ar ps.length cr).ownBlock=some k) w5 w6:=by{refine Kp.grown ?_ hg6 (λ_ e=>.inl e);exact(Kp.refl _ _).alloc _};have qQ:=(((Kp.aK oy).trans DU (λk e=>.inl e)).block kb Tv hkr).trans fR.out;have d2:=jr qQ;have e2:=Lib.frozen_of_heap qQ 2))
  all_goals
   have HF:=ae (FIN.out (.slice a5 l.length c5) w5 w6 a6 c6 oy hu5 yi DU (λk e=>by rcases Id with q|q;exact .inl (q▸e);rw[q]at e;simp at e;have:=oy.size;exact .inr (by omega)));clear yi hg6 Id DU qQ adz hg5 aaq oy hu5 m5 n5;go_wp2_with fail;go_end0;exact⟨rfl,HF.out⟩
end
section
open Go.RowKit
theorem Pa(w:World)(a b:Option Addr)(ca cb n:Nat)(l:List Int)(hn:n=l.length)(ha:Xt w a l)(hb:Xt w b l)(hl:n<=1000):
  Calls Tryz.prog 42 #[.slice a n ca,.slice b n cb] w λe w'=>e=.returned (.bool true)/\∃k,w'=w.drewN k:=by
 subst hn;have HA:=ae ha;have HB:=ae hb;clear ha hb;go_enter Tryz.func42,Tryz.ntmps42;go_wp2_with fail
 go_loopg [5] l.length (λm v5 wr=>∃i k:Nat,i+m=l.length/\v5=.int .i64 i/\wr=w.drewN k)
 case atStart=>exact⟨0,0,by omega,rfl,rfl⟩
 case round=>
  obtain⟨i,k,hi,rfl,rfl⟩:=hrel
  by_cases hlt:i<l.length
  ·have J6:(i:Int)<l.length:=by omega
   have dl:(0:Int)<=i:=by omega
   obtain⟨g1,o1,rfl,c1⟩:=HA.out i hlt;obtain⟨g2,o2,rfl,c2⟩:=HB.out i hlt;generalize l[i]=x at*;have hx:(x !=x)=false:=by simp
   go_upto_region 6 with(fail)
   go_quiet (fail)
   go_wp2_with fail
   go_roundg (l.length-(i+1))
   all_goals grind
  ·have J6:¬(i:Int)<l.length:=by omega
   go_wp2_with fail;go_ret;exact⟨rfl,_,rfl⟩
structure StI(w:World)(cc kb:Nat)(vl0 vw vr:Value)(us:List (Option Addr×Nat×Nat))(ps:List WP)(i:Nat)(vl:Value)(tK:List (Option Addr×Nat×Nat))(wr:World):Prop where
 bk:Ia wr cc kb vl vw vr tK
 F8:wr.ownsRow cc 32 1 vw ps.length (ps.map (·.v))
 rv:∀j (hj:j<ps.length),i<=j->wr.ownsRow cc 3 1 ps[j].v ps[j].l.length (ps[j].l.map (.int .i64))
 ua:∀j (hj:j<ps.length),i<=j->∀u∈tK,∀g,u.1=some ⟨g,0,none⟩->ps[j].v.ownBlock≠some g
 vl:aao vl0 vl w.heap.size
 len:tK.length=us.length+4*i
 kp:Kp (λk=>k=kb\/vl0.ownBlock=some k\/∃p∈ps,p.v.ownBlock=some k) w wr
theorem StI.next{vl0:Value}{ps:List WP}{Li:Value}{tK aar:List (Option Addr×Nat×Nat)}{wr:World}(h:StI w cc kb vl0 vw vr us ps i vl tK wr)(h0:Nl w cc kb vl0 vw vr us ps)(hi:i<ps.length)
  (hb:Ia w' cc kb Li vw vr aar) (hl:aar.length=tK.length+4) (hu:afn tK aar ps[i].v wr.heap.size) (hv:aao vl Li wr.heap.size) (hk:Kp (λk=>k=kb\/ps[i].v.ownBlock=some k\/vl.ownBlock=some k) wr w'):StI w cc kb vl0 vw vr us ps (i+1) Li aar w':=by
 have nM:=λj hj Kd=>(List.pairwise_iff_getElem.1 h0.ap) i j hi hj Kd
 refine⟨hb,hk.own h.F8 (λk e q=>?_),λj hj Kd=>hk.own (h.rv j hj (by omega)) (λk e q=>?_),λj hj Kd u hu' g e q=>?_,λk e=>?_,by rw[hl,h.len];omega,h.kp.trans hk (λk q=>?_)⟩
 ·rcases q with q|q|q
  ·exact du h.F8 h.bk.box (by decide) k e q
  ·exact fI h.F8 (h.rv i hi (Nat.le_refl _)) (by decide) k e q
  ·rcases h.vl k q with q|q
   ·exact h0.lw k q e
   ·have:=(h0.F8.lt k e).2;omega
 ·rcases q with q|q|q
  ·exact du (h.rv j hj (by omega)) h.bk.box (by decide) k e q
  ·grind
  ·exact fI h.bk.row (h.rv j hj (by omega)) (by decide) k q e
 ·rcases hu u hu' with h1|h1
  ·exact h.ua j hj (by omega) u h1 g e q
  ·rcases h1 g e with h1|h1
   ·grind
   ·have:=(h0.rv ps[j] (List.getElem_mem hj)).lt g q
    have:=h.kp.size;omega
 ·rcases hv k e with q|q
  ·exact h.vl k q
  ·have:=h.kp.size;omega
 ·rcases q with q|q|q
  ·omega
  ·grind
  ·exact(h.vl k q).imp (λq=>.inr (.inl q)) id
theorem Ig(w:World)(cc kb:Nat)(vl vw vr:Value)(us:List (Option Addr×Nat×Nat))(ps:List WP)(h:Nl w cc kb vl vw vr us ps)(hp:ps.length<=1000)(hus:us.length<=90000000):
  Calls Tryz.prog 14 #[.pointer (some ⟨kb,0,none⟩)] w λe w'=>e=.returned (.bool true)/\(∃Li tK,Ia w' cc kb Li (.slice none 0 0) (.slice none 0 0) tK/\tK.length=us.length+4*ps.length)/\Kp (λk=>k=kb\/vl.ownBlock=some k\/∃p∈ps,p.v.ownBlock=some k) w w':=by
 obtain⟨aw,cw,rfl,_,_⟩:=aj h.F8;obtain⟨ar,cr,rfl,_,_⟩:=aj h.Q6;obtain⟨-,c1,c2⟩:=GK h.bk.box;have HH:=ae h;clear h;go_enter Tryz.func14,Tryz.ntmps14;go_wp2_with fail
 go_loopg [3,4] ps.length (λm v3 v4 wr=>∃i k:Nat,i+m=ps.length/\v3=.bool true/\v4=.int .i64 i/\wr=w.drewN k)
 case atStart=>exact⟨0,0,by omega,rfl,rfl,rfl⟩
 case round=>
  obtain⟨i,k,hi,rfl,rfl,rfl⟩:=hrel
  by_cases hlt:i<ps.length
  ·have J6:(i:Int)<ps.length:=by omega
   have dl:(0:Int)<=i:=by omega
   obtain⟨gw,_,e,_,_,_,_,DV⟩:=aR HH.out.F8 (by omega)
   cases e
   obtain⟨gr,_,e,_,_,_,_,Tw⟩:=aR HH.out.Q6 (by omega)
   cases e
   have x1:=(DV i (by omega)).trans (show(ps.map (·.v))[i]?=some ps[i].v by simp[hlt]);have x2:=(Tw i (by omega)).trans (show(ps.map (·.u))[i]?=some ps[i].u by simp[hlt]);have hv:=HH.out.rv ps[i] (List.getElem_mem hlt);have hu:=HH.out.ru ps[i] (List.getElem_mem hlt);have hl:=HH.out.len ps[i] (List.getElem_mem hlt);generalize ps[i]=p at*;obtain⟨av,cv,e1,_,_⟩:=aj hv;obtain⟨au,cu,e2,_,_⟩:=aj hu;rw[e1]at x1 hv;rw[e2]at x2 hu;obtain⟨Y,hY⟩:∃Y,Y=w.drewN k:=⟨_,rfl⟩;rw[<-hY];have y1:Y.cell? ⟨kb,1,none⟩=some (.slice (some ⟨gw,0,none⟩) ps.length cw):=by rw[hY];exact c1
   have y2:Y.cell? ⟨kb,2,none⟩=some (.slice (some ⟨gr,0,none⟩) ps.length cr):=by rw[hY];exact c2
   have z1:Y.cell? ⟨gw,i,none⟩=some (.slice av p.l.length cv):=by rw[hY];exact x1
   have z2:Y.cell? ⟨gr,i,none⟩=some (.slice au p.l.length cu):=by rw[hY];exact x2
   have HSI:Hid (∀q,Calls Tryz.prog 42 #[.slice av p.l.length cv,.slice au p.l.length cu] (Y.drewN q) λe w'=>e=.returned (.bool true)/\∃m,w'=Y.drewN m):=ae (λq=>Calls.mono (Pa (Y.drewN q) av au cv cu p.l.length p.l rfl (by rw[hY];exact uu hv rfl) (by rw[hY];exact uu hu rfl) hl) (λ_ _ ⟨h1,m,h2⟩=>⟨h1,q+m,by rw[h2,World.drewN_drewN]⟩));have HY:=ae hY;clear DV Tw hv hu e1 e2 hY x1 x2;go_upto_region 5 with(fail)
   go_quiet (first|(go_at_call 42;exact HSI.out _))
   go_wp2_with fail
   go_roundg (ps.length-(i+1))
   case measure=>omega
   case rel=>exact⟨i+1,_,by omega,rfl,by go_num,by rw[HY.out,World.drewN_drewN]⟩
  ·have J6:¬(i:Int)<ps.length:=by omega
   obtain⟨Y,hY⟩:∃Y,Y=w.drewN k:=⟨_,rfl⟩;rw[<-hY];have y1:Y.cell? ⟨kb,1,none⟩=some (.slice aw ps.length cw):=by rw[hY];exact c1
   have fR:=ae (HH.out.below (below_drewN (Below.refl _ _) k));have HKY:Hid (Kp (λk=>k=kb\/vl.ownBlock=some k\/∃p∈ps,p.v.ownBlock=some k) w Y):=ae (by rw[hY];exact(Kp.refl _ _).drewN k);rw[<-hY]at fR;have hYs:Y.heap.size=w.heap.size:=by rw[hY];rfl
   have lj:Hid (StI w cc kb vl (.slice aw ps.length cw) (.slice ar ps.length cr) us ps 0 vl us Y):=ae ⟨fR.out.bk,fR.out.F8,λj hj _=>fR.out.rv _ (List.getElem_mem hj),λj hj _ u hu g e=>fR.out.ua _ (List.getElem_mem hj) u hu g e,λk e=>.inl e,by omega,HKY.out⟩;clear hY c1 c2 HKY;go_wp2_with fail
   go_loopg [6] ps.length (λm v6 wr=>∃(i:Nat)(Li:Value)(tK:List (Option Addr×Nat×Nat)),i+m=ps.length/\v6=.int .i64 i/\StI w cc kb vl (.slice aw ps.length cw) (.slice ar ps.length cr) us ps i Li tK wr)
   case atStart=>exact⟨0,vl,us,by omega,rfl,lj.out⟩
   case round=>
    obtain⟨i,Li,tK,hi,rfl,hS⟩:=hrel;have y1:=fS hS.bk.box
    by_cases hlt:i<ps.length
    ·have J6:(i:Int)<ps.length:=by omega
     have dl:(0:Int)<=i:=by omega
     obtain⟨gw,_,e,_,_,_,_,DV⟩:=aR hS.F8 (by omega)
     cases e
     have x1:=(DV i (by omega)).trans (show(ps.map (·.v))[i]?=some ps[i].v by simp[hlt]);have hv:=hS.rv i hlt (Nat.le_refl _);have hl:=HH.out.len ps[i] (List.getElem_mem hlt);have HIN:=ae (Tq wr cc kb cc ps[i].l.length Li _ _ ps[i].v tK _ hS.bk hv hS.bk.le (λj hj _ g e=>hS.ua i hlt (Nat.le_refl _) tK[j] (List.getElem_mem hj) g e) (by omega) (by have:=hS.len;omega));have HS:=ae hS;obtain⟨av,cv,e1,_,_⟩:=aj hv;have HE:=ae e1;rw[e1]at x1 HIN;clear DV hv hS e1;go_wp2_with fail;refine HIN.out.mono ?_;rintro e w' ⟨rfl,⟨vl2,us2,hb,kq,hu2,oR⟩,hk⟩;rw[<-HE.out]at hu2 hk;have HN:=ae (HS.out.next HH.out hlt hb kq hu2 oR hk);clear hb kq hu2 oR hk HIN y1 x1;go_wp2_with fail
     go_roundg (ps.length-(i+1))
     case measure=>omega
     case rel=>exact⟨i+1,vl2,us2,by omega,by go_num,HN.out⟩
    ·have J6:¬(i:Int)<ps.length:=by omega
     obtain rfl:i=ps.length:=by omega
     have f1:=Lib.frozen_of_heap hS.bk.box 1;have y2:=jr hS.bk.box;have f2:=Lib.frozen_of_heap hS.bk.box 2;have HS:=ae hS;clear hS;go_wp2_with fail;go_ret;have Ie:=(gX wr kb 1 (.slice none 0 0)).trans (gX _ kb 2 (.slice none 0 0)) (λk e=>.inl e);have hbZ:=aE (o:=2) (v:=.slice none 0 0) (aE (o:=1) (v:=.slice none 0 0) HS.out.bk.box);refine⟨rfl,⟨Li,tK,HS.out.bk.adw Ie hbZ (λg e q=>du HS.out.bk.row HS.out.bk.box (by decide) g e q) (λg cur hg q=>?_),HS.out.len⟩,HS.out.kp.trans Ie (λk e=>.inl (.inl e))⟩;rw[q,HS.out.bk.box]at hg;injection hg with hg;injection hg with _ hg;exact absurd hg (by decide)
