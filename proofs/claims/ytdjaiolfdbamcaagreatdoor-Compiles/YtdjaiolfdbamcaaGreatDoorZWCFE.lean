/- The reader of guards in memory: its box, the row of its cuts, the cuts; what it leaves alone. -/
import Derived.Test.YtdjaiolfdbamcaaGreatDoorZWCFC
set_option maxRecDepth 20000
set_option maxHeartbeats 4000000
namespace Go.Proofs.YtdjaiolfdbamcaaGreatDoor
variable {c g gc i rb tb:Nat}{W W' w w':World}{cs:List (List Int)}{sv:List Value}
section
open Go.RowKit
def akK(c:Nat)(w:World)(k:Nat):Prop:=c<=k/\∃cur T,w.heap[k]?=some (.cells cur T (0,0))/\(T=3\/T=32)
def KR(c:Nat)(w w':World):Prop:=Kp (akK c w) w w'
theorem KR.refl(c:Nat)(w:World):KR c w w:=Kp.refl _ _
theorem KR.aK(h:Below w.heap.size w w'):KR c w w':=Kp.aK h
theorem KR.trans{w1 w2:World}(h:KR c w w1)(k:KR c w1 w2):KR c w w2:=by
 refine Kp.trans h k (λb hb=>?_)
 by_cases hl:b<w.heap.size
 ·by_cases hF:akK c w b
  ·grind
  ·obtain⟨h1,cur,T,h2,h3⟩:=hb
   exact .inl ⟨h1,cur,T,(h.block b hl hF).symm.trans h2,h3⟩
 omega
theorem KR.toBelow(h:KR c w w')(hc:c<=w.heap.size):Below c w w':=Kp.toBelow h (λ_ hk=>hk.1) hc
theorem KR.box{b T:Nat}{cs:Array Value}(h:KR c w w')(hb:w.heap[b]?=some (.cells cs T (0,0)))(hT:T≠3/\T≠32):w'.heap[b]?=some (.cells cs T (0,0)):=by
 refine(Kp.block h b (Array.getElem?_eq_some_iff.1 hb).1 (λhF=>?_)).trans hb;obtain⟨_,cur,T',h2,h3⟩:=hF
 grind
def yu(l:List Int)(v:Value):Rw:=⟨3,1,l.length,v,l.map (.int .i64)⟩
def i9(cs:List (List Int))(sv:List Value):List Rw:=List.zipWith yu cs sv
theorem o7:∀r∈i9 cs sv,r.e=3:=by
 unfold i9
 induction cs generalizing sv with
 |nil=>simp
 |cons a t ih=>
  cases sv with
  |nil=>simp
  |cons b u=>
   intro r hr;rw[List.zipWith_cons_cons,List.mem_cons]at hr;rcases hr with rfl|hr
   ·rfl
   grind
theorem rm(h1:i<cs.length)(h2:i<sv.length):(i9 cs sv)[i]?=some (yu cs[i] sv[i]):=by
 grind[List.getElem?_eq_getElem,i9]
theorem aap(l:List Int)(v:Value):i9 (cs.set i l) (sv.set i v)=(i9 cs sv).set i (yu l v):=by
 unfold i9
 induction cs generalizing sv i with
 |nil=>simp
 |cons a t ih=>
  cases sv with
  |nil=>simp
  |cons b u=>
   cases i<;>simp_all
structure mS(W:World)(c rb tb gc:Nat)(cs:List (List Int))(sv:List Value):Prop where
 box:W.heap[rb]?=some (.cells #[.pointer (some ⟨tb,0,none⟩),.slice (some ⟨gc,0,none⟩) cs.length cs.length] 216 (0,0))
 row:W.heap[gc]?=some (.cells sv.toArray 32 (0,0))
 low:c<=gc
 len:sv.length=cs.length
 mem:dr W c (i9 cs sv)
theorem mS.below(h:mS W c rb tb gc cs sv)(hb:Below W.heap.size W W'):mS W' c rb tb gc cs sv:=
 ⟨(hb.block rb (Array.getElem?_eq_some_iff.1 h.box).1).trans h.box,(hb.block gc (Array.getElem?_eq_some_iff.1 h.row).1).trans h.row,h.low,h.len,h.mem.below hb⟩
theorem mS.put{m:Nat}{xs:List Int}{v':Value}(h:mS W c rb tb gc cs sv)(hi:i<cs.length)(hs:i<sv.length)(hg:W.grownBy W' sv[i].ownBlock)(ho:W'.ownsRow c 3 1 v' m (cs[i].map (.int .i64)++xs.map (.int .i64)))(hm:m=cs[i].length+xs.length)(bu:v'.ownBlock=sv[i].ownBlock\/v'.ownBlock=some W.heap.size):
  mS (W'.setCell ⟨gc,i,none⟩ v') c rb tb gc (cs.set i (cs[i]++xs)) (sv.set i v')/\KR c W (W'.setCell ⟨gc,i,none⟩ v'):=by
 have hri:=rm hi hs;have aJ:W.ownsRow c 3 1 sv[i] cs[i].length (cs[i].map (.int .i64)):=h.mem.own i _ hri;have hkg:Kp (λk=>sv[i].ownBlock=some k) W W':=⟨hg.os,hg.tape,hg.output,hg.size,λk hk hn=>hg.block k hk (λe=>hn e.symm)⟩;have zF:=cO aJ h.box (by decide);have kA:=cO aJ h.row (by decide);have bH:=(hkg.block rb (Array.getElem?_eq_some_iff.1 h.box).1 zF).trans h.box;have dw:=(hkg.block gc (Array.getElem?_eq_some_iff.1 h.row).1 kA).trans h.row;have hrg:rb≠gc:=by
  intro e;have:=h.box;rw[e,h.row]at this;simp at this
 have Gt:Kp (λk=>k=gc) W' (W'.setCell ⟨gc,i,none⟩ v'):=(Kp.refl (λk=>k=gc) W').setCell (.inl rfl) _
 have LC:dr W' c ((i9 cs sv).set i (yu (cs[i]++xs) v')):=h.mem.grown hri hg (by
  show W'.ownsRow c 3 1 v' (cs[i]++xs).length ((cs[i]++xs).map (.int .i64))
  grind) bu
 have hint:∀(L:List Rw),dr W' c L->(∀r∈L,r.e=3)->∀k,mj L k->¬k=gc:=by
  intro L hL hE k hf e;obtain⟨j,r,hr,hk⟩:=hf;have j9:=hL.own j r hr;have he:=hE r (List.mem_of_getElem? hr);rw[e]at hk;exact cO j9 dw (by omega) hk
 refine⟨⟨?_,?_,h.low,by simp[h.len],?_⟩,?_⟩
 ·rw[List.length_set]
  exact(Gt.block rb (Array.getElem?_eq_some_iff.1 bH).1 hrg).trans bH
 ·rw[aE dw];simp
 ·rw[aap]
  refine LC.kept Gt (hint _ LC (λr hr=>?_));rcases List.mem_or_eq_of_mem_set hr with h1|h1
  ·exact o7 r h1
  ·rw[h1];rfl
 ·refine Kp.trans (hkg.mono (λk hk e=>?_)) Gt (λk e=>?_)
  ·refine⟨(aJ.lt k e).1,?_⟩
   rcases aJ.2 with⟨hn,_⟩|⟨g,cap,cur,hv,_,Pu,_⟩
   ·rw[hn]at e;cases e
   ·rw[hv]at e
    simp[Value.ownBlock]at e
    grind
  ·rw[e]
   exact .inl ⟨h.low,_,_,h.row,.inr rfl⟩
end
section
open Go.RowKit
attribute [local go_sem↓] Go.wp_at_zero Go.wp_at_succ
theorem aaX{B n:Nat}{l:List Int}(h:w.ownsRow B 3 1 (.slice (some ⟨g,0,none⟩) n n) n (l.map (.int .i64)))(hn:n=l.length):∀j u,(l.map (Value.int .i64))[j]?=some u->w.cell? ((⟨g,0,none⟩:Addr).add j)=some u:=by
 subst hn
 by_cases h0:0<l.length
 ·obtain⟨g',cap,e,_,hg,_,_,hc⟩:=aR h h0
  cases e
  refine ints_at (λi hi=>?_) hg (Below.refl _ _)
  grind
 grind
theorem NE{k o:Nat}{a b c d:Value}(h:k≠g):((((W.setCell ⟨g,0,none⟩ a).setCell ⟨g,1,none⟩ b).setCell ⟨g,2,none⟩ c).setCell ⟨g,3,none⟩ d).cell? ⟨k,o,none⟩=W.cell? ⟨k,o,none⟩:=by
 simp_all[bX]
theorem E6(w:World)(c rb tb gc:Nat)(cs:List (List Int))(sv:List Value)(ws:Bool)(nz oz iz:Hx.Tok)(q:Cx.Q)(h:mS w c rb tb gc cs sv)(hcw:c<=w.heap.size)(DV:q.which<cs.length)(lP:cs[q.which].length<=100000)(hqn:-100000<=q.num/\q.num<=100000)
  (HQ:Hid (∀Y,Below w.heap.size w Y->Calls Tryz.prog 214 #[.pointer (some ⟨tb,0,none⟩),.agg (gW ws nz oz iz).toArray] Y λe w'=>e=.returned (qV q.which q.same q.num q.bF)/\Below Y.heap.size Y w')):
  Calls Tryz.prog 208 #[.pointer (some ⟨rb,0,none⟩),.agg (gW ws nz oz iz).toArray] w λe w'=>∃mN,e=.returned (.func (.func 227) #[qV q.which q.same q.num q.bF] #[])/\mS w' c rb tb gc (cs.set q.which (cs[q.which]++q.jh)) mN/\KR c w w':=by
 have hb:=h.box;have hrb:=(Array.getElem?_eq_some_iff.1 hb).1;have HH:=ae h;have hws:q.which<sv.length:=by rw[h.len];exact DV
 have Ul:=(Array.getElem?_eq_some_iff.1 h.row).1;have hrg:rb≠gc:=by
  intro e;have:=h.box;rw[e,h.row]at this;simp at this
 obtain⟨n,hn⟩:∃n,n=cs.length:=⟨_,rfl⟩;rw[<-hn]at hb;have HN:=ae hn;have tI:(q.which:Int)<n:=by omega
 have Ku:(0:Int)<=q.which:=by omega
 clear h;have HB:Hid (Below w.heap.size w (w.alloc (.cells (gW ws nz oz iz).toArray 307))):=ae (ag _ _);have hz:(w.alloc (.cells (gW ws nz oz iz).toArray 307)).heap.size=w.heap.size+1:=by simp
 have rE:=ae (heap_alloc_new w (.cells (gW ws nz oz iz).toArray 307));obtain⟨X,hX⟩:∃X,X=w.alloc (.cells (gW ws nz oz iz).toArray 307):=⟨_,rfl⟩;rw[<-hX]at HB hz rE;have tW:Hid (∀Y,Below X.heap.size X Y->Calls Tryz.prog 214 #[.pointer (some ⟨tb,0,none⟩),.agg (gW ws nz oz iz).toArray] Y λe w'=>e=.returned (qV q.which q.same q.num q.bF)/\Below Y.heap.size Y w'):=ae (λY hY=>HQ.out Y (HB.out.trans (hY.mono (by omega))));have qN:w.heap.size<X.heap.size:=by omega
 have hwX:rb<X.heap.size:=by omega
 have xw:X.cell? ⟨rb,0,none⟩=some (.pointer (some ⟨tb,0,none⟩)):=(HB.out.cell hrb).trans (Lib.cell_of_heap hb 0);have HRB:=ae ((HB.out.block rb hrb).trans hb);obtain⟨y0,y1,y2,y3,y4,y5,y6,y7,y8,y9,Xv,y11,y12⟩:=iw rE.out;rw[show(gW ws nz oz iz).toArray=#[.bool ws,.int .i64 (ao nz.k),.string nz.s,.int .i64 nz.n,.int .i64 nz.line,.int .i64 (ao oz.k),.string oz.s,.int .i64 oz.n,.int .i64 oz.line,.int .i64 (ao iz.k),.string iz.s,.int .i64 iz.n,.int .i64 iz.line]from rfl]at*;go_enter Tryz.func208,Tryz.ntmps208;go_upto_region 1 with(fail);rw[<-hX];clear hX;unfold qV at tW;have HZ:=ae hz;have aqk:rb≠X.heap.size:=by omega
 have uB:w.heap.size≠X.heap.size:=by omega
 clear hz
 go_cut [5]from 6 to 31 (λv5 wx=>∃qb,v5=.pointer (some ⟨qb,0,none⟩)/\Below X.heap.size X wx/\X.heap.size<=qb/\wx.heap[qb]?=some (.cells #[.int .i64 q.which,.bool q.same,.int .i64 q.num,.bool q.bF] 314 (0,0)))
 case first=>
  go_region_held3 (λY=>Y.cell? ⟨rb,0,none⟩=some (.pointer (some ⟨tb,0,none⟩))/\Y.cell? ⟨w.heap.size,0,none⟩=some (.bool ws)/\Y.cell? ⟨w.heap.size,1,none⟩=some (.int .i64 (ao nz.k))/\Y.cell? ⟨w.heap.size,2,none⟩=some (.string nz.s)/\Y.cell? ⟨w.heap.size,3,none⟩=some (.int .i64 nz.n)/\Y.cell? ⟨w.heap.size,4,none⟩=some (.int .i64 nz.line)/\Y.cell? ⟨w.heap.size,5,none⟩=some (.int .i64 (ao oz.k))/\Y.cell? ⟨w.heap.size,6,none⟩=some (.string oz.s)/\Y.cell? ⟨w.heap.size,7,none⟩=some (.int .i64 oz.n)/\Y.cell? ⟨w.heap.size,8,none⟩=some (.int .i64 oz.line)/\Y.cell? ⟨w.heap.size,9,none⟩=some (.int .i64 (ao iz.k))/\Y.cell? ⟨w.heap.size,10,none⟩=some (.string iz.s)/\Y.cell? ⟨w.heap.size,11,none⟩=some (.int .i64 iz.n)/\Y.cell? ⟨w.heap.size,12,none⟩=some (.int .i64 iz.line))
   (first|go_keep|(with_reducible exact⟨(NE aqk).trans (lh.trans xw),(NE uB).trans ((ep 0).trans y0),(NE uB).trans ((ep 1).trans y1),(NE uB).trans ((ep 2).trans y2),(NE uB).trans ((ep 3).trans y3),(NE uB).trans ((ep 4).trans y4),(NE uB).trans ((ep 5).trans y5),(NE uB).trans ((ep 6).trans y6),(NE uB).trans ((ep 7).trans y7),(NE uB).trans ((ep 8).trans y8),(NE uB).trans ((ep 9).trans y9),(NE uB).trans ((ep 10).trans Xv),(NE uB).trans ((ep 11).trans y11),(NE uB).trans ((ep 12).trans y12)⟩)|(with_reducible exact⟨lh.trans xw,(ep 0).trans y0,(ep 1).trans y1,(ep 2).trans y2,(ep 3).trans y3,(ep 4).trans y4,(ep 5).trans y5,(ep 6).trans y6,(ep 7).trans y7,(ep 8).trans y8,(ep 9).trans y9,(ep 10).trans Xv,(ep 11).trans y11,(ep 12).trans y12⟩))
   (first|(go_at_call 214;refine(tW.out _ ?_).mono ?_;(with_reducible exact cZ _ _);rintro e w1 ⟨rfl,bH⟩;have gf:=Below.trans (cZ X (.cells #[.int .i64 0,.bool false,.int .i64 0,.bool false] 314)) (bH.mono (cZ X (.cells #[.int .i64 0,.bool false,.int .i64 0,.bool false] 314)).size);have ep:=λo=>gf.cell (p:=⟨w.heap.size,o,none⟩) qN;have lh:=gf.cell (p:=⟨rb,0,none⟩) hwX;have J4:w1.heap[X.heap.size]?=some (.cells #[.int .i64 0,.bool false,.int .i64 0,.bool false] 314 (0,0)):=(bH.block X.heap.size (by simp)).trans (heap_alloc_new X _);have r0:=dt J4;have t0:=Lib.frozen_of_heap J4 0;have r1:=fS J4;have t1:=Lib.frozen_of_heap J4 1;have r2:=jr J4;have t2:=Lib.frozen_of_heap J4 2;have r3:=rQ J4;have t3:=Lib.frozen_of_heap J4 3)|(go_at_call 214;refine(tW.out _ ?_).mono ?_;(with_reducible exact bm _);rintro e w1 ⟨rfl,bH⟩;have gf:=Below.trans (bm X) (bH.mono (bm X).size);have ep:=λo=>gf.cell (p:=⟨w.heap.size,o,none⟩) qN;have lh:=gf.cell (p:=⟨rb,0,none⟩) hwX))
  all_goals first
   |(have hQ:=Nv (a:=.int .i64 q.which) (b:=.bool q.same) (c:=.int .i64 q.num) (d:=.bool q.bF) J4;have hZ:Below X.heap.size X (fq w1 X.heap.size (.int .i64 q.which) (.bool q.same) (.int .i64 q.num) (.bool q.bF)):=gf.trans ((adF (Kp.refl _ _) (.inl rfl) _ _ _ _).toBelow (λk e=>by omega) gf.size);go_wp2_with fail;go_meet;case rel=>exact⟨X.heap.size,rfl,hZ,Nat.le_refl _,hQ⟩)
   |(have hQ:=heap_alloc_new w1 (.cells #[.int .i64 q.which,.bool q.same,.int .i64 q.num,.bool q.bF] 314);have hZ:Below X.heap.size X (w1.alloc (.cells #[.int .i64 q.which,.bool q.same,.int .i64 q.num,.bool q.bF] 314)):=gf.alloc gf.size _;go_wp2_with fail;go_meet;case rel=>exact⟨w1.heap.size,rfl,hZ,gf.size,hQ⟩)
 case rest=>
  obtain⟨qb,rfl,hZ,ND,hQ⟩:=hcut;obtain⟨Z,rfl⟩:∃Z,Z=wc:=⟨wc,rfl⟩;have hbz:=HB.out.trans (hZ.mono (by omega));have nV:=ae hbz;have hsz:=hbz.size;have hqZ:=(Array.getElem?_eq_some_iff.1 hQ).1;have Xx:=ae (HH.out.below hbz);have HQZ:=ae hQ;have hrZ:rb<Z.heap.size:=by omega
  have hgZ:gc<Z.heap.size:=by omega
  have hqg:qb≠gc:=by omega
  have z1:Z.cell? ⟨rb,1,none⟩=some (.slice (some ⟨gc,0,none⟩) n n):=by rw[HN.out];exact Lib.cell_of_heap Xx.out.box 1
  have af9:Z.cell? ⟨gc,q.which,none⟩=some sv[q.which]:=(Lib.cell_of_heap Xx.out.row q.which).trans (by simp);have D6:Z.ownsRow c 3 1 sv[q.which] cs[q.which].length (cs[q.which].map (.int .i64)):=Xx.out.mem.own q.which _ (rm DV hws);obtain⟨aw,cw,Xj,_,_⟩:=aj D6;obtain⟨nl,qf⟩:∃nl,nl=cs[q.which].length:=⟨_,rfl⟩;obtain⟨xs,Xr⟩:∃xs,xs=cs[q.which]:=⟨_,rfl⟩;rw[<-qf]at Xj D6;rw[<-Xr]at D6;rw[Xj]at af9 D6;have s0:=af9;have HSV:=ae Xj;have HXS:=ae Xr.symm;have Od:Hid (nl=xs.length):=ae (by grind);have RQ:=ae D6;obtain⟨q0,q1,q2,q3⟩:=nE hQ;obtain⟨m,hm⟩:∃m,m=q.jh.length:=⟨_,rfl⟩;have Ra:m<=2:=by rw[hm];unfold Cx.Q.jh;split<;>simp
  have Xy:=ae hm;have CU:Hid (∀Y,Calls Tryz.prog 226 #[.agg #[.int .i64 q.which,.bool q.same,.int .i64 q.num,.bool q.bF]] Y λe w'=>∃g,e=.returned (.slice (some ⟨g,0,none⟩) m m)/\w'.ownsRow Y.heap.size 3 1 (.slice (some ⟨g,0,none⟩) m m) m (q.jh.map (.int .i64))/\Below Y.heap.size Y w'):=ae (λY=>by rw[hm];exact SW Y q hqn);obtain⟨i0,dl,eu,dA,eg⟩:=info_parts Tryz.infoIntT;have iq:nl+m<=maxLen:=by unfold maxLen;omega
  have qP:(nl+m)*8<=140737488355328:=by omega
  clear hbz hZ hQ af9 D6 Xj qf Xr hm y0 y1 y2 y3 y4 y5 y6 y7 y8 y9 Xv y11 y12 xw hb tW;go_upto_region 2 with(fail);refine wp_region_held_drew (S:=λY=>Y.cell? ⟨rb,1,none⟩=some (.slice (some ⟨gc,0,none⟩) n n)/\Y.cell? ⟨qb,0,none⟩=some (.int .i64 q.which)/\Y.cell? ⟨qb,1,none⟩=some (.bool q.same)/\Y.cell? ⟨qb,2,none⟩=some (.int .i64 q.num)/\Y.cell? ⟨qb,3,none⟩=some (.bool q.bF)) (by kernel_rfl) ⟨z1,q0,q1,q2,q3⟩ (λhHeld=>?_);refine wpAnyH_take (i:=0) (v:=?_) rfl (by kernel_rfl) (by kernel_rfl) (by kernel_rfl) (λ_ _ _ h=>h) (Or.inl ⟨by rfl,?_⟩) hHeld ?_;rotate_left
  ·intro w gO;(try dsimp only at gO);go_simp;(try with_reducible rfl)
  (try simp only [Act.put,qA,qB,qC,qD,qE])
  refine wpAnyH_take (i:=1) (v:=?_) rfl (by kernel_rfl) (by kernel_rfl) (by kernel_rfl) (λ_ _ _ h=>h) (Or.inl ⟨by rfl,?_⟩) hHeld ?_;rotate_left
  ·intro w gO;(try dsimp only at gO);go_simp;(try with_reducible rfl)
  (try simp only [Act.put,qA,qB,qC,qD,qE,qF])
  refine wpAnyH_take (i:=2) (v:=?_) rfl (by kernel_rfl) (by kernel_rfl) (by kernel_rfl) (λ_ _ _ h=>h) (Or.inl ⟨by rfl,?_⟩) hHeld ?_;rotate_left
  ·intro w gO;(try dsimp only at gO);go_simp;(try with_reducible rfl)
  (try simp only [Act.put,qA,qB,qC,qD,qE,qF])
  refine wpAnyH_take (i:=3) (v:=?_) rfl (by kernel_rfl) (by kernel_rfl) (by kernel_rfl) (λ_ _ _ h=>h) (Or.inl ⟨by rfl,?_⟩) hHeld ?_;rotate_left
  ·intro w gO;(try dsimp only at gO);go_simp;(try with_reducible rfl)
  (try simp only [Act.put,qA,qB,qC,qD,qE,qF])
  refine wpAnyH_take (i:=4) (v:=?_) rfl (by kernel_rfl) (by kernel_rfl) (by kernel_rfl) (λ_ _ _ h=>h) (Or.inl ⟨by rfl,?_⟩) hHeld ?_;rotate_left
  ·intro w gO;(try dsimp only at gO);go_simp;(try with_reducible rfl)
  (try simp only [Act.put,qA,qB,qC,qD,qE,qF])
  refine wpAnyH_take (i:=5) (v:=?_) rfl (by kernel_rfl) (by kernel_rfl) (by kernel_rfl) (λ_ _ _ h=>h) (Or.inl ⟨by rfl,?_⟩) hHeld ?_;rotate_left
  ·intro w gO;(try dsimp only at gO);go_simp;(try with_reducible rfl)
  (try simp only [Act.put,qA,qB,qC,qD,qE,qF])
  refine wpAnyH_take (i:=6) (v:=?_) rfl (by kernel_rfl) (by kernel_rfl) (by kernel_rfl) (λ_ _ _ h=>h) (Or.inl ⟨by rfl,?_⟩) hHeld ?_;rotate_left
  ·intro w gO;(try dsimp only at gO);go_simp;(try with_reducible rfl)
  (try simp only [Act.put,qA,qB,qC,qD,qE,qF])
  refine wpAnyH_take (i:=7) (v:=?_) rfl (by kernel_rfl) (by kernel_rfl) (by kernel_rfl) (λ_ _ _ h=>h) (Or.inl ⟨by rfl,?_⟩) hHeld ?_;rotate_left
  ·intro w gO;(try dsimp only at gO);go_simp;(try with_reducible rfl)
  (try simp only [Act.put,qA,qB,qC,qD,qE,qF])
  refine wpAnyH_take (i:=8) (v:=?_) rfl (by kernel_rfl) (by kernel_rfl) (by kernel_rfl) (λ_ _ _ h=>h) (Or.inl ⟨by rfl,?_⟩) hHeld ?_;rotate_left
  ·intro w gO;(try dsimp only at gO);go_simp;(try with_reducible rfl)
  (try simp only [Act.put,qA,qB,qC,qD,qE,qF])
  refine wpAnyH_take (i:=9) (v:=?_) rfl (by kernel_rfl) (by kernel_rfl) (by kernel_rfl) (λ_ _ _ h=>h) (Or.inl ⟨by rfl,?_⟩) hHeld ?_;rotate_left
  ·intro w gO;(try dsimp only at gO);go_simp;(try with_reducible rfl)
  (try simp only [Act.put,qA,qB,qC,qD,qE,qF])
  refine wpAnyH_take (i:=10) (v:=?_) rfl (by kernel_rfl) (by kernel_rfl) (by kernel_rfl) (λ_ _ _ h=>h) (Or.inl ⟨by rfl,?_⟩) hHeld ?_;rotate_left
  ·intro w gO;(try dsimp only at gO);go_simp;(try with_reducible rfl)
  (try simp only [Act.put,qA,qB,qC,qD,qE,qF])
  refine wpAnyH_take (i:=11) (v:=?_) rfl (by kernel_rfl) (by kernel_rfl) (by kernel_rfl) (λ_ _ _ h=>h) (Or.inl ⟨by rfl,?_⟩) hHeld ?_;rotate_left
  ·intro w gO;(try dsimp only at gO);go_simp;(try with_reducible rfl)
  (try simp only [Act.put,qA,qB,qC,qD,qE,qF])
  refine wpAnyH_take (i:=12) (v:=?_) rfl (by kernel_rfl) (by kernel_rfl) (by kernel_rfl) (λ_ _ _ h=>h) (Or.inl ⟨by rfl,?_⟩) hHeld ?_;rotate_left
  ·intro w gO;(try dsimp only at gO);go_simp;(try with_reducible rfl)
  (try simp only [Act.put,qA,qB,qC,qD,qE,qF])
  refine wpAnyH_take (i:=14) (v:=?_) rfl (by kernel_rfl) (by kernel_rfl) (by kernel_rfl) (λ_ _ _ h=>h) (Or.inl ⟨by rfl,?_⟩) hHeld ?_;rotate_left
  ·intro w gO;(try dsimp only at gO);go_simp;(try with_reducible rfl)
  (try simp only [Act.put,qA,qB,qC,qD,qE,qF])
  refine wpAnyH_ready (rs:=[13,15]) (by kernel_rfl) (by simp) ?_;refine AllReadyH.cons rfl (λK hK=>?_) (AllReadyH.cons rfl (λK hK=>?_) AllReadyH.nil)
  focus
   go_simp
   refine hK.out _ _ hHeld (λhHeld=>?_)
   (try simp only [Act.put,qA,qB,qC,qD,qE,qF])
   refine wpAnyH_ready (rs:=[15]) (by kernel_rfl) (by simp) ?_;refine AllReadyH.cons rfl (λK hK=>?_) AllReadyH.nil
   go_simp
   refine(CU.out _).mono ?_;rintro e w1 ⟨gq,rfl,hoq,bH⟩;have gf:=(bm Z).trans (bH.mono (bm Z).size);have a1:=(gf.cell hrZ).trans z1;have s1:=(gf.cell hgZ).trans s0;have k0:=(gf.cell hqZ).trans q0;have k1:=(gf.cell hqZ).trans q1;have k2:=(gf.cell hqZ).trans q2;have k3:=(gf.cell hqZ).trans q3;have tM:=ae (Xx.out.below gf);have b6:=ae gf;have gI:=gf.size;refine hK.out _ _ ⟨a1,k0,k1,k2,k3⟩ (λhHeld=>?_)
   (try simp only [Act.put,qA,qB,qC,qD,qE,qF])
  rotate_left
  focus
   go_simp
   refine(CU.out _).mono ?_;rintro e w1 ⟨gq,rfl,hoq,bH⟩;have gf:=(bm Z).trans (bH.mono (bm Z).size);have a1:=(gf.cell hrZ).trans z1;have s1:=(gf.cell hgZ).trans s0;have k0:=(gf.cell hqZ).trans q0;have k1:=(gf.cell hqZ).trans q1;have k2:=(gf.cell hqZ).trans q2;have k3:=(gf.cell hqZ).trans q3;have tM:=ae (Xx.out.below gf);have b6:=ae gf;have gI:=gf.size;refine hK.out _ _ ⟨a1,k0,k1,k2,k3⟩ (λhHeld=>?_)
   (try simp only [Act.put,qA,qB,qC,qD,qE,qF])
   refine wpAnyH_ready (rs:=[13]) (by kernel_rfl) (by simp) ?_;refine AllReadyH.cons rfl (λK hK=>?_) AllReadyH.nil
   go_simp
   refine hK.out _ _ hHeld (λhHeld=>?_)
   (try simp only [Act.put,qA,qB,qC,qD,qE,qF])
  all_goals
   refine wpAnyH_ready (rs:=[16]) (by kernel_rfl) (by simp) ?_;refine AllReadyH.cons rfl (λK hK=>?_) AllReadyH.nil;refine aD rfl _ _ 32 rfl c 3 i0 _ 1 8 Tryz.underlying32 dl eu dA eg rfl (by decide) _ nl (xs.map (.int .i64)) rfl (ah RQ.out b6.out) ⟨gq,0,none⟩ m m (q.jh.map (.int .i64)) rfl (by simp[Xy.out]) (aaX hoq Xy.out) (sG _) iq qP (by omega) ?_;intro v5 w5 aJ ax bu;obtain⟨a5,c5,rfl,_,_⟩:=aj aJ;obtain⟨hR,hKR⟩:=tM.out.put DV hws (by rw[HSV.out];exact ax) (by rw[HXS.out];exact aJ) (by rw[HXS.out,Od.out,Xy.out]) (by rw[HSV.out];exact bu);have lm:Kp (λk=>(Value.slice aw nl cw).ownBlock=some k) w1 w5:=⟨ax.os,ax.tape,ax.output,ax.size,λk hk hn=>ax.block k hk (λe=>hn e.symm)⟩;have Uq:=cO (ah RQ.out b6.out) ((b6.out.block qb hqZ).trans HQZ.out) (by decide);have hbr:=cO (ah RQ.out b6.out) tM.out.box (by decide);have hbg:=cO (ah RQ.out b6.out) tM.out.row (by decide);have a5':=(lm.cell (by omega) hbr).trans a1;have s5:=(lm.cell (by omega) hbg).trans s1;have l0:=(lm.cell (by omega) Uq).trans k0;have l1:=(lm.cell (by omega) Uq).trans k1;have l2:=(lm.cell (by omega) Uq).trans k2;have l3:=(lm.cell (by omega) Uq).trans k3;have f5:=(lm.frozen (by omega) hbg).trans (Lib.frozen_of_heap tM.out.row q.which);refine hK.out _ _ ⟨a5',l0,l1,l2,l3⟩ (λhHeld=>?_)
   (try simp only [Act.put,qA,qB,qC,qD,qE,qF])
   refine wpAnyH_ready (rs:=[17]) (by kernel_rfl) (by simp) ?_;refine AllReadyH.cons rfl (λK hK=>?_) AllReadyH.nil
   go_simp
   refine hK.out _ _ hHeld (λhHeld=>?_)
   (try simp only [Act.put,qA,qB,qC,qD,qE,qF])
   refine wpAnyH_ready (rs:=[18]) (by kernel_rfl) (by simp) ?_;refine AllReadyH.cons rfl (λK hK=>?_) AllReadyH.nil
   go_simp
   have Gt:Kp (λk=>k=gc) w5 (w5.setCell ⟨gc,q.which,none⟩ (.slice a5 (nl+m) c5)):=(Kp.refl (λk=>k=gc) w5).setCell (.inl rfl) _;have h5:=lm.size;have o1:=(Gt.cell (by omega) hrg).trans a5';have o0:=(Gt.cell (by omega) hqg).trans l0;have o2:=(Gt.cell (by omega) hqg).trans l1;have o3:=(Gt.cell (by omega) hqg).trans l2;have o4:=(Gt.cell (by omega) hqg).trans l3;refine hK.out _ _ ⟨o1,o0,o2,o3,o4⟩ (λhHeld=>?_)
   (try simp only [Act.put,qA,qB,qC,qD,qE,qF])
   refine wpAnyH_done (by kernel_rfl) ?_ _;have HR:=ae hR;have HKR:=ae (KR.trans (KR.aK (nV.out.trans (b6.out.mono hsz))) hKR);generalize w5.setCell ⟨gc,q.which,none⟩ (.slice a5 (nl+m) c5)=Y at*;clear hR hKR aJ ax bu lm Gt hoq bH hHeld s1 s5 a1 a5' k0 k1 k2 k3 l0 l1 l2 l3 f5 z1 s0 q0 q1 q2 q3;go_wp2_with fail;go_ret;exact⟨_,rfl,HR.out,HKR.out⟩
