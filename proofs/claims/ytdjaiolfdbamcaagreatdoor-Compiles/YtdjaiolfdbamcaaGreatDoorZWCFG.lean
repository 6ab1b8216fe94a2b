/- The walk of read. -/
import Derived.Test.YtdjaiolfdbamcaaGreatDoorZWCFE
set_option maxRecDepth 20000
set_option maxHeartbeats 8000000
namespace Go.Proofs.YtdjaiolfdbamcaaGreatDoor
variable {b c m tb:Nat}{A:Nat->Prop}{U W W' w:World}{v:Value}{cs:List (List Int)}{vs:List az}{ws:Bool}{iz nz oz:Hx.Tok}
section
open Go.RowKit
attribute [local go_sem↓] Go.wp_at_zero Go.wp_at_succ
inductive jJ(m:Nat)(A:Nat->Prop)(W:World):Value->(List Int->Bool)->Prop
 |gZ:jJ m A W (.func (.func 209) #[] #[]) (λ_=>true)
 |atom (q:Cx.Q) (h:q.which<m):jJ m A W (.func (.func 227) #[qV q.which q.same q.num q.bF] #[]) q.answer
 |not {c:Nat} {v:Value} {p:List Int->Bool} (hc:A c) (hx:W.heap[c]?=some (.cells #[v] 272 (0,0))) (h:jJ m A W v p):jJ m A W (.func (.func 207) #[] #[.pointer (some ⟨c,0,none⟩)]) (λl=>!p l)
 |or {c d:Nat} {v u:Value} {p q:List Int->Bool} (hc:A c) (hd:A d) (hx:W.heap[c]?=some (.cells #[v] 272 (0,0))) (hy:W.heap[d]?=some (.cells #[u] 272 (0,0))) (h:jJ m A W v p) (k:jJ m A W u q):jJ m A W (.func (.func 205) #[] #[.pointer (some ⟨c,0,none⟩),.pointer (some ⟨d,0,none⟩)]) (λl=>p l||q l)
 |and {c d:Nat} {v u:Value} {p q:List Int->Bool} (hc:A c) (hd:A d) (hx:W.heap[c]?=some (.cells #[v] 272 (0,0))) (hy:W.heap[d]?=some (.cells #[u] 272 (0,0))) (h:jJ m A W v p) (k:jJ m A W u q):jJ m A W (.func (.func 206) #[] #[.pointer (some ⟨c,0,none⟩),.pointer (some ⟨d,0,none⟩)]) (λl=>p l&&q l)
theorem jJ.J7{p:List Int->Bool}(h:jJ m A W v p):Hm m W v p:=by
 induction h with
 |gZ=>exact Te
 |atom q h=>exact SV q h
 |not _ hx _ ih=>exact aah (Array.getElem?_eq_some_iff.1 hx).1 (Lib.cell_of_heap hx 0) ih
 |or _ _ hx hy _ _ ih yv=>exact afl (Array.getElem?_eq_some_iff.1 hx).1 (Array.getElem?_eq_some_iff.1 hy).1 (Lib.cell_of_heap hx 0) (Lib.cell_of_heap hy 0) ih yv
 |and _ _ hx hy _ _ ih yv=>exact aai (Array.getElem?_eq_some_iff.1 hx).1 (Array.getElem?_eq_some_iff.1 hy).1 (Lib.cell_of_heap hx 0) (Lib.cell_of_heap hy 0) ih yv
theorem jJ.kr{p:List Int->Bool}(h:jJ m A W v p)(hk:KR c W W'):jJ m A W' v p:=by
 induction h with
 |gZ=>exact .gZ
 |atom q h=>exact .atom q h
 |not hc hx _ ih=>exact .not hc (hk.box hx (by decide)) ih
 |or hc hd hx hy _ _ ih yv=>exact .or hc hd (hk.box hx (by decide)) (hk.box hy (by decide)) ih yv
 |and hc hd hx hy _ _ ih yv=>exact .and hc hd (hk.box hx (by decide)) (hk.box hy (by decide)) ih yv
theorem jJ.bel{p:List Int->Bool}(h:jJ m A W v p)(hb:Below W.heap.size W W'):jJ m A W' v p:=h.kr (c:=0) (KR.aK hb)
theorem jJ.keep{F:Nat->Prop}{p:List Int->Bool}(h:jJ m A W v p)(hk:Kp F W W')(hF:∀k,A k->¬F k):jJ m A W' v p:=by
 have key:∀{c:Nat}{x:Obj},A c->W.heap[c]?=some x->W'.heap[c]?=some x:=λhc hx=>(hk.block _ (Array.getElem?_eq_some_iff.1 hx).1 (hF _ hc)).trans hx
 induction h<;>simp_all[gZ,atom,not,or,and]
theorem jJ.restrict{p:List Int->Bool}(h:jJ m A W v p):jJ m (λk=>A k/\k<W.heap.size) W v p:=by
 have key:∀{c:Nat}{x:Obj},W.heap[c]?=some x->c<W.heap.size:=λhx=>(Array.getElem?_eq_some_iff.1 hx).1
 induction h<;>simp_all[gZ,atom,not,or,and]
namespace Cx
def o8(cs:List (List Int))(q:Q):List (List Int):=cs.set q.which (cs.getD q.which []++q.jh)
def cj(qs:List Q)(cs:List (List Int)):List (List Int):=qs.foldl o8 cs
theorem LD(cs:List (List Int))(q:Q):(o8 cs q).length=cs.length:=by simp[o8]
theorem iK(qs:List Q):∀cs,(cj qs cs).length=cs.length:=by
 induction qs with
 |nil=>intro cs;rfl
 |cons q t ih=>intro cs;simp only [cj,List.foldl_cons]at ih|-;rw[ih,LD]
theorem o9(a b:List Q)(cs:List (List Int)):cj (a++b) cs=cj b (cj a cs):=by simp[cj]
def fits(cs:List (List Int))(n:Nat):Prop:=∀l∈cs,l.length<=n
theorem Ur(q:Q):q.jh.length<=2:=by grind[Q.jh]
theorem Us{n:Nat}(h:fits cs n)(q:Q):fits (o8 cs q) (n+2):=by
 intro l hl;rcases List.mem_or_eq_of_mem_set hl with h1|rfl
 ·have:=h l h1;omega
 ·have h2:=Ur q
  rw[List.length_append];have h3:(cs.getD q.which []).length<=n:=by
   by_cases hi:q.which<cs.length
   ·rw[List.getD_eq_getElem?_getD,List.getElem?_eq_getElem hi];exact h _ (List.getElem_mem hi)
   ·grind
  omega
theorem pN(qs:List Q):∀{cs:List (List Int)}{n:Nat},fits cs n->fits (cj qs cs) (n+2*qs.length):=by
 induction qs with
 |nil=>grind[cj]
 |cons q t ih=>
  intro cs n h;have:=ih (Us h q)
  grind[cj,List.length_cons]
end Cx
theorem kW(P:Program)(w:World)(a:Addr)(m:Mode)(f:Fn)(bs cs:Array Value):(store a (.func f bs cs) m).run P w=stored P w a (.func f bs cs) m:=run_store P w a _ m rfl
attribute [local go_sem] kW
abbrev d6:Obj:=.cells #[.nilFunc] 272
theorem jJ.shape{p:List Int->Bool}(h:jJ m A W v p):∃f bs cs,v=.func f bs cs:=by
 cases h<;>exact⟨_,_,_,rfl⟩
theorem jJ.ne{p:List Int->Bool}(h:jJ m A W v p):v≠.nilFunc:=by
 cases h<;>exact λe=>by cases e
def NB(w W U:World):Prop:=Kp (λk=>w.heap.size<=k/\W.heap[k]?=some d6) W U
theorem jJ.nb{p:List Int->Bool}(h:jJ m A W v p)(hn:NB w W U):jJ m A U v p:=by
 have key:∀{c:Nat}{x:Value},x≠.nilFunc->W.heap[c]?=some (.cells #[x] 272 (0,0))->U.heap[c]?=some (.cells #[x] 272 (0,0)):=by
  intro c x hx hc;refine(Kp.block hn c (Array.getElem?_eq_some_iff.1 hc).1 (λh=>?_)).trans hc;rw[hc]at h;have:=h.2;simp at this;exact hx this
 induction h with
 |gZ=>exact .gZ
 |atom q h=>exact .atom q h
 |not hc hx h ih=>exact .not hc (key h.ne hx) ih
 |or hc hd hx hy h k ih yv=>exact .or hc hd (key h.ne hx) (key k.ne hy) ih yv
 |and hc hd hx hy h k ih yv=>exact .and hc hd (key h.ne hx) (key k.ne hy) ih yv
theorem mS.nb{rb gc:Nat}{sv:List Value}(h:mS W c rb tb gc cs sv)(hn:NB w W U):mS U c rb tb gc cs sv:=by
 have key:∀{b T:Nat}{x:Array Value},T≠272->W.heap[b]?=some (.cells x T (0,0))->U.heap[b]?=some (.cells x T (0,0)):=by
  intro b T x hT hb;refine(Kp.block hn b (Array.getElem?_eq_some_iff.1 hb).1 (λh=>?_)).trans hb;rw[hb]at h;have:=h.2;simp at this;exact hT this.2
 refine⟨key (by decide) h.box,key (by decide) h.row,h.low,h.len,h.mem.kept hn (λk hf hF=>?_)⟩;obtain⟨j,r,hr,hk⟩:=hf;have he:=o7 r (List.mem_of_getElem? hr);exact cO (h.mem.own j r hr) hF.2 (by omega) hk
theorem KR.nb(h:KR c w W)(hn:NB w W U):KR c w U:=Kp.trans h hn (λ_ hk=>.inr hk.1)
theorem kX{x o:Obj}(h:W.heap[b]?=some x):(W.alloc o).heap[b]?=some x:=((ag W o).block b (Array.getElem?_eq_some_iff.1 h).1).trans h
theorem fV{o:Obj}(h:b=W.heap.size):(W.alloc o).heap[b]?=some o:=by grind[heap_alloc_new]
theorem wR(h:W.heap[b]?=some d6):(W.setCell ⟨b,0,none⟩ v).heap[b]?=some (.cells #[v] 272 (0,0)):=aE (o:=0) h
theorem mO{d:Nat}{x:Obj}(hd:b≠d)(h:W.heap[b]?=some x):(W.setCell ⟨d,0,none⟩ v).heap[b]?=some x:=(((Kp.refl (λk=>k=d) W).setCell (p:=⟨d,0,none⟩) (.inl rfl) v).block b (Array.getElem?_eq_some_iff.1 h).1 hd).trans h
theorem NB.refl(w W:World):NB w W W:=Kp.refl _ _
theorem NB.al(h:NB w W U)(o:Obj):NB w W (U.alloc o):=Kp.alloc h o
theorem NB.st(h:NB w W U)(hb:w.heap.size<=b)(hn:W.heap[b]?=some d6)(v:Value):NB w W (U.setCell ⟨b,0,none⟩ v):=Kp.setCell h (p:=⟨b,0,none⟩) (.inl ⟨hb,hn⟩) v
theorem eB{Y:World}(h:KR c Y W)(hb:Y.heap[b]?=some d6):W.heap[b]?=some d6:=h.box hb (by decide)
theorem IP{T:Nat}{x y:Value}(h:U.heap[b]?=some (.cells #[x,y] T (0,0))):U.cell? ⟨b,0,none⟩=some x/\U.cell? ⟨b,1,none⟩=some y:=⟨Lib.cell_of_heap h 0,Lib.cell_of_heap h 1⟩
theorem aaZ(m L:Nat)(p q:List Int->Bool)(w:World)(hL:L<=w.heap.size)(c rb tb gc:Nat)(cs1 cs2:List (List Int))(Tl Tr:TypeId)(xl xr:Value)
  (tW:Hid (∀Y,Below w.heap.size w Y->Calls Tryz.prog 163 #[.pointer (some ⟨rb,0,none⟩),.iface Tl xl] Y λe w'=>∃v,e=.returned v/\jJ m (L<=·) w' v p/\(∃mN,mS w' c rb tb gc cs1 mN)/\KR c Y w'))
  (GF:Hid (∀w1 tN Y,mS w1 c rb tb gc cs1 tN->KR c w w1->Below w1.heap.size w1 Y->Calls Tryz.prog 163 #[.pointer (some ⟨rb,0,none⟩),.iface Tr xr] Y λe w'=>∃v,e=.returned v/\jJ m (L<=·) w' v q/\(∃mN,mS w' c rb tb gc cs2 mN)/\KR c Y w')):
  Calls Tryz.prog 163 #[.pointer (some ⟨rb,0,none⟩),.iface 300 (.agg #[.iface Tl xl,.iface Tr xr])] w λe w'=>∃v,e=.returned v/\jJ m (L<=·) w' v (λl=>p l||q l)/\(∃mN,mS w' c rb tb gc cs2 mN)/\KR c w w':=by
 have Iy:=Tryz.taOr;have HB:Hid (Below w.heap.size w (w.alloc (.cells #[.iface Tl xl,.iface Tr xr] 300))):=ae (ag _ _);have hz:(w.alloc (.cells #[.iface Tl xl,.iface Tr xr] 300)).heap.size=w.heap.size+1:=by simp
 have rE:=ae (heap_alloc_new w (.cells #[.iface Tl xl,.iface Tr xr] 300));obtain⟨X,hX⟩:∃X,X=w.alloc (.cells #[.iface Tl xl,.iface Tr xr] 300):=⟨_,rfl⟩;rw[<-hX]at HB hz rE;obtain⟨x0,x1⟩:=iQ rE.out;have HZ:=ae hz;have hwX:w.heap.size<X.heap.size:=by omega
 clear hz;go_enter Tryz.func163,Tryz.ntmps163;go_upto_region 4 with(fail);rw[<-hX];clear hX
 go_region_held3 (λY=>Y.cell? ⟨w.heap.size,0,none⟩=some (.iface Tl xl)/\Y.cell? ⟨w.heap.size,1,none⟩=some (.iface Tr xr)) (first|go_keep|(refine⟨?_,?_⟩<;>with_reducible assumption)|(refine IP (T:=300) ?_;repeat(first|with_reducible exact iB|with_reducible refine kX ?_ |(with_reducible refine mO ?_ ?_;omega))))
  (first
   |(go_at_call 163;refine(GF.out w1 tN _ ww nA ?_).mono ?_;(with_reducible exact Below.refl _ _);rintro e w2 ⟨v2,rfl,iC,⟨sv2,mY⟩,qu⟩;obtain⟨f2,b2,d2,rfl⟩:=iC.shape;have eZ:=KR.trans (KR.aK (Below.refl _ _)) qu;have E7:=KR.trans nA eZ;have E8:=gh.kr eZ;have iB:=eZ.box ep (by decide);obtain⟨z0,z1⟩:=iQ iB;have jT:=Kp.size eZ;(try(have g1:=eB eZ e1;have n1:=dt g1;have m1:=Lib.frozen_of_heap g1 0;have j1:=(Array.getElem?_eq_some_iff.1 g1).1));(try(have g2:=eB eZ e2;have n2:=dt g2;have m2:=Lib.frozen_of_heap g2 0;have j2:=(Array.getElem?_eq_some_iff.1 g2).1)))
   |(go_at_call 163;refine(GF.out w1 tN _ ww nA ?_).mono ?_;(with_reducible exact ag w1 d6);rintro e w2 ⟨v2,rfl,iC,⟨sv2,mY⟩,qu⟩;obtain⟨f2,b2,d2,rfl⟩:=iC.shape;have eZ:=KR.trans (KR.aK (ag w1 d6)) qu;have E7:=KR.trans nA eZ;have E8:=gh.kr eZ;have iB:=eZ.box ep (by decide);obtain⟨z0,z1⟩:=iQ iB;have jT:=Kp.size eZ;(try(have g1:=eB eZ e1;have n1:=dt g1;have m1:=Lib.frozen_of_heap g1 0;have j1:=(Array.getElem?_eq_some_iff.1 g1).1));(try(have g2:=eB eZ e2;have n2:=dt g2;have m2:=Lib.frozen_of_heap g2 0;have j2:X.heap.size+1<w2.heap.size:=(Array.getElem?_eq_some_iff.1 g2).1));have g3:=eB qu (fV rfl);have n3:=dt g3;have m3:=Lib.frozen_of_heap g3 0;have j3:=(Array.getElem?_eq_some_iff.1 g3).1)
   |(go_at_call 163;refine(GF.out w1 tN _ ww nA ?_).mono ?_;(with_reducible exact iD (ag w1 d6) d6);rintro e w2 ⟨v2,rfl,iC,⟨sv2,mY⟩,qu⟩;obtain⟨f2,b2,d2,rfl⟩:=iC.shape;have eZ:=KR.trans (KR.aK (iD (ag w1 d6) d6)) qu;have E7:=KR.trans nA eZ;have E8:=gh.kr eZ;have iB:=eZ.box ep (by decide);obtain⟨z0,z1⟩:=iQ iB;have jT:=Kp.size eZ;(try(have g1:=eB eZ e1;have n1:=dt g1;have m1:=Lib.frozen_of_heap g1 0;have j1:X.heap.size<w2.heap.size:=(Array.getElem?_eq_some_iff.1 g1).1));(try(have g2:=eB eZ e2;have n2:=dt g2;have m2:=Lib.frozen_of_heap g2 0;have j2:X.heap.size+1<w2.heap.size:=(Array.getElem?_eq_some_iff.1 g2).1));have g3:=eB qu (kX (fV rfl));have n3:=dt g3;have m3:=Lib.frozen_of_heap g3 0;have j3:=(Array.getElem?_eq_some_iff.1 g3).1;have g4:w2.heap[w1.heap.size+1]?=some d6:=eB qu (fV (by simp));have n4:=dt g4;have m4:=Lib.frozen_of_heap g4 0;have j4:=(Array.getElem?_eq_some_iff.1 g4).1)
   |(go_at_call 163;refine(tW.out _ ?_).mono ?_;(with_reducible exact(HB.out).drew);rintro e w1 ⟨v1,rfl,gh,⟨tN,ww⟩,pO⟩;obtain⟨f1,b1,d1,rfl⟩:=gh.shape;have ke:=KR.trans (KR.aK ((Below.refl _ X).drew)) pO;have nA:=KR.trans (KR.aK HB.out) ke;have ep:=ke.box rE.out (by decide);obtain⟨y0,y1⟩:=iQ ep;have gI:=Kp.size ke)
   |(go_at_call 163;refine(tW.out _ ?_).mono ?_;(with_reducible exact(iD (HB.out) d6).drew);rintro e w1 ⟨v1,rfl,gh,⟨tN,ww⟩,pO⟩;obtain⟨f1,b1,d1,rfl⟩:=gh.shape;have ke:=KR.trans (KR.aK ((iD (Below.refl _ X) d6).drew)) pO;have nA:=KR.trans (KR.aK HB.out) ke;have ep:=ke.box rE.out (by decide);obtain⟨y0,y1⟩:=iQ ep;have gI:=Kp.size ke;have E9:=KR.trans (KR.aK (bm (X.alloc d6))) pO;have e1:=eB E9 (fV rfl);have i1:=(Array.getElem?_eq_some_iff.1 e1).1)
   |(go_at_call 163;refine(tW.out _ ?_).mono ?_;(with_reducible exact(iD (iD (HB.out) d6) d6).drew);rintro e w1 ⟨v1,rfl,gh,⟨tN,ww⟩,pO⟩;obtain⟨f1,b1,d1,rfl⟩:=gh.shape;have ke:=KR.trans (KR.aK ((iD (iD (Below.refl _ X) d6) d6).drew)) pO;have nA:=KR.trans (KR.aK HB.out) ke;have ep:=ke.box rE.out (by decide);obtain⟨y0,y1⟩:=iQ ep;have gI:=Kp.size ke;have E9:=KR.trans (KR.aK (bm ((X.alloc d6).alloc d6))) pO;have e1:=eB E9 (kX (fV rfl));have e2:w1.heap[X.heap.size+1]?=some d6:=eB E9 (fV (by simp));have i1:=(Array.getElem?_eq_some_iff.1 e1).1;have i2:=(Array.getElem?_eq_some_iff.1 e2).1))
 all_goals
  have uv:=ae E8;have zl:=ae iC;have mR:=ae mY;have iG:=ae E7;clear gh iC E8 ww mY pO qu ke nA E7 eZ y0 y1 z0 z1 ep iB x0 x1;go_wp2_with fail;go_ret;refine⟨_,rfl,.or (by(try dsimp only);omega) (by(try dsimp only);omega) ?_ ?_ (uv.out.nb (w:=w) ?_) (zl.out.nb (w:=w) ?_),⟨sv2,mR.out.nb (w:=w) ?_⟩,iG.out.nb ?_⟩
  ·(repeat(first|with_reducible assumption|(with_reducible refine fV ?_;first|with_reducible rfl|omega|(simp;done))|with_reducible refine wR ?_ |(with_reducible refine mO ?_ ?_;omega)|with_reducible refine kX ?_))
  ·(repeat(first|with_reducible assumption|(with_reducible refine fV ?_;first|with_reducible rfl|omega|(simp;done))|with_reducible refine wR ?_ |(with_reducible refine mO ?_ ?_;omega)|with_reducible refine kX ?_))
  all_goals(repeat(first|with_reducible exact NB.refl _ _|with_reducible refine NB.al ?_ _|(with_reducible refine NB.st ?_ ?_ ?_ _;rotate_left;omega;with_reducible assumption)|(with_reducible refine NB.sn ?_ ?_ _;rotate_left;omega)))
end
section
open Go.RowKit
attribute [local go_sem↓] Go.wp_at_zero Go.wp_at_succ
attribute [local go_sem] kW
theorem Ut(m L:Nat)(p q:List Int->Bool)(w:World)(hL:L<=w.heap.size)(c rb tb gc:Nat)(cs1 cs2:List (List Int))(Tl Tr:TypeId)(xl xr:Value)
  (tW:Hid (∀Y,Below w.heap.size w Y->Calls Tryz.prog 163 #[.pointer (some ⟨rb,0,none⟩),.iface Tl xl] Y λe w'=>∃v,e=.returned v/\jJ m (L<=·) w' v p/\(∃mN,mS w' c rb tb gc cs1 mN)/\KR c Y w'))
  (GF:Hid (∀w1 tN Y,mS w1 c rb tb gc cs1 tN->KR c w w1->Below w1.heap.size w1 Y->Calls Tryz.prog 163 #[.pointer (some ⟨rb,0,none⟩),.iface Tr xr] Y λe w'=>∃v,e=.returned v/\jJ m (L<=·) w' v q/\(∃mN,mS w' c rb tb gc cs2 mN)/\KR c Y w')):
  Calls Tryz.prog 163 #[.pointer (some ⟨rb,0,none⟩),.iface 301 (.agg #[.iface Tl xl,.iface Tr xr])] w λe w'=>∃v,e=.returned v/\jJ m (L<=·) w' v (λl=>p l&&q l)/\(∃mN,mS w' c rb tb gc cs2 mN)/\KR c w w':=by
 have Iy:=Tryz.taAndOr;have Ny:=Tryz.taAnd;have HB:Hid (Below w.heap.size w (w.alloc (.cells #[.iface Tl xl,.iface Tr xr] 301))):=ae (ag _ _);have hz:(w.alloc (.cells #[.iface Tl xl,.iface Tr xr] 301)).heap.size=w.heap.size+1:=by simp
 have rE:=ae (heap_alloc_new w (.cells #[.iface Tl xl,.iface Tr xr] 301));obtain⟨X,hX⟩:∃X,X=w.alloc (.cells #[.iface Tl xl,.iface Tr xr] 301):=⟨_,rfl⟩;rw[<-hX]at HB hz rE;obtain⟨x0,x1⟩:=iQ rE.out;have HZ:=ae hz;have hwX:w.heap.size<X.heap.size:=by omega
 clear hz;go_enter Tryz.func163,Tryz.ntmps163;go_upto_region 8 with(fail);rw[<-hX];clear hX
 go_region_held3 (λY=>Y.cell? ⟨w.heap.size,0,none⟩=some (.iface Tl xl)/\Y.cell? ⟨w.heap.size,1,none⟩=some (.iface Tr xr)) (first|go_keep|(refine⟨?_,?_⟩<;>with_reducible assumption)|(refine IP (T:=301) ?_;repeat(first|with_reducible exact iB|with_reducible refine kX ?_ |(with_reducible refine mO ?_ ?_;omega))))
  (first
   |(go_at_call 163;refine(GF.out w1 tN _ ww nA ?_).mono ?_;(with_reducible exact Below.refl _ _);rintro e w2 ⟨v2,rfl,iC,⟨sv2,mY⟩,qu⟩;obtain⟨f2,b2,d2,rfl⟩:=iC.shape;have eZ:=KR.trans (KR.aK (Below.refl _ _)) qu;have E7:=KR.trans nA eZ;have E8:=gh.kr eZ;have iB:=eZ.box ep (by decide);obtain⟨z0,z1⟩:=iQ iB;have jT:=Kp.size eZ;(try(have g1:=eB eZ e1;have n1:=dt g1;have m1:=Lib.frozen_of_heap g1 0;have j1:=(Array.getElem?_eq_some_iff.1 g1).1));(try(have g2:=eB eZ e2;have n2:=dt g2;have m2:=Lib.frozen_of_heap g2 0;have j2:=(Array.getElem?_eq_some_iff.1 g2).1)))
   |(go_at_call 163;refine(GF.out w1 tN _ ww nA ?_).mono ?_;(with_reducible exact ag w1 d6);rintro e w2 ⟨v2,rfl,iC,⟨sv2,mY⟩,qu⟩;obtain⟨f2,b2,d2,rfl⟩:=iC.shape;have eZ:=KR.trans (KR.aK (ag w1 d6)) qu;have E7:=KR.trans nA eZ;have E8:=gh.kr eZ;have iB:=eZ.box ep (by decide);obtain⟨z0,z1⟩:=iQ iB;have jT:=Kp.size eZ;(try(have g1:=eB eZ e1;have n1:=dt g1;have m1:=Lib.frozen_of_heap g1 0;have j1:=(Array.getElem?_eq_some_iff.1 g1).1));(try(have g2:=eB eZ e2;have n2:=dt g2;have m2:=Lib.frozen_of_heap g2 0;have j2:X.heap.size+1<w2.heap.size:=(Array.getElem?_eq_some_iff.1 g2).1));have g3:=eB qu (fV rfl);have n3:=dt g3;have m3:=Lib.frozen_of_heap g3 0;have j3:=(Array.getElem?_eq_some_iff.1 g3).1)
   |(go_at_call 163;refine(GF.out w1 tN _ ww nA ?_).mono ?_;(with_reducible exact iD (ag w1 d6) d6);rintro e w2 ⟨v2,rfl,iC,⟨sv2,mY⟩,qu⟩;obtain⟨f2,b2,d2,rfl⟩:=iC.shape;have eZ:=KR.trans (KR.aK (iD (ag w1 d6) d6)) qu;have E7:=KR.trans nA eZ;have E8:=gh.kr eZ;have iB:=eZ.box ep (by decide);obtain⟨z0,z1⟩:=iQ iB;have jT:=Kp.size eZ;(try(have g1:=eB eZ e1;have n1:=dt g1;have m1:=Lib.frozen_of_heap g1 0;have j1:X.heap.size<w2.heap.size:=(Array.getElem?_eq_some_iff.1 g1).1));(try(have g2:=eB eZ e2;have n2:=dt g2;have m2:=Lib.frozen_of_heap g2 0;have j2:X.heap.size+1<w2.heap.size:=(Array.getElem?_eq_some_iff.1 g2).1));have g3:=eB qu (kX (fV rfl));have n3:=dt g3;have m3:=Lib.frozen_of_heap g3 0;have j3:=(Array.getElem?_eq_some_iff.1 g3).1;have g4:w2.heap[w1.heap.size+1]?=some d6:=eB qu (fV (by simp));have n4:=dt g4;have m4:=Lib.frozen_of_heap g4 0;have j4:=(Array.getElem?_eq_some_iff.1 g4).1)
   |(go_at_call 163;refine(tW.out _ ?_).mono ?_;(with_reducible exact(HB.out).drew);rintro e w1 ⟨v1,rfl,gh,⟨tN,ww⟩,pO⟩;obtain⟨f1,b1,d1,rfl⟩:=gh.shape;have ke:=KR.trans (KR.aK ((Below.refl _ X).drew)) pO;have nA:=KR.trans (KR.aK HB.out) ke;have ep:=ke.box rE.out (by decide);obtain⟨y0,y1⟩:=iQ ep;have gI:=Kp.size ke)
   |(go_at_call 163;refine(tW.out _ ?_).mono ?_;(with_reducible exact(iD (HB.out) d6).drew);rintro e w1 ⟨v1,rfl,gh,⟨tN,ww⟩,pO⟩;obtain⟨f1,b1,d1,rfl⟩:=gh.shape;have ke:=KR.trans (KR.aK ((iD (Below.refl _ X) d6).drew)) pO;have nA:=KR.trans (KR.aK HB.out) ke;have ep:=ke.box rE.out (by decide);obtain⟨y0,y1⟩:=iQ ep;have gI:=Kp.size ke;have E9:=KR.trans (KR.aK (bm (X.alloc d6))) pO;have e1:=eB E9 (fV rfl);have i1:=(Array.getElem?_eq_some_iff.1 e1).1)
   |(go_at_call 163;refine(tW.out _ ?_).mono ?_;(with_reducible exact(iD (iD (HB.out) d6) d6).drew);rintro e w1 ⟨v1,rfl,gh,⟨tN,ww⟩,pO⟩;obtain⟨f1,b1,d1,rfl⟩:=gh.shape;have ke:=KR.trans (KR.aK ((iD (iD (Below.refl _ X) d6) d6).drew)) pO;have nA:=KR.trans (KR.aK HB.out) ke;have ep:=ke.box rE.out (by decide);obtain⟨y0,y1⟩:=iQ ep;have gI:=Kp.size ke;have E9:=KR.trans (KR.aK (bm ((X.alloc d6).alloc d6))) pO;have e1:=eB E9 (kX (fV rfl));have e2:w1.heap[X.heap.size+1]?=some d6:=eB E9 (fV (by simp));have i1:=(Array.getElem?_eq_some_iff.1 e1).1;have i2:=(Array.getElem?_eq_some_iff.1 e2).1))
 all_goals
  have uv:=ae E8;have zl:=ae iC;have mR:=ae mY;have iG:=ae E7;clear gh iC E8 ww mY pO qu ke nA E7 eZ y0 y1 z0 z1 ep iB x0 x1;go_wp2_with fail;go_ret;refine⟨_,rfl,.and (by(try dsimp only);omega) (by(try dsimp only);omega) ?_ ?_ (uv.out.nb (w:=w) ?_) (zl.out.nb (w:=w) ?_),⟨sv2,mR.out.nb (w:=w) ?_⟩,iG.out.nb ?_⟩
  ·(repeat(first|with_reducible assumption|(with_reducible refine fV ?_;first|with_reducible rfl|omega|(simp;done))|with_reducible refine wR ?_ |(with_reducible refine mO ?_ ?_;omega)|with_reducible refine kX ?_))
  ·(repeat(first|with_reducible assumption|(with_reducible refine fV ?_;first|with_reducible rfl|omega|(simp;done))|with_reducible refine wR ?_ |(with_reducible refine mO ?_ ?_;omega)|with_reducible refine kX ?_))
  all_goals(repeat(first|with_reducible exact NB.refl _ _|with_reducible refine NB.al ?_ _|(with_reducible refine NB.st ?_ ?_ ?_ _;rotate_left;omega;with_reducible assumption)|(with_reducible refine NB.sn ?_ ?_ _;rotate_left;omega)))
theorem Uu(m L:Nat)(p:List Int->Bool)(w:World)(hL:L<=w.heap.size)(c rb tb gc:Nat)(cs1:List (List Int))(Tl:TypeId)(xl:Value)
  (tW:Hid (∀Y,Below w.heap.size w Y->Calls Tryz.prog 163 #[.pointer (some ⟨rb,0,none⟩),.iface Tl xl] Y λe w'=>∃v,e=.returned v/\jJ m (L<=·) w' v p/\(∃mN,mS w' c rb tb gc cs1 mN)/\KR c Y w')):
  Calls Tryz.prog 163 #[.pointer (some ⟨rb,0,none⟩),.iface 303 (.agg #[.iface Tl xl])] w λe w'=>∃v,e=.returned v/\jJ m (L<=·) w' v (λl=>!p l)/\(∃mN,mS w' c rb tb gc cs1 mN)/\KR c w w':=by
 have Iy:=Tryz.taNotOr;have Ny:=Tryz.taNotAnd;have TQ:=Tryz.taNot;go_enter Tryz.func163,Tryz.ntmps163;go_wp2_with fail;refine(tW.out _ (ag _ _)).mono ?_;rintro e w1 ⟨v1,rfl,gh,⟨tN,ww⟩,pO⟩;obtain⟨f1,b1,d1,rfl⟩:=gh.shape;have HG:=ae gh;have HR:=ae ww;have HK:=ae (KR.trans (KR.aK (ag _ _)) pO);clear gh ww pO;go_wp2_with fail;go_ret;have gI:=Kp.size HK.out;exact⟨_,rfl,.not (by omega) (heap_alloc_new w1 _) (HG.out.bel (ag _ _)),⟨tN,HR.out.below (ag _ _)⟩,KR.trans HK.out (KR.aK (ag _ _))⟩
theorem LG(m L:Nat)(p:List Int->Bool)(w:World)(c rb tb gc:Nat)(cs1:List (List Int))(k n l:Int)(s:ByteArray)(Tl:TypeId)(xl:Value)
  (tW:Hid (∀Y,Below w.heap.size w Y->Calls Tryz.prog 163 #[.pointer (some ⟨rb,0,none⟩),.iface Tl xl] Y λe w'=>∃v,e=.returned v/\jJ m (L<=·) w' v p/\(∃mN,mS w' c rb tb gc cs1 mN)/\KR c Y w')):
  Calls Tryz.prog 163 #[.pointer (some ⟨rb,0,none⟩),.iface 305 (.agg #[.int .i64 k,.string s,.int .i64 n,.int .i64 l,.iface Tl xl])] w λe w'=>∃v,e=.returned v/\jJ m (L<=·) w' v p/\(∃mN,mS w' c rb tb gc cs1 mN)/\KR c w w':=by
 have Iy:=Tryz.taGroupOr;have Ny:=Tryz.taGroupAnd;have TQ:=Tryz.taGroupNot;have ta3:=Tryz.taGroup;go_enter Tryz.func163,Tryz.ntmps163;go_wp2_with fail;refine(tW.out _ (ag _ _)).mono ?_;rintro e w1 ⟨v1,rfl,gh,⟨tN,ww⟩,pO⟩;have HG:=ae gh;have HR:=ae ww;have HK:=ae (KR.trans (KR.aK (ag _ _)) pO);clear gh ww pO;go_wp2_with fail;go_ret;exact⟨_,rfl,HG.out,⟨tN,HR.out⟩,HK.out⟩
theorem Pv(m L:Nat)(w:World)(c rb tb gc:Nat)(cs1:List (List Int))(sv:List Value)(hR:mS w c rb tb gc cs1 sv):
  Calls Tryz.prog 163 #[.pointer (some ⟨rb,0,none⟩),.iface 370 (.agg #[])] w λe w'=>∃v,e=.returned v/\jJ m (L<=·) w' v (λ_=>true)/\(∃mN,mS w' c rb tb gc cs1 mN)/\KR c w w':=by
 have Iy:=Tryz.taTrueOr;have Ny:=Tryz.taTrueAnd;have TQ:=Tryz.taTrueNot;have ta3:=Tryz.taTrueGroup;have ta4:=Tryz.taTrueAtom;have HR:=ae hR;clear hR;go_enter Tryz.func163,Tryz.ntmps163;go_wp2_with fail;go_ret;exact⟨_,rfl,.gZ,⟨sv,HR.out⟩,KR.refl _ _⟩
theorem Pw(m L:Nat)(w:World)(c rb tb gc:Nat)(cs:List (List Int))(sv:List Value)(ws:Bool)(nz oz iz:Hx.Tok)(q:Cx.Q)(h:mS w c rb tb gc cs sv)(hcw:c<=w.heap.size)(DV:q.which<cs.length)(hwm:q.which<m)(lP:cs[q.which].length<=100000)(hqn:-100000<=q.num/\q.num<=100000)
  (HQ:Hid (∀Y,Below w.heap.size w Y->Calls Tryz.prog 214 #[.pointer (some ⟨tb,0,none⟩),.agg (gW ws nz oz iz).toArray] Y λe w'=>e=.returned (qV q.which q.same q.num q.bF)/\Below Y.heap.size Y w')):
  Calls Tryz.prog 163 #[.pointer (some ⟨rb,0,none⟩),.iface 307 (.agg (gW ws nz oz iz).toArray)] w λe w'=>∃v,e=.returned v/\jJ m (L<=·) w' v q.answer/\(∃mN,mS w' c rb tb gc (cs.set q.which (cs[q.which]++q.jh)) mN)/\KR c w w':=by
 have Iy:=Tryz.taAtomOr;have Ny:=Tryz.taAtomAnd;have TQ:=Tryz.taAtomNot;have ta3:=Tryz.taAtomGroup;have ta4:=Tryz.taAtom;have CK:=ae (λ(Y) (hY)=>E6 Y c rb tb gc cs sv ws nz oz iz q (h.below hY) (Nat.le_trans hcw hY.size) DV lP hqn (ae (λZ hZ=>HQ.out Z (hY.trans (hZ.mono hY.size)))));clear h HQ;rw[show(gW ws nz oz iz).toArray=#[.bool ws,.int .i64 (ao nz.k),.string nz.s,.int .i64 nz.n,.int .i64 nz.line,.int .i64 (ao oz.k),.string oz.s,.int .i64 oz.n,.int .i64 oz.line,.int .i64 (ao iz.k),.string iz.s,.int .i64 iz.n,.int .i64 iz.line]from rfl]at*;go_enter Tryz.func163,Tryz.ntmps163;go_wp2_with fail;refine(CK.out _ (ag _ _)).mono ?_;rintro e w1 ⟨tN,rfl,ww,pO⟩;have HR:=ae ww;have HK:=ae (KR.trans (KR.aK (ag _ _)) pO);clear ww pO;go_wp2_with fail;go_ret;exact⟨_,rfl,.atom q hwm,⟨tN,HR.out⟩,HK.out⟩
end
section
open Go.RowKit
theorem agb{n:ByteArray}(h:vs.any (bK n)=true):Cx.dY vs n<vs.length:=by
 grind[List.any_eq_true,List.findIdx_lt_length,Cx.dY]
theorem aa0(h:vs.any (bK nz.s)=true):(Cx.nQ vs ws nz oz iz).which<2*vs.length:=by
 have:=agb h
 grind[Cx.nQ]
theorem akM(h:-9999<=iz.n/\iz.n<=9999):-100000<=(Cx.nQ vs ws nz oz iz).num/\(Cx.nQ vs ws nz oz iz).num<=100000:=by
 grind[Cx.nQ]
theorem PT.kr{w':World}{base:Nat}{vt vv vm:Value}{gs:List MG}(h:PT w base tb vt vs gs (λk=>k<c) vv vm)(hk:KR c w w'):PT w' base tb vt vs gs (λk=>k<c) vv vm:=
 h.kept hk (λk hF hG=>by have:=hG.1;omega)
theorem Px(c rb tb gc base:Nat)(vt vv vm:Value)(vs:List az)(gs:List MG)(kz:vs.length<=3001)(g:Hx.G):∀(w:World)(L:Nat)(cs:List (List Int))(sv:List Value)(n:Nat),L<=w.heap.size->mS w c rb tb gc cs sv->PT w base tb vt vs gs (λk=>k<c) vv vm->c<=w.heap.size->Ke vs g->cs.length=2*vs.length->Cx.fits cs n->n+2*(Cx.atoms vs g).length<=100000->
  Calls Tryz.prog 163 #[.pointer (some ⟨rb,0,none⟩),eH g] w λe w'=>∃v,e=.returned v/\jJ (2*vs.length) (L<=·) w' v (Cx.eval vs g)/\(∃mN,mS w' c rb tb gc (Cx.cj (Cx.atoms vs g) cs) mN)/\KR c w w':=by
 induction g with
 |or l r qi qj=>
  intro w L cs sv n hL h hT hc hg hcs hf hn;obtain⟨Tl,xl,ck⟩:=bI l;obtain⟨Tr,xr,mK⟩:=bI r;have bu:Cx.atoms vs (.or l r)=Cx.atoms vs l++Cx.atoms vs r:=rfl;rw[bu]at hn|-;rw[List.length_append]at hn;rw[Cx.o9,show eH (.or l r)=.iface 300 (.agg #[.iface Tl xl,.iface Tr xr]) by rw[<-ck,<-mK];rfl];rw[ck]at qi;rw[mK]at qj;exact aaZ (2*vs.length) L (Cx.eval vs l) (Cx.eval vs r) w hL c rb tb gc (Cx.cj (Cx.atoms vs l) cs) _ Tl Tr xl xr
   (ae (λY hY=>qi Y L cs sv n (Nat.le_trans hL hY.size) (h.below hY) (hT.below hY) (Nat.le_trans hc hY.size) hg.1 hcs hf (by omega)))
   (ae (λw1 tN Y hR hK hY=>qj Y L _ tN (n+2*(Cx.atoms vs l).length) (Nat.le_trans hL (Nat.le_trans (Kp.size hK) hY.size)) (hR.below hY) ((hT.kr hK).below hY) (Nat.le_trans hc (Nat.le_trans (Kp.size hK) hY.size)) hg.2 (by grind[Cx.iK]) (Cx.pN _ hf) (by omega)))
 |and l r qi qj=>
  intro w L cs sv n hL h hT hc hg hcs hf hn;obtain⟨Tl,xl,ck⟩:=bI l;obtain⟨Tr,xr,mK⟩:=bI r;have bu:Cx.atoms vs (.and l r)=Cx.atoms vs l++Cx.atoms vs r:=rfl;rw[bu]at hn|-;rw[List.length_append]at hn;rw[Cx.o9,show eH (.and l r)=.iface 301 (.agg #[.iface Tl xl,.iface Tr xr]) by rw[<-ck,<-mK];rfl];rw[ck]at qi;rw[mK]at qj;exact Ut (2*vs.length) L (Cx.eval vs l) (Cx.eval vs r) w hL c rb tb gc (Cx.cj (Cx.atoms vs l) cs) _ Tl Tr xl xr
   (ae (λY hY=>qi Y L cs sv n (Nat.le_trans hL hY.size) (h.below hY) (hT.below hY) (Nat.le_trans hc hY.size) hg.1 hcs hf (by omega)))
   (ae (λw1 tN Y hR hK hY=>qj Y L _ tN (n+2*(Cx.atoms vs l).length) (Nat.le_trans hL (Nat.le_trans (Kp.size hK) hY.size)) (hR.below hY) ((hT.kr hK).below hY) (Nat.le_trans hc (Nat.le_trans (Kp.size hK) hY.size)) hg.2 (by grind[Cx.iK]) (Cx.pN _ hf) (by omega)))
 |not g ih=>
  intro w L cs sv n hL h hT hc hg hcs hf hn;obtain⟨Tl,xl,ck⟩:=bI g;rw[show eH (.not g)=.iface 303 (.agg #[.iface Tl xl]) by rw[<-ck];rfl];rw[ck]at ih;exact Uu (2*vs.length) L (Cx.eval vs g) w hL c rb tb gc _ Tl xl (ae (λY hY=>ih Y L cs sv n (Nat.le_trans hL hY.size) (h.below hY) (hT.below hY) (Nat.le_trans hc hY.size) hg hcs hf hn))
 |group t g ih=>
  intro w L cs sv n hL h hT hc hg hcs hf hn;obtain⟨Tl,xl,ck⟩:=bI g;rw[show eH (.group t g)=.iface 305 (.agg #[.int .i64 (ao t.k),.string t.s,.int .i64 t.n,.int .i64 t.line,.iface Tl xl]) by rw[<-ck];rfl];rw[ck]at ih;exact LG (2*vs.length) L (Cx.eval vs g) w c rb tb gc _ _ _ _ _ Tl xl (ae (λY hY=>ih Y L cs sv n (Nat.le_trans hL hY.size) (h.below hY) (hT.below hY) (Nat.le_trans hc hY.size) hg hcs hf hn))
 |gZ=>
  intro w L cs sv n hL h hT hc hg hcs hf hn;exact Pv (2*vs.length) L w c rb tb gc cs sv h
 |atom wz nz oz iz ok=>
  intro w L cs sv n hL h hT hc hg hcs hf hn;have vZ:=(ok.QX.2 ok.num).2;have hw:(Cx.nQ vs wz.isSome nz oz iz).which<2*vs.length:=aa0 hg;have DV:(Cx.nQ vs wz.isSome nz oz iz).which<cs.length:=by omega
  have he:Cx.cj (Cx.atoms vs (.atom wz nz oz iz ok)) cs=cs.set (Cx.nQ vs wz.isSome nz oz iz).which (cs[(Cx.nQ vs wz.isSome nz oz iz).which]++(Cx.nQ vs wz.isSome nz oz iz).jh):=by
   show Cx.o8 cs _=_;unfold Cx.o8;rw[List.getD_eq_getElem?_getD,List.getElem?_eq_getElem DV];rfl
  rw[he];have hfl:=hf _ (List.getElem_mem DV);exact Pw (2*vs.length) L w c rb tb gc cs sv wz.isSome nz oz iz (Cx.nQ vs wz.isSome nz oz iz) h hc DV hw (by omega) (akM vZ)
   (ae (λY hY=>sK Y base tb vt vv vm vs gs _ (hT.below hY) kz wz.isSome nz oz iz hg vZ))
