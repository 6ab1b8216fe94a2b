/- Short words for the moves of a drawn region by hand; nothing of the program is asked here. -/
import Derived.Deep.RegionHeld3
import Derived.WalkSpells
import Derived.WalkLawsBesides
import Derived.BigQuiet
import Derived.Lib.Strings
namespace Go.Proofs.YtdjaiolfdbamcaaGreatDoor
variable {a w w' w1:World}{B R b base cap e g i k n o size t:Nat}{v v0 v1 v10 v11 v2 v3 v4 v5 v6 v7 v8 v9:Value}{l xs:List Value}{f:Nat×Nat}{c:UInt8}{F:Nat->Prop}{m:Int}{y:List UInt8}{rest:List (List UInt8)}
theorem dt(h:w.heap[b]?=some (.cells (List.toArray (v0::l)) t f)):w.cell? ⟨b,0,none⟩=some v0:=Lib.cell_of_heap h 0
theorem fS(h:w.heap[b]?=some (.cells (List.toArray (v0::v1::l)) t f)):w.cell? ⟨b,1,none⟩=some v1:=Lib.cell_of_heap h 1
theorem jr(h:w.heap[b]?=some (.cells (List.toArray (v0::v1::v2::l)) t f)):w.cell? ⟨b,2,none⟩=some v2:=Lib.cell_of_heap h 2
theorem rQ(h:w.heap[b]?=some (.cells (List.toArray (v0::v1::v2::v3::l)) t f)):w.cell? ⟨b,3,none⟩=some v3:=Lib.cell_of_heap h 3
theorem oh(h:w.heap[b]?=some (.cells (List.toArray (v0::v1::v2::v3::v4::l)) t f)):w.cell? ⟨b,4,none⟩=some v4:=Lib.cell_of_heap h 4
theorem ZH(h:w.heap[b]?=some (.cells (List.toArray (v0::v1::v2::v3::v4::v5::l)) t f)):w.cell? ⟨b,5,none⟩=some v5:=Lib.cell_of_heap h 5
theorem R3(h:w.heap[b]?=some (.cells (List.toArray (v0::v1::v2::v3::v4::v5::v6::l)) t f)):w.cell? ⟨b,6,none⟩=some v6:=Lib.cell_of_heap h 6
theorem ae7(h:w.heap[b]?=some (.cells (List.toArray (v0::v1::v2::v3::v4::v5::v6::v7::l)) t f)):w.cell? ⟨b,7,none⟩=some v7:=Lib.cell_of_heap h 7
theorem apd(h:w.heap[b]?=some (.cells (List.toArray (v0::v1::v2::v3::v4::v5::v6::v7::v8::l)) t f)):w.cell? ⟨b,8,none⟩=some v8:=Lib.cell_of_heap h 8
theorem ape(h:w.heap[b]?=some (.cells (List.toArray (v0::v1::v2::v3::v4::v5::v6::v7::v8::v9::l)) t f)):w.cell? ⟨b,9,none⟩=some v9:=Lib.cell_of_heap h 9
theorem aju(h:w.heap[b]?=some (.cells (List.toArray (v0::v1::v2::v3::v4::v5::v6::v7::v8::v9::v10::l)) t f)):w.cell? ⟨b,10,none⟩=some v10:=Lib.cell_of_heap h 10
theorem ajv(h:w.heap[b]?=some (.cells (List.toArray (v0::v1::v2::v3::v4::v5::v6::v7::v8::v9::v10::v11::l)) t f)):w.cell? ⟨b,11,none⟩=some v11:=Lib.cell_of_heap h 11
theorem iQ(h:w.heap[b]?=some (.cells (List.toArray (v0::v1::l)) t f)):w.cell? ⟨b,0,none⟩=some v0∧w.cell? ⟨b,1,none⟩=some v1:=⟨dt h,fS h⟩
theorem GK(h:w.heap[b]?=some (.cells (List.toArray (v0::v1::v2::l)) t f)):w.cell? ⟨b,0,none⟩=some v0∧w.cell? ⟨b,1,none⟩=some v1∧w.cell? ⟨b,2,none⟩=some v2:=⟨dt h,fS h,jr h⟩
theorem nE(h:w.heap[b]?=some (.cells (List.toArray (v0::v1::v2::v3::l)) t f)):w.cell? ⟨b,0,none⟩=some v0∧w.cell? ⟨b,1,none⟩=some v1∧w.cell? ⟨b,2,none⟩=some v2∧w.cell? ⟨b,3,none⟩=some v3:=⟨dt h,fS h,jr h,rQ h⟩
theorem eN(h:w.heap[b]?=some (.cells (List.toArray (v0::v1::v2::v3::v4::l)) t f)):w.cell? ⟨b,0,none⟩=some v0∧w.cell? ⟨b,1,none⟩=some v1∧w.cell? ⟨b,2,none⟩=some v2∧w.cell? ⟨b,3,none⟩=some v3∧w.cell? ⟨b,4,none⟩=some v4:=⟨dt h,fS h,jr h,rQ h,oh h⟩
theorem ajw(h:w.heap[b]?=some (.cells (List.toArray (v0::v1::v2::v3::v4::v5::v6::l)) t f)):w.cell? ⟨b,0,none⟩=some v0∧w.cell? ⟨b,1,none⟩=some v1∧w.cell? ⟨b,2,none⟩=some v2∧w.cell? ⟨b,3,none⟩=some v3∧w.cell? ⟨b,4,none⟩=some v4∧w.cell? ⟨b,5,none⟩=some v5∧w.cell? ⟨b,6,none⟩=some v6:=⟨dt h,fS h,jr h,rQ h,oh h,ZH h,R3 h⟩
theorem adl(h:w.heap[b]?=some (.cells (List.toArray (v0::v1::v2::v3::v4::v5::v6::v7::l)) t f)):w.cell? ⟨b,0,none⟩=some v0∧w.cell? ⟨b,1,none⟩=some v1∧w.cell? ⟨b,2,none⟩=some v2∧w.cell? ⟨b,3,none⟩=some v3∧w.cell? ⟨b,4,none⟩=some v4∧w.cell? ⟨b,5,none⟩=some v5∧w.cell? ⟨b,6,none⟩=some v6∧w.cell? ⟨b,7,none⟩=some v7:=⟨dt h,fS h,jr h,rQ h,oh h,ZH h,R3 h,ae7 h⟩
theorem ae8(h:w.heap[b]?=some (.cells (List.toArray (v0::v1::v2::v3::v4::v5::v6::v7::v8::v9::v10::v11::l)) t f)):w.cell? ⟨b,0,none⟩=some v0∧w.cell? ⟨b,1,none⟩=some v1∧w.cell? ⟨b,2,none⟩=some v2∧w.cell? ⟨b,3,none⟩=some v3∧w.cell? ⟨b,4,none⟩=some v4∧w.cell? ⟨b,5,none⟩=some v5∧w.cell? ⟨b,6,none⟩=some v6∧w.cell? ⟨b,7,none⟩=some v7∧w.cell? ⟨b,8,none⟩=some v8∧w.cell? ⟨b,9,none⟩=some v9∧w.cell? ⟨b,10,none⟩=some v10∧w.cell? ⟨b,11,none⟩=some v11:=⟨dt h,fS h,jr h,rQ h,oh h,ZH h,R3 h,ae7 h,apd h,ape h,aju h,ajv h⟩
theorem ZI{c:Array Value}(h:w.heap[b]?=some (.cells c t (0,0))):w.frozen? ⟨b,0,none⟩=false∧w.frozen? ⟨b,1,none⟩=false∧w.frozen? ⟨b,2,none⟩=false∧w.frozen? ⟨b,3,none⟩=false:=⟨Lib.frozen_of_heap h 0,Lib.frozen_of_heap h 1,Lib.frozen_of_heap h 2,Lib.frozen_of_heap h 3⟩
section
section
variable {α:Type}
theorem qA(l:List α)(i:Nat)(a:α):l.toArray.setIfInBounds i a=(l.set i a).toArray:=List.setIfInBounds_toArray l i a
theorem qB{x:α}{xs:List α}{a:α}:(x::xs).set 0 a=a::xs:=rfl
theorem qC{x:α}{xs:List α}{a:α}:(x::xs).set (i+1) a=x::xs.set i a:=rfl
theorem qD{xs:List α}(h:i<xs.toArray.size):xs.toArray[i]=xs[i]'(by omega):=rfl
theorem qE(a:α)(as:List α)(h:0<(a::as).length):getElem (a::as) 0 h=a:=rfl
theorem qF(a:α)(as:List α)(i:Nat)(h:i+1<(a::as).length):getElem (a::as) (i+1) h=getElem as i (Nat.lt_of_succ_lt_succ h):=rfl
end
section
variable {P:Program} {md:Region.Mode} {ops:Array Oper} {Q:Exit->Act->World->Prop} {S:World->Prop} {oi:Oper} {n:Nat} {l:Array Bool} {a:Act} {w:World}
theorem tkR(i:Nat)(hi:ops[i]?=some oi)(v:Value)(hv:∀w,S w->(execOp a.eval oi).run P w=.ok (.value v) w)(hS:S w)(h:wpAnyH P md ops Q S n (l.setIfInBounds i true) (a.put oi.dst v) w)(hs:Region.noSelect ops=true:=by kernel_rfl)(hf:Region.free md ops l i=true:=by kernel_rfl)(hr:(Region.ready md ops l).contains i=true:=by kernel_rfl)(hw:Region.wanted oi (yielded ops a.tmps)=true:=by rfl)
  (hQ:∀c a w,Q (.panic c) (a.put oi.dst v) w->Q (.panic c) a w:=by exact λ_ _ _ h=>h):wpAnyH P md ops Q S (n+1) l a w:=wpAnyH_take hi hs hf hr hQ (.inl ⟨hw,hv⟩) hS h
theorem skR(i:Nat)(hi:ops[i]?=some oi)(hS:S w)(h:wpAnyH P md ops Q S n (l.setIfInBounds i true) (a.put oi.dst undef) w)(hs:Region.noSelect ops=true:=by kernel_rfl)(hf:Region.free md ops l i=true:=by kernel_rfl)(hr:(Region.ready md ops l).contains i=true:=by kernel_rfl)(hw:Region.wanted oi (yielded ops a.tmps)=false:=by rfl)
  (hQ:∀c a w,Q (.panic c) (a.put oi.dst undef) w->Q (.panic c) a w:=by exact λ_ _ _ h=>h):wpAnyH P md ops Q S (n+1) l a w:=wpAnyH_take hi hs hf hr hQ (.inr ⟨hw,rfl⟩) hS h
end
end
section
open Go.RowKit
theorem ah{e:TypeId}
  (h:w.ownsRow base e size v n xs) (hb:Below w.heap.size w w'):w'.ownsRow base e size v n xs:=by
 refine⟨h.1,?_⟩;rcases h.2 with hn|⟨g,cap,cur,rfl,R4,tU,rest⟩
 ·grind
 ·refine .inr ⟨g,cap,cur,rfl,R4,?_,rest⟩
  rw[hb.block g (Array.getElem?_eq_some_iff.1 tU).1];exact tU
theorem below_drewN(h:Below B a w)(n:Nat):Below B a (w.drewN n):=⟨h.os,h.tape,h.output,h.size,h.block⟩
theorem xj{C:Nat}(h:Below B a w)(k:Below C w w')(hBC:B<=C):Below B a w':=h.trans (k.mono hBC)
theorem bQ(h:Below B a w)(ho:w.ownsRow B e size v n xs)(hg:w.grownBy w' v.ownBlock)(hB:B<=w.heap.size):Below B a w':=
 h.grown hg hB (λk hk=>(ho.lt k hk).1)
theorem adn{W:World}(hb:Below W.heap.size W w1):(∀b o,b<W.heap.size->w1.cell? ⟨b,o,none⟩=W.cell? ⟨b,o,none⟩)/\(∀b o,b<W.heap.size->w1.frozen? ⟨b,o,none⟩=W.frozen? ⟨b,o,none⟩):=
 ⟨λb o h=>hb.cell (p:=⟨b,o,none⟩) h,λb o h=>hb.frozen (p:=⟨b,o,none⟩) h⟩
theorem Ds(w:World)(c:Array Value)(t n i:Nat)(v:Value):((w.alloc (.cells c t)).drewN n).setCell ⟨w.heap.size,i,none⟩ v=(w.alloc (.cells (c.setIfInBounds i v) t)).drewN n:=by
 have h:=World.setCell_alloc_at c t w.heap.size i v rfl;rw[<-h];rfl
theorem ae{p:Prop}(h:p):Hid p:=h
theorem aF(W:World)(n:Nat)(hn:n=W.heap.size)(cs:List Value)(t:Nat):∀j u,cs[j]?=some u->(W.alloc (.cells cs.toArray t)).cell? ((⟨n,0,none⟩:Addr).add j)=some u:=by
 grind[World.cell?_alloc_at,Addr.add]
theorem rR(W:World)(B b:Nat)(hB:B<=W.heap.size)(hb:b=W.heap.size)(cs:List Value)(t size n:Nat)(hn:cs.length=n*size)(hm:n<=maxLen):
  (W.alloc (.cells cs.toArray t)).ownsRow B t size (.slice (some ⟨b,0,none⟩) n n) n cs:=by
 subst hb;exact⟨hn,.inr ⟨_,n,cs.toArray,rfl,hB,heap_alloc_new W _,Nat.le_refl _,hm,by omega,by grind⟩⟩
structure Rw where
 e:Nat
 size:Nat
 n:Nat
 v:Value
 xs:List Value
def Rw.box(e:Nat)(b:Nat)(xs:List Value):Rw:=⟨e,xs.length,1,.slice (some ⟨b,0,none⟩) 1 1,xs⟩
structure dr(w:World)(base:Nat)(L:List Rw):Prop where
 own:∀(i:Nat)(r:Rw),L[i]?=some r->w.ownsRow base r.e r.size r.v r.n r.xs
 apart:∀(i j:Nat)(a b:Rw),i≠j->L[i]?=some a->L[j]?=some b->a.v.ownBlock=none\/a.v.ownBlock≠b.v.ownBlock
theorem dr.nil(w:World)(base:Nat):dr w base []:=⟨λi r h=>by simp at h,λi j a b _ h _=>by simp at h⟩
theorem dr.below{L:List Rw}(h:dr w base L)(hb:Below w.heap.size w w'):dr w' base L:=
 ⟨λi r hr=>ah (h.own i r hr) hb,h.apart⟩
theorem dr.lt{L:List Rw}(h:dr w base L){r:Rw}(hr:L[i]?=some r)(hk:r.v.ownBlock=some k):base<=k/\k<w.heap.size:=
 (h.own i r hr).lt k hk
theorem dr.grown{L:List Rw}(h:dr w base L){r r':Rw}(hr:L[i]?=some r)(hg:w.grownBy w' r.v.ownBlock)
  (ho:w'.ownsRow base r'.e r'.size r'.v r'.n r'.xs) (bu:r'.v.ownBlock=r.v.ownBlock\/r'.v.ownBlock=some w.heap.size):dr w' base (L.set i r'):=by
 have oA:=(List.getElem?_eq_some_iff.1 hr).1;have key:∀j b,j≠i->L[j]?=some b->b.v.ownBlock=none\/b.v.ownBlock≠r'.v.ownBlock:=by
  intro j b Kv hb;rcases bu with e|e
  ·rw[e];exact h.apart j i b r Kv hb hr
  ·cases tX:b.v.ownBlock with
   |none=>simp
   |some k=>
    right;have:=(h.lt hb tX).2
    grind
 refine⟨λj b hb=>?_,λj k a b N9 ha hb=>?_⟩
 ·rw[List.getElem?_set]at hb
  by_cases e:i=j
  ·grind
  ·rw[if_neg e]at hb
   exact(h.own j b hb).kept hg (h.apart j i b r (λh=>e h.symm) hb hr)
 ·rw[List.getElem?_set]at ha hb
  by_cases ej:i=j
  ·grind
  ·rw[if_neg ej]at ha
   by_cases ek:i=k
   ·grind
   ·rw[if_neg ek]at hb
    exact h.apart j k a b N9 ha hb
theorem dr.push{L:List Rw}(h:dr w base L)(hb:base<=w.heap.size)(e b:Nat)(xs:List Value)(he:b=w.heap.size):
  dr (w.alloc (.cells xs.toArray e)) base (L++[Rw.box e b xs]):=by
 subst he;have qg:Below w.heap.size w (w.alloc (.cells xs.toArray e)):=(Below.refl _ _).alloc (Nat.le_refl _) _;have h':=h.below qg;refine⟨λi r hr=>?_,λi j a c Kd ha hc=>?_⟩
 ·by_cases hi:i<L.length
  ·rw[List.getElem?_append_left hi]at hr;exact h'.own i r hr
  ·rw[List.getElem?_append_right (by omega)]at hr
   have:i-L.length=0:=by
    cases hx:i-L.length with
    |zero=>rfl
    |succ k=>grind
   rw[this]at hr;simp at hr;subst hr;exact rR w base _ hb rfl xs e _ 1 (by simp[Rw.box]) (by grind[maxLen])
 ·have zu:∀i a,(L++[Rw.box e w.heap.size xs])[i]?=some a->(L[i]?=some a)\/(i=L.length/\a=Rw.box e w.heap.size xs):=by
   intro i a ha
   by_cases hi:i<L.length
   ·grind
   ·grind
  rcases zu i a ha with h1|⟨h1,rfl⟩<;>rcases zu j c hc with h2|⟨h2,rfl⟩
  ·exact h.apart i j a c Kd h1 h2
  ·cases tX:a.v.ownBlock with
   |none=>simp
   |some k=>right;have:=(h.lt h1 tX).2;grind[Rw.box,Value.ownBlock]
  ·right
   cases tX:c.v.ownBlock with
   |none=>simp[Rw.box,Value.ownBlock]
   |some k=>have:=(h.lt h2 tX).2;grind[Rw.box,Value.ownBlock]
  ·omega
theorem dr.oB{L:List Rw}(h:dr w base L)(e size:Nat):dr w base (L++[⟨e,size,0,.slice none 0 0,[]⟩]):=by
 have zu:∀i a,(L++[(⟨e,size,0,.slice none 0 0,[]⟩)])[i]?=some a->(L[i]?=some a)\/(i=L.length/\a=⟨e,size,0,.slice none 0 0,[]⟩):=by
  intro i a ha
  by_cases hi:i<L.length
  ·grind
  ·grind
 refine⟨λi r hr=>?_,λi j a c Kd ha hc=>?_⟩
 ·rcases zu i r hr with h1|⟨_,rfl⟩
  ·exact h.own i r h1
  ·exact World.ownsRow_nil _ _ _ _
 ·rcases zu i a ha with h1|⟨h1,rfl⟩<;>rcases zu j c hc with h2|⟨h2,rfl⟩
  ·exact h.apart i j a c Kd h1 h2
  all_goals grind[Value.ownBlock]
theorem grownBy_setCell(w:World)(a:Addr)(u:Value):w.grownBy (w.setCell a u) (some a.block):=
 ⟨rfl,rfl,rfl,by simp,λk _ hne=>Below.heap_setCell _ _ _ _ (λe=>hne (by rw[e]))⟩
theorem dr.store{L:List Rw}(h:dr w base L){j:Nat}{r:Rw}(hr:L[i]?=some r)(hv:r.v=.slice (some ⟨g,0,none⟩) r.n cap)(u:Value):
  dr (w.setCell ⟨g,j,none⟩ u) base (L.set i {r with xs:=r.xs.set j u}):=by
 have ho:=h.own i r hr;rw[hv]at ho;refine h.grown hr (by rw[hv];exact grownBy_setCell w _ u) ?_ (.inl rfl);rw[hv];obtain⟨hl,ho⟩:=ho;refine⟨by grind,.inr ?_⟩;rcases ho with⟨h0,_⟩|⟨g',cap',cur,he,hb,hg,h1,h2,h3,h4⟩
 ·cases h0
 ·cases he
  refine⟨g,cap,cur.setIfInBounds j u,rfl,hb,?_,h1,h2,by grind,?_⟩
  all_goals simp_all[List.take_set,World.setCell,Array.getElem?_modify,Option.map_some]
theorem dr.cell{L:List Rw}(h:dr w base L){r:Rw}(hr:L[i]?=some r)(hv:r.v=.slice (some ⟨g,0,none⟩) r.n cap)(j:Nat)(hj:j<r.n*r.size):
  w.cell? ⟨g,j,none⟩=r.xs[j]?:=by
 have ho:=h.own i r hr;rw[hv]at ho;exact ho.cellAt j hj
theorem dr.frozen{L:List Rw}(h:dr w base L){r:Rw}(hr:L[i]?=some r)(hv:r.v=.slice (some ⟨g,0,none⟩) r.n cap)(j:Nat):
  w.frozen? ⟨g,j,none⟩=false:=by
 have ho:=h.own i r hr;rw[hv]at ho;exact ho.frozenAt j
structure Kp(F:Nat->Prop)(w w':World):Prop where
 os:w'.os=w.os
 tape:w'.tape=w.tape
 output:w'.output=w.output
 size:w.heap.size<=w'.heap.size
 block:∀k,k<w.heap.size->¬F k->w'.heap[k]?=w.heap[k]?
def fresh(F:Nat->Prop)(w:World):Nat->Prop:=λk=>F k\/w.heap.size<=k
def tight(F:Nat->Prop)(w:World):Nat->Prop:=λk=>F k/\k<w.heap.size
theorem Kp.refl(F:Nat->Prop)(w:World):Kp F w w:=⟨rfl,rfl,rfl,Nat.le_refl _,λ_ _ _=>rfl⟩
theorem Kp.mono{G:Nat->Prop}(h:Kp F w w')(hFG:∀k,k<w.heap.size->F k->G k):Kp G w w':=
 ⟨h.os,h.tape,h.output,h.size,λk hk hn=>h.block k hk (λhF=>hn (hFG k hk hF))⟩
theorem Kp.trans{G:Nat->Prop}{w2:World}(h:Kp F w w1)(k:Kp G w1 w2)(hG:∀k,G k->F k\/w.heap.size<=k):Kp F w w2:=
 ⟨k.os.trans h.os,k.tape.trans h.tape,k.output.trans h.output,Nat.le_trans h.size k.size,λi hi hn=>
  (k.block i (Nat.lt_of_lt_of_le hi h.size) (λhg=>(hG i hg).elim hn (λh=>by omega))).trans (h.block i hi hn)⟩
theorem Kp.aK(h:Below w.heap.size w w'):Kp F w w':=⟨h.os,h.tape,h.output,h.size,λk hk _=>h.block k hk⟩
theorem Kp.toBelow(h:Kp F w w')(hB:∀k,F k->B<=k)(hs:B<=w.heap.size):Below B w w':=
 ⟨h.os,h.tape,h.output,h.size,λk hk=>h.block k (by omega) (λhF=>by grind)⟩
theorem Kp.alloc(h:Kp F a w)(o:Obj):Kp F a (w.alloc o):=
 h.trans (Kp.aK (F:=λ_=>False) ((Below.refl _ _).alloc (Nat.le_refl _) _)) (λ_ h=>h.elim)
theorem Kp.drewN(h:Kp F a w)(n:Nat):Kp F a (w.drewN n):=⟨h.os,h.tape,h.output,h.size,h.block⟩
theorem Kp.drew(h:Kp F a w):Kp F a w.drew:=⟨h.os,h.tape,h.output,h.size,h.block⟩
theorem Kp.setCell(h:Kp F a w){p:Addr}(hp:F p.block\/a.heap.size<=p.block)(u:Value):Kp F a (w.setCell p u):=
 h.trans (G:=λk=>k=p.block) ⟨rfl,rfl,rfl,by simp,λk _ hn=>Below.heap_setCell _ _ _ _ hn⟩ (λk e=>e▸hp)
theorem Kp.below(h:Kp F a w)(hb:Below w.heap.size w w'):Kp F a w':=
 h.trans (Kp.aK (F:=λ_=>False) hb) (λ_ h=>h.elim)
theorem Kp.cell(h:Kp F w w')(hb:b<w.heap.size)(hn:¬F b):w'.cell? ⟨b,o,none⟩=w.cell? ⟨b,o,none⟩:=World.cell?_of_block (h.block b hb hn)
theorem Kp.frozen(h:Kp F w w')(hb:b<w.heap.size)(hn:¬F b):w'.frozen? ⟨b,o,none⟩=w.frozen? ⟨b,o,none⟩:=World.frozen?_of_block (h.block b hb hn)
theorem Kp.own(h:Kp F w w')(ho:w.ownsRow base e size v n xs)(hn:∀k,v.ownBlock=some k->¬F k):w'.ownsRow base e size v n xs:=by
 refine⟨ho.1,?_⟩;rcases ho.2 with h0|⟨g,cap,cur,rfl,hb,tU,rest⟩
 ·grind
 ·refine .inr ⟨g,cap,cur,rfl,hb,?_,rest⟩
  rw[h.block g (Array.getElem?_eq_some_iff.1 tU).1 (hn g rfl)];exact tU
theorem Kp.grown{row:Option Nat}(h:Kp F a w)(hg:w.grownBy w' row)(hr:∀k,row=some k->F k\/a.heap.size<=k):Kp F a w':=
 h.trans (G:=λk=>row=some k) ⟨hg.os,hg.tape,hg.output,hg.size,λk hk hn=>hg.block k hk (λe=>hn e.symm)⟩ hr
def mj(L:List Rw)(k:Nat):Prop:=∃(i:Nat)(r:Rw),L[i]?=some r/\r.v.ownBlock=some k
theorem iR{L:List Rw}{r':Rw}(h:mj (L.set i r') k):mj L k\/r'.v.ownBlock=some k:=by
 obtain⟨j,r,hr,hk⟩:=h;rw[List.getElem?_set]at hr
 by_cases e:i=j
 ·grind
 ·rw[if_neg e]at hr;exact .inl ⟨j,r,hr,hk⟩
theorem dr.kept{L:List Rw}(h:dr w base L)(hk:Kp F w w')(hn:∀k,mj L k->¬F k):dr w' base L:=
 ⟨λi r hr=>hk.own (h.own i r hr) (λk e=>hn k ⟨i,r,hr,e⟩),h.apart⟩
theorem bX(w:World)(a b:Addr)(v:Value)(h:a≠b):(w.setCell a v).cell? b=w.cell? b:=by
 grind[World.cell?_setCell_other]
theorem aD{P:Program}{ops:Array Oper}{o:Oper}{a:Act}{K:Act->World->Prop}{Q:Exit->Act->World->Prop}{E:Prop}
  (zi:o.guard=none) (s x:Operand) (t:TypeId) (hop:o.op=Op.call {callee:=Callee.builtin Builtin.append,args:=#[s,x],argTypes:=#[t,t]})
  (base:Nat) (e:TypeId) (i:TypeInfo) (z:Value) (size bytes:Nat) (ht:P.underlying t=some (.slice e)) (hi:P.info? e=some i) (hz:i.zero=some z)
  (ajy:i.size=size) (hby:i.bytes=bytes) (hzs:z.cells.size=size) (hsz:0<size)
  (v:Value) (n:Nat) (xs:List Value) (hs:a.eval s=v) (aJ:w.ownsRow base e size v n xs)
  (ad:Addr) (m c:Nat) (news:List Value) (hx:a.eval x=.slice (some ad) m c) (hl:news.length=m*size) (ajz:∀j u,news[j]?=some u->w.cell? (ad.add j)=some u) (h1:∀u∈news,u.oneCell'=true)
  (h63:n+m<=maxLen) (ae9:(n+m)*bytes<=140737488355328) (ajA:base<=w.heap.size)
  (h:∀v' w',w'.ownsRow base e size v' (n+m) (xs++news)->w.grownBy w' v.ownBlock->(v'.ownBlock=v.ownBlock\/v'.ownBlock=some w.heap.size)->K (a.put o.dst v') w'):
  if Region.wanted o (yielded ops a.tmps)=true then Oper.wp P o a w K Q else E:=by
 have hw:Region.wanted o (yielded ops a.tmps)=true:=by simp[Region.wanted,zi]
 rw[if_pos hw];obtain⟨v',w',hr,h2,h3,h4,h5⟩:=run_append_own_at w base t o.type e i z size bytes ht hi hz ajy hby hzs hsz v n xs aJ ad m c news hl ajz h1 h63 ae9 ajA;unfold Oper.wp;simp[execOp,hop,resolve,invoke,builtin,hs,hx,hr];exact h v' w' h2 h3 h5
end
section
namespace Hx
def fy(t:List UInt8):List UInt8->Bool
 |[]=>t.isEmpty
 |c::r=>t.isPrefixOf (c::r)||fy t r
def fB(s all:List UInt8):Bool:=fy (32::(s++[32])) all
theorem uS(t l:List UInt8)(h:l.length<t.length):fy t l=false:=by
 induction l<;>grind[fy,Bool.or_eq_false_iff,List.isPrefixOf_iff_prefix]
theorem xo(t l:List UInt8)(k:Nat)(h:k<l.length):
  fy t (l.drop k)=(decide ((l.drop k).take t.length=t)||fy t (l.drop (k+1))):=by
 have e:=List.drop_eq_getElem_cons h;rw[e];simp only [fy];congr 1;rw[Bool.eq_iff_iff,List.isPrefixOf_iff_prefix,decide_eq_true_iff,List.prefix_iff_eq_take]
 grind
theorem MZ(all:ByteArray)(k n:Nat):(all.extract k (k+n)).toList=(all.data.toList.drop k).take n:=by
 grind[Lib.extract_toList]
theorem R5(s:ByteArray):((⟨#[32]⟩:ByteArray)++s++(⟨#[32]⟩:ByteArray)).toList=32::(s.data.toList++[32]):=by
 rw[Lib.toList_data];simp
theorem On(s all:ByteArray)(k:Nat)(hl:k<all.size)
  (h:((all.extract k (k+(1+s.size+1))).toList==((⟨#[32]⟩:ByteArray)++s++(⟨#[32]⟩:ByteArray)).toList)=true)
  (hh:fy (32::(s.data.toList++[32])) all.data.toList=fy (32::(s.data.toList++[32])) (all.data.toList.drop k)):
  fB s.data.toList all.data.toList=true:=by
 rw[beq_iff_eq,MZ,R5]at h
 grind[fB,xo,Lib.size_eq]
theorem KG(s all:ByteArray)(k:Nat)(hl:k<all.size)
  (h:((all.extract k (k+(1+s.size+1))).toList==((⟨#[32]⟩:ByteArray)++s++(⟨#[32]⟩:ByteArray)).toList)=false)
  (hh:fy (32::(s.data.toList++[32])) all.data.toList=fy (32::(s.data.toList++[32])) (all.data.toList.drop k)):
  fy (32::(s.data.toList++[32])) all.data.toList=fy (32::(s.data.toList++[32])) (all.data.toList.drop (k+1)):=by
 rw[beq_eq_false_iff_ne,MZ,R5]at h
 grind[decide_eq_false,xo,Lib.size_eq]
theorem Oo(s all:ByteArray)(k:Nat)(hl:all.size<k+(1+s.size+1))
  (hh:fy (32::(s.data.toList++[32])) all.data.toList=fy (32::(s.data.toList++[32])) (all.data.toList.drop k)):
  fB s.data.toList all.data.toList=false:=by
 grind[List.length_drop,Lib.size_eq,uS,fB]
def bq(c:UInt8):Bool:=48<=c&&c<=57
def jk(c:UInt8):Bool:=97<=c&&c<=122
def eG(c:UInt8):Bool:=bq c||jk c
def aB(p:UInt8->Bool):List UInt8->Nat
 |[]=>0
 |c::r=>if p c then aB p r+1 else 0
theorem fC(p:UInt8->Bool)(l:List UInt8):aB p l<=l.length:=by
 induction l<;>grind[aB]
theorem mo(p:UInt8->Bool)(s:ByteArray)(k:Nat)(h:k<s.size)(hp:p s[k]=true):
  aB p (s.data.toList.drop k)=aB p (s.data.toList.drop (k+1))+1:=by
 have e:s.data.toList.drop k=s[k]::s.data.toList.drop (k+1):=by
  rw[List.drop_eq_getElem_cons (by simpa using h)];rfl
 rw[e,aB,if_pos hp]
theorem mp(p:UInt8->Bool)(s:ByteArray)(k:Nat)(h:k<s.size)(hp:p s[k]=false):
  aB p (s.data.toList.drop k)=0:=by
 have e:s.data.toList.drop k=s[k]::s.data.toList.drop (k+1):=by
  rw[List.drop_eq_getElem_cons (by simpa using h)];rfl
 simp_all[aB]
theorem xq(p:UInt8->Bool)(s:ByteArray)(k:Nat)(h:s.size<=k):aB p (s.data.toList.drop k)=0:=by
 rw[List.drop_of_length_le (by simpa using h)];rfl
theorem tY(p:UInt8->Bool)(s:ByteArray)(i k n:Nat)(h:i+k<s.size)(hp:p s[i+k]=true)
  (hh:k+aB p (s.data.toList.drop (i+k))=n):k+1+aB p (s.data.toList.drop (i+(k+1)))=n:=by
 grind[Nat.add_assoc,mo]
theorem xt(p:UInt8->Bool)(s:ByteArray)(i k n:Nat)(h:i+k<s.size)(hp:p s[i+k]=false)
  (hh:k+aB p (s.data.toList.drop (i+k))=n):(k:Int)=n:=by
 grind[mp]
theorem Dt(p:UInt8->Bool)(s:ByteArray)(i k n:Nat)(h:s.size<=i+k)
  (hh:k+aB p (s.data.toList.drop (i+k))=n):(k:Int)=n:=by
 grind[xq]
theorem mq(c:UInt8):bq c=decide (48<=(c.toNat:Int)/\(c.toNat:Int)<=57):=by
 unfold bq;rw[Bool.eq_iff_iff];grind[UInt8.le_iff_toNat_le]
theorem mr(c:UInt8):jk c=decide (97<=(c.toNat:Int)/\(c.toNat:Int)<=122):=by
 unfold jk;rw[Bool.eq_iff_iff];grind[UInt8.le_iff_toNat_le]
theorem M0(h1:48<=(c.toNat:Int))(h2:(c.toNat:Int)<=57):bq c=true:=by grind[mq]
theorem KH(h:¬(48<=(c.toNat:Int)/\(c.toNat:Int)<=57)):bq c=false:=by grind[mq]
theorem rS(h1:97<=(c.toNat:Int))(h2:(c.toNat:Int)<=122):jk c=true:=by grind[mr]
theorem KI(h:¬(97<=(c.toNat:Int)/\(c.toNat:Int)<=122)):jk c=false:=by grind[mr]
theorem Oq(h:bq c=true):eG c=true:=by simp[eG,h]
theorem py(h:jk c=true):eG c=true:=by simp[eG,h]
theorem ajB(h1:¬(48<=(c.toNat:Int)/\(c.toNat:Int)<=57))(h2:¬(97<=(c.toNat:Int)/\(c.toNat:Int)<=122)):eG c=false:=by simp[eG,KH h1,KI h2]
def bg:List UInt8->Nat
 |a::b::_=>
  if(a==46&&b==46)||(a==60&&b==61)||(a==61&&b==61)||(a==33&&b==61)||(a==62&&b==61)then 2
  else if a==123||a==125||a==40||a==41||a==59||a==60||a==62 then 1 else 0
 |[a]=>if a==123||a==125||a==40||a==41||a==59||a==60||a==62 then 1 else 0
 |[]=>0
def Du:List (List UInt8)->List UInt8
 |[]=>[32]
 |a::r=>32::(a++Du r)
theorem KJ(ws:List (List UInt8)):∃r,Du ws=32::r:=by cases ws<;>exact⟨_,rfl⟩
theorem GL(s a r:List UInt8)(hs:32∉s)(ha:32∉a):(s++[32]).isPrefixOf (a++32::r)=(s==a):=by
 induction s generalizing a with
 |nil=>cases a<;>grind
 |cons c q ih=>cases a<;>grind
theorem KL(s a r:List UInt8)(ha:32∉a):fy (32::s) (a++r)=fy (32::s) r\/r=[]:=by
 induction a with
 |nil=>simp
 |cons c q ih=>
  have:c≠32:=λe=>ha (by simp[e])
  rcases ih (λh=>ha (List.mem_cons_of_mem _ h))with h|h
  all_goals simp_all[List.cons_append,fy,List.isPrefixOf]
theorem oC(s:List UInt8)(ws:List (List UInt8))(hs:32∉s)(hw:∀a∈ws,32∉a):
  fy (32::(s++[32])) (Du ws)=ws.contains s:=by
 induction ws with
 |nil=>grind[Du,uS]
 |cons a q ih=>
  obtain⟨r,hr⟩:=KJ q;have h1:=GL s a r hs (hw a (by simp));have h2:=KL (s++[32]) a (Du q) (hw a (by simp));rw[hr]at h2;simp only [List.cons_ne_nil,or_false]at h2
  grind[Du,fy,List.isPrefixOf,List.mem_cons_of_mem]
def dW:List (List UInt8):=[[118,97,114],[109,111,100,101],[100,101,102,97,117,108,116],[119,104,101,110],[116,111],[115,116,97,121],[97,110,100],[111,114],[110,111,116],[119,97,115],[116,114,117,101]]
def rT:List (List UInt8):=[[60],[60,61],[61,61],[33,61],[62,61],[62]]
theorem Ey(a b:UInt8):fB [a,b] [32,46,46,32,60,61,32,61,61,32,33,61,32,62,61,32]=((a==46&&b==46)||(a==60&&b==61)||(a==61&&b==61)||(a==33&&b==61)||(a==62&&b==61)):=by
 simp[fB,fy,List.isPrefixOf,Bool.or_assoc]
theorem rU(a:UInt8):fB [a] [32,123,32,125,32,40,32,41,32,59,32,60,32,62,32]=(a==123||a==125||a==40||a==41||a==59||a==60||a==62):=by
 simp[fB,fy,List.isPrefixOf,Bool.or_assoc]
theorem GM(s:ByteArray)(i:Nat)(h:i+2<=s.size):s.data.toList.drop i=s[i]::s[i+1]::s.data.toList.drop (i+2):=by
 rw[List.drop_eq_getElem_cons (by simp;omega),List.drop_eq_getElem_cons (by simp;omega)];rfl
theorem drop_one(s:ByteArray)(i:Nat)(h:i<s.size):s.data.toList.drop i=s[i]::s.data.toList.drop (i+1):=by
 rw[List.drop_eq_getElem_cons (by simp;omega)];rfl
theorem R6(s:ByteArray)(i:Nat)(h:i+2<=s.size):
  (bg (s.data.toList.drop i):Int)=if fB (s.extract i (i+2)).data.toList (⟨#[32,46,46,32,60,61,32,61,61,32,33,61,32,62,61,32]⟩:ByteArray).data.toList=true then 2
   else if fB (s.extract i (i+1)).data.toList (⟨#[32,123,32,125,32,40,32,41,32,59,32,60,32,62,32]⟩:ByteArray).data.toList=true then 1 else 0:=by
 rw[Lib.extract_data,Lib.extract_data,GM s i h];have e2:i+2-i=2:=by omega
 grind[List.take,Ey,rU,bg]
theorem Ot(s:ByteArray)(i:Nat)(hi:i<s.size)(h:s.size<i+2):
  (bg (s.data.toList.drop i):Int)=if fB (s.extract i (i+1)).data.toList (⟨#[32,123,32,125,32,40,32,41,32,59,32,60,32,62,32]⟩:ByteArray).data.toList=true then 1 else 0:=by
 rw[Lib.extract_data,drop_one s i hi];have e0:s.data.toList.drop (i+1)=[]:=List.drop_of_length_le (by simp;omega);have e1:i+1-i=1:=by omega
 grind[List.take,rU,bg]
def g8:Nat->Nat->List UInt8
 |0,n=>[UInt8.ofNat (48+n%10)]
 |f+1,n=>(if 10<=n then g8 f (n/10)else [])++[UInt8.ofNat (48+n%10)]
theorem xu(f n:Nat):(g8 f n).length<=f+1:=by
 induction f generalizing n<;>grind[g8]
def iy(n:Int):List UInt8:=if n<0 then 45::g8 4 n.natAbs else g8 4 n.natAbs
end Hx
namespace Hx
structure Tok where
 k:Nat
 s:ByteArray
 n:Int
 line:Nat
def gj(line:Nat):Tok:=⟨101,⟨#[]⟩,0,line⟩
def numOf(l:List UInt8):Int:=l.foldl (λa c=>10*a+(c.toNat:Int)-48) 0
def dP(l:List UInt8)(line:Nat):Option (Nat×Tok):=
 let minus:=if l.head?=some 45 then 1 else 0
 let d:=aB bq (l.drop minus)
 if 0<d then
  if 4<d then none
  else
   let v:=numOf ((l.drop minus).take d)
   let v':=if minus=1 then-v else v
   some (minus+d,⟨105,⟨(iy v').toArray⟩,v',line⟩)
 else if(l.head?.map jk).getD false then
  let n:=aB eG l
  if 8<n then none else some (n,⟨if dW.contains (l.take n)then 119 else 110,⟨(l.take n).toArray⟩,0,line⟩)
 else if bg l=0 then none else some (bg l,⟨115,⟨(l.take (bg l)).toArray⟩,0,line⟩)
def cA:List UInt8->List UInt8
 |[]=>[]
 |c::r=>if c=10 then c::r else cA r
def fw:Nat->List UInt8->Nat->List Tok->Nat⊕List Tok
 |0,_,line,_=>.inl line
 |_+1,[],line,acc=>.inr (acc++[gj line])
 |f+1,c::r,line,acc=>
  if c=10 then fw f r (line+1) acc
  else if c=32\/c=9 then fw f r line acc
  else if c=35 then fw f (cA r) line acc
  else match dP (c::r) line with
   |none=>.inl line
   |some (n,t)=>fw f ((c::r).drop n) line (acc++[t])
def lex(l:List UInt8):Nat⊕List Tok:=fw (l.length+1) l 1 []
theorem fN{k:UInt8}(hm:m=(k.toNat:Int))(h:c=k):(((c.toNat:Nat):Int)==m)=true:=by grind
theorem iu{k:UInt8}(hm:m=(k.toNat:Int))(h:¬c=k):(((c.toNat:Nat):Int)==m)=false:=by
 grind[UInt8.toNat_inj,beq_eq_false_iff_ne]
theorem ZJ(f:Nat)(s:ByteArray)(i line:Nat)(acc:List Tok)(hi:i<s.size)(h:s[i]=10):
  fw (f+1) (s.data.toList.drop i) line acc=fw f (s.data.toList.drop (i+1)) (line+1) acc:=by
 rw[drop_one s i hi,fw,if_pos h]
theorem xx(f:Nat)(s:ByteArray)(i line:Nat)(acc:List Tok)(hi:i<s.size)(h1:¬s[i]=10)(h:s[i]=32\/s[i]=9):
  fw (f+1) (s.data.toList.drop i) line acc=fw f (s.data.toList.drop (i+1)) line acc:=by
 rw[drop_one s i hi,fw,if_neg h1,if_pos h]
theorem R7(f:Nat)(s:ByteArray)(i line:Nat)(acc:List Tok)(hi:s.size<=i):
  fw (f+1) (s.data.toList.drop i) line acc=.inr (acc++[gj line]):=by
 simp_all[List.drop_of_length_le,fw]
theorem rV(s:ByteArray)(i:Nat)(hi:i<s.size)(h:¬s[i]=10):cA (s.data.toList.drop i)=cA (s.data.toList.drop (i+1)):=by
 rw[drop_one s i hi,cA,if_neg h]
theorem KM(s:ByteArray)(i:Nat)(hi:i<s.size)(h:s[i]=10):cA (s.data.toList.drop i)=s.data.toList.drop i:=by
 rw[drop_one s i hi,cA,if_pos h]
theorem GN(s:ByteArray)(i:Nat)(hi:s.size<=i):cA (s.data.toList.drop i)=s.data.toList.drop i:=by
 simp_all[List.drop_of_length_le,cA]
theorem GQ(f:Nat)(s:ByteArray)(i line j:Nat)(acc:List Tok)(hi:i<s.size)(h:s[i]=35)
  (hj:cA (s.data.toList.drop i)=s.data.toList.drop j):
  fw (f+1) (s.data.toList.drop i) line acc=fw f (s.data.toList.drop j) line acc:=by
 rw[rV s i hi (by grind)]at hj
 simp_all[drop_one,fw]
theorem kH(f:Nat)(s:ByteArray)(i line:Nat)(acc:List Tok)(hi:i<s.size)(h1:¬s[i]=10)(h2:¬(s[i]=32\/s[i]=9))(h3:¬s[i]=35)
  (ht:dP (s.data.toList.drop i) line=none):fw (f+1) (s.data.toList.drop i) line acc=.inl line:=by
 simp_all[fw,drop_one]
theorem js(f:Nat)(s:ByteArray)(i line n:Nat)(t:Tok)(acc:List Tok)(hi:i<s.size)(h1:¬s[i]=10)(h2:¬(s[i]=32\/s[i]=9))(h3:¬s[i]=35)
  (ht:dP (s.data.toList.drop i) line=some (n,t)):fw (f+1) (s.data.toList.drop i) line acc=fw f (s.data.toList.drop (i+n)) line (acc++[t]):=by
 rw[show s.data.toList.drop (i+n)=(s.data.toList.drop i).drop n by simp]
 simp_all[fw,drop_one]
theorem qR(l:List UInt8)(c:UInt8):numOf (l++[c])=10*numOf l+(c.toNat:Int)-48:=by simp[numOf]
theorem qS(s:ByteArray)(a j:Nat)(h:a+j<s.size):numOf ((s.data.toList.drop a).take (j+1))=10*numOf ((s.data.toList.drop a).take j)+(s[a+j].toNat:Int)-48:=by
 rw[List.take_succ_eq_append_getElem (by simp;omega),qR];simp;rfl
theorem R8(p:UInt8->Bool)(l:List UInt8)(j:Nat)(h:j<aB p l):∃h':j<l.length,p l[j]=true:=by
 induction l generalizing j with
 |nil=>simp[aB]at h
 |cons c r ih=>
  simp only [aB]at h;split at h
  ·cases j<;>grind
  ·omega
theorem KN(s:ByteArray)(a j:Nat)(h:j<aB bq (s.data.toList.drop a)):∃h':a+j<s.size,48<=(s[a+j].toNat:Int)/\(s[a+j].toNat:Int)<=57:=by
 obtain⟨h1,h2⟩:=R8 bq _ j h;simp at h1;refine⟨by omega,?_⟩;have e:(s.data.toList.drop a)[j]=s[a+j]:=by simp;rfl
 grind[mq]
theorem R9(s:ByteArray)(a:Nat):∀j,j<=aB bq (s.data.toList.drop a)->0<=numOf ((s.data.toList.drop a).take j)/\numOf ((s.data.toList.drop a).take j)<10^j:=by
 intro j
 induction j with
 |zero=>grind[numOf]
 |succ j ih=>
  intro h;obtain⟨h1,h2,h3⟩:=KN s a j (by omega)
  grind[qS,Int.pow_succ]
theorem mt(s:ByteArray)(a j:Nat)(h:j<=aB bq (s.data.toList.drop a))(h4:j<=4):0<=numOf ((s.data.toList.drop a).take j)/\numOf ((s.data.toList.drop a).take j)<=9999:=by
 obtain⟨h1,h2⟩:=R9 s a j h;have h3:(10:Int)^j<=10000:=by
  match j,h4 with
  |0,_=>decide
  |1,_=>decide
  |2,_=>decide
  |3,_=>decide
  |4,_=>decide
 omega
theorem pz(s:ByteArray)(i:Nat)(hi:i<s.size):(s.data.toList.drop i).head?=some s[i]:=by grind[drop_one]
theorem GR(s:ByteArray)(i d line:Nat)(N:Int)(h:∃hi:i<s.size,s[i]=45)(hd:aB bq (s.data.toList.drop (i+1))=d)(d0:0<d)(d4:¬4<d)
  (hN:numOf ((s.data.toList.drop (i+1)).take d)=N):dP (s.data.toList.drop i) line=some (1+d,⟨105,⟨(iy (-N)).toArray⟩,-N,line⟩):=by
 obtain⟨hi,h⟩:=h;have e:(s.data.toList.drop i).drop 1=s.data.toList.drop (i+1):=by rw[List.drop_drop]
 simp only [dP,pz s i hi,h,if_true,e,hd,if_pos d0,if_neg d4,hN]
theorem GU(s:ByteArray)(i d line:Nat)(N:Int)(h:∃hi:i<s.size,¬s[i]=45)(hd:aB bq (s.data.toList.drop (i+0))=d)(d0:0<d)(d4:¬4<d)
  (hN:numOf ((s.data.toList.drop (i+0)).take d)=N):dP (s.data.toList.drop i) line=some (0+d,⟨105,⟨(iy N).toArray⟩,N,line⟩):=by
 obtain⟨hi,h⟩:=h;have e:¬(some s[i]=some 45):=by simpa using h
 simp only [Nat.add_zero]at hd hN;simp only [dP,pz s i hi,if_neg e,List.drop_zero,hd,if_pos d0,if_neg d4,hN];simp
theorem Dv(s:ByteArray)(i d line:Nat)(h:∃hi:i<s.size,s[i]=45)(hd:aB bq (s.data.toList.drop (i+1))=d)(d0:0<d)(d4:4<d):
  dP (s.data.toList.drop i) line=none:=by
 obtain⟨hi,h⟩:=h;have e:(s.data.toList.drop i).drop 1=s.data.toList.drop (i+1):=by rw[List.drop_drop]
 simp only [dP,pz s i hi,h,if_true,e,hd,if_pos d0,if_pos d4]
theorem Dw(s:ByteArray)(i d line:Nat)(h:∃hi:i<s.size,¬s[i]=45)(hd:aB bq (s.data.toList.drop (i+0))=d)(d0:0<d)(d4:4<d):
  dP (s.data.toList.drop i) line=none:=by
 obtain⟨hi,h⟩:=h;have e:¬(some s[i]=some 45):=by simpa using h
 simp only [Nat.add_zero]at hd;simp only [dP,pz s i hi,if_neg e,List.drop_zero,hd,if_pos d0,if_pos d4]
theorem mZ(s:ByteArray)(i n:Nat):(⟨((s.data.toList.drop i).take n).toArray⟩:ByteArray)=s.extract i (i+n):=by
 grind[Lib.extract_eq]
theorem xy(s:ByteArray)(i line:Nat)(h:∃hi:i<s.size,¬s[i]=45)(hd:aB bq (s.data.toList.drop (i+0))=0):
  dP (s.data.toList.drop i) line=(if jk (s[i]'(h.1))=true then
   (if 8<aB eG (s.data.toList.drop i)then none else some (aB eG (s.data.toList.drop i),⟨if dW.contains (s.extract i (i+aB eG (s.data.toList.drop i))).data.toList then 119 else 110,s.extract i (i+aB eG (s.data.toList.drop i)),0,line⟩))
   else if bg (s.data.toList.drop i)=0 then none else some (bg (s.data.toList.drop i),⟨115,s.extract i (i+bg (s.data.toList.drop i)),0,line⟩)):=by
 obtain⟨hi,h⟩:=h;have e:¬(some s[i]=some 45):=by simpa using h
 simp only [Nat.add_zero]at hd;simp only [dP,pz s i hi,if_neg e,List.drop_zero,hd,Nat.lt_irrefl,if_false,Option.map_some,Option.getD_some,mZ];simp
theorem Sb(s:ByteArray)(i line:Nat)(h:∃hi:i<s.size,s[i]=45)(hd:aB bq (s.data.toList.drop (i+1))=0):
  dP (s.data.toList.drop i) line=(if bg (s.data.toList.drop i)=0 then none else some (bg (s.data.toList.drop i),⟨115,s.extract i (i+bg (s.data.toList.drop i)),0,line⟩)):=by
 obtain⟨hi,h⟩:=h;have e:(s.data.toList.drop i).drop 1=s.data.toList.drop (i+1):=by rw[List.drop_drop]
 have e3:jk 45=false:=by decide
 simp only [dP,pz s i hi,h,if_true,e,hd,Nat.lt_irrefl,if_false,Option.map_some,Option.getD_some,e3,mZ];simp
theorem qw(s:ByteArray)(i n line:Nat)(h:∃hi:i<s.size,(¬s[i]=45)/\97<=(s[i].toNat:Int)/\(s[i].toNat:Int)<=122)(hd:aB bq (s.data.toList.drop (i+0))=0)
  (hn:aB eG (s.data.toList.drop i)=n) (n8:8<n):dP (s.data.toList.drop i) line=none:=by
 obtain⟨hi,h,l1,l2⟩:=h
 simp_all[xy,rS]
theorem rW(s:ByteArray)(i n line:Nat)(h:∃hi:i<s.size,(¬s[i]=45)/\97<=(s[i].toNat:Int)/\(s[i].toNat:Int)<=122)(hd:aB bq (s.data.toList.drop (i+0))=0)
  (hn:aB eG (s.data.toList.drop i)=n) (n8:¬8<n) (hw:dW.contains (s.extract i (i+n)).data.toList=false):dP (s.data.toList.drop i) line=some (n,⟨110,s.extract i (i+n),0,line⟩):=by
 obtain⟨hi,h,l1,l2⟩:=h
 simp_all[xy,rS,if_neg]
theorem rX(s:ByteArray)(i n line:Nat)(h:∃hi:i<s.size,(¬s[i]=45)/\97<=(s[i].toNat:Int)/\(s[i].toNat:Int)<=122)(hd:aB bq (s.data.toList.drop (i+0))=0)
  (hn:aB eG (s.data.toList.drop i)=n) (n8:¬8<n) (hw:dW.contains (s.extract i (i+n)).data.toList=true):dP (s.data.toList.drop i) line=some (n,⟨119,s.extract i (i+n),0,line⟩):=by
 obtain⟨hi,h,l1,l2⟩:=h
 simp_all[xy,rS,if_neg]
theorem kO(s:ByteArray)(i line:Nat)(h:∃hi:i<s.size,(¬s[i]=45)/\¬(97<=(s[i].toNat:Int)/\(s[i].toNat:Int)<=122))(hd:aB bq (s.data.toList.drop (i+0))=0)
  (hn:bg (s.data.toList.drop i)=0):dP (s.data.toList.drop i) line=none:=by
 obtain⟨hi,h,l⟩:=h
 simp_all[xy,KI]
theorem tZ(s:ByteArray)(i n line:Nat)(h:∃hi:i<s.size,(¬s[i]=45)/\¬(97<=(s[i].toNat:Int)/\(s[i].toNat:Int)<=122))(hd:aB bq (s.data.toList.drop (i+0))=0)
  (hn:bg (s.data.toList.drop i)=n) (n0:¬n=0):dP (s.data.toList.drop i) line=some (n,⟨115,s.extract i (i+n),0,line⟩):=by
 obtain⟨hi,h,l⟩:=h
 simp_all[xy,KI]
theorem oD(s:ByteArray)(i line:Nat)(h:∃hi:i<s.size,(s[i]=45)/\¬(97<=(s[i].toNat:Int)/\(s[i].toNat:Int)<=122))(hd:aB bq (s.data.toList.drop (i+1))=0)
  (hn:bg (s.data.toList.drop i)=0):dP (s.data.toList.drop i) line=none:=by
 obtain⟨hi,h,l⟩:=h
 simp_all[Sb]
theorem Ou(s:ByteArray)(i n line:Nat)(h:∃hi:i<s.size,(s[i]=45)/\¬(97<=(s[i].toNat:Int)/\(s[i].toNat:Int)<=122))(hd:aB bq (s.data.toList.drop (i+1))=0)
  (hn:bg (s.data.toList.drop i)=n) (n0:¬n=0):dP (s.data.toList.drop i) line=some (n,⟨115,s.extract i (i+n),0,line⟩):=by
 obtain⟨hi,h,l⟩:=h
 simp_all[Sb]
theorem qT(s:ByteArray)(i:Nat)(hi:i<s.size):bg (s.data.toList.drop i)<=2/\i+bg (s.data.toList.drop i)<=s.size:=by
 by_cases h:i+2<=s.size
 ·grind[bg,GM]
 ·rw[drop_one s i hi,List.drop_of_length_le (by simp;omega)];grind[bg]
theorem Dx(p:UInt8->Bool)(l:List UInt8):∀c∈l.take (aB p l),p c=true:=by
 induction l with
 |nil=>simp
 |cons c r ih=>
  simp only [aB]
  grind
theorem Sc(s:ByteArray)(i:Nat):32∉(s.extract i (i+aB eG (s.data.toList.drop i))).data.toList:=by
 rw[<-mZ];intro h;have:=Dx eG _ 32 (by simpa using h);revert this;decide
theorem GV(s:List UInt8)(hs:32∉s):fB s (⟨#[32,118,97,114,32,109,111,100,101,32,100,101,102,97,117,108,116,32,119,104,101,110,32,116,111,32,115,116,97,121,32,97,110,100,32,111,114,32,110,111,116,32,119,97,115,32,116,114,117,101,32]⟩:ByteArray).data.toList=dW.contains s:=
 oC s dW hs (by decide)
end Hx
end
section
open Go.RowKit
def xA(t:Hx.Tok):List Value:=[.int .u8 t.k,.string t.s,.int .i64 t.n,.int .i64 t.line]
def nN(ts:List Hx.Tok):List Value:=ts.flatMap xA
theorem iI(ts:List Hx.Tok)(t:Hx.Tok):nN (ts++[t])=nN ts++xA t:=by simp[nN]
theorem wE(ts:List Hx.Tok)(i j:Nat)(hi:i<ts.length)(hj:j<4):(nN ts)[i*4+j]?=(xA ts[i])[j]?:=by
 induction ts generalizing i with
 |nil=>simp at hi
 |cons t r ih=>
  show(xA t++nN r)[i*4+j]?=_
  cases i<;>grind[List.getElem?_append_left,xA,List.getElem?_append_right]
theorem aR(h:w.ownsRow base e size v n xs)(hn:0<n):
  ∃g cap,v=.slice (some ⟨g,0,none⟩) n cap/\base<=g/\g<w.heap.size/\n<=cap/\cap<=maxLen/\∀j,j<n*size->w.cell? ⟨g,j,none⟩=xs[j]?:=by
 rcases h.2 with⟨_,h0⟩|⟨g,cap,cur,rfl,hb,hg,h1,h2,_⟩
 ·omega
 ·exact⟨g,cap,rfl,hb,(Array.getElem?_eq_some_iff.1 hg).1,h1,h2,λj hj=>h.cellAt j hj⟩
theorem Dy{ts:List Hx.Tok}(h:w.ownsRow base e 4 v ts.length (nN ts))(hn:0<ts.length):
  ∃g cap,v=.slice (some ⟨g,0,none⟩) ts.length cap/\base<=g/\g<w.heap.size/\ts.length<=cap/\cap<=maxLen/\∀i (hi:i<ts.length),
   w.cell? ⟨g,i*4,none⟩=some (.int .u8 ts[i].k)/\w.cell? ⟨g,i*4+1,none⟩=some (.string ts[i].s)/\w.cell? ⟨g,i*4+2,none⟩=some (.int .i64 ts[i].n)/\w.cell? ⟨g,i*4+3,none⟩=some (.int .i64 ts[i].line):=by
 obtain⟨g,cap,hv,hb,hg,h1,h2,hc⟩:=aR h hn;refine⟨g,cap,hv,hb,hg,h1,h2,λi hi=>⟨?_,?_,?_,?_⟩⟩
 ·have:=wE ts i 0 hi (by omega);rw[Nat.add_zero]at this;rw[hc _ (by omega),this];rfl
 ·rw[hc _ (by omega),wE ts i 1 hi (by omega)];rfl
 ·rw[hc _ (by omega),wE ts i 2 hi (by omega)];rfl
 ·rw[hc _ (by omega),wE ts i 3 hi (by omega)];rfl
end
section
namespace Hx
abbrev b9:List UInt8:=[84,65,66,76,69]
abbrev e9:List UInt8:=[77,79,68,69]
abbrev dU:List UInt8:=[82,79,87,83]
abbrev bJ:List UInt8:=[77,79,68,69,83]
abbrev g9:List UInt8:=[68,79,69,83]
abbrev dc:List UInt8:=[71,85,65,82,68]
abbrev jg:List UInt8:=[79,82,83]
abbrev eO:List UInt8:=[67,79,78,74]
abbrev fb:List UInt8:=[65,78,68,83]
abbrev bW:List UInt8:=[85,78,73,84]
abbrev cB:List UInt8:=[78,65,77,69]
abbrev eP:List UInt8:=[73,78,84]
abbrev wF:List UInt8:=[79,80]
abbrev eE:List UInt8:=[118,97,114]
abbrev cS:List UInt8:=[109,111,100,101]
abbrev aO:List UInt8:=[100,101,102,97,117,108,116]
abbrev dB:List UInt8:=[119,104,101,110]
abbrev t6:List UInt8:=[116,111]
abbrev kn:List UInt8:=[115,116,97,121]
abbrev gY:List UInt8:=[97,110,100]
abbrev qh:List UInt8:=[111,114]
abbrev eK:List UInt8:=[110,111,116]
abbrev ew:List UInt8:=[119,97,115]
abbrev dQ:List UInt8:=[116,114,117,101]
abbrev Dz:List UInt8:=[123]
abbrev M3:List UInt8:=[125]
abbrev jY:List UInt8:=[40]
abbrev qU:List UInt8:=[41]
abbrev t7:List UInt8:=[59]
abbrev KO:List UInt8:=[46,46]
def eQ(t:Tok)(s:List UInt8):Bool:=t.k==119&&t.s.data.toList==s
def isS(t:Tok)(s:List UInt8):Bool:=t.k==115&&t.s.data.toList==s
def aA(y:List UInt8)(t:Tok):Option (List (List UInt8)):=
 if y=b9 then some (if eQ t eE then [eE,cB,eP,KO,eP,t7,b9]else [e9])
 else if y=e9 then some [cS,cB,Dz,dU]
 else if y=dU then some (if eQ t dB then [dB,dc,g9,t7,dU]else [bJ])
 else if y=bJ then some (if eQ t aO then [aO,e9,bJ]else if eQ t cS then [e9,bJ]else [M3])
 else if y=g9 then some (if eQ t t6 then [t6,cB]else [kn])
 else if y=dc then some [eO,jg]
 else if y=jg then some (if eQ t qh then [qh,eO,jg]else [])
 else if y=eO then some [bW,fb]
 else if y=fb then some (if eQ t gY then [gY,bW,fb]else [])
 else if y=bW then some (if eQ t eK then [eK,bW]else if isS t jY then [jY,dc,qU]else if eQ t dQ then [dQ]else if eQ t ew then [ew,cB,wF,eP]else [cB,wF,eP])
 else none
def fh(y:List UInt8)(t:Tok):Bool:=
 if y=cB then t.k==110
 else if y=eP then t.k==105
 else if y=wF then t.k==115&&rT.contains t.s.data.toList
 else(t.k==119||t.k==115)&&t.s.data.toList==y
def symbols:List (List UInt8):=[b9,e9,dU,bJ,g9,dc,jg,eO,fb,bW,cB,eP,wF,eE,cS,aO,dB,t6,kn,gY,qh,eK,ew,dQ,Dz,M3,jY,qU,t7,KO]
def dX:Nat->List (List UInt8)->List Tok->Option Nat
 |0,_,_=>none
 |_+1,[],ts=>match ts with
  |[]=>none
  |t::_=>some (if t.k=101 then 0 else t.line)
 |f+1,y::rest,ts=>match ts with
  |[]=>none
  |t::r=>match aA y t with
   |some m=>dX f (m++rest) (t::r)
   |none=>if fh y t then dX f rest r else some t.line
theorem jD{t:Tok}(h1:(t.k:Int)=119)(h2:(t.s.toList==y)=true):eQ t y=true:=by
 grind[eQ,Lib.toList_data]
theorem jE{t:Tok}(h1:¬(t.k:Int)=119):eQ t y=false:=by
 grind[beq_eq_false_iff_ne,Bool.and_eq_false_iff,eQ]
theorem jF{t:Tok}(h2:(t.s.toList==y)=false):eQ t y=false:=by
 grind[eQ,Lib.toList_data]
theorem ZK{t:Tok}(h1:(t.k:Int)=115)(h2:(t.s.toList==y)=true):isS t y=true:=by
 grind[isS,Lib.toList_data]
theorem ZL{t:Tok}(h1:¬(t.k:Int)=115):isS t y=false:=by
 grind[beq_eq_false_iff_ne,Bool.and_eq_false_iff,isS]
theorem ZM{t:Tok}(h2:(t.s.toList==y)=false):isS t y=false:=by
 grind[isS,Lib.toList_data]
structure lD(t:Tok):Prop where
 size:t.s.size<=8
 blank:32∉t.s.data.toList
 lo:-9999<=t.n
 hi:t.n<=9999
 line:t.line<=3001
 kind:t.k<256
theorem Ov(s:List UInt8)(hs:32∉s):fB s (⟨#[32,60,32,60,61,32,61,61,32,33,61,32,62,61,32,62,32]⟩:ByteArray).data.toList=rT.contains s:=
 oC s rT hs (by decide)
def t8:List (List UInt8):=[cB,eP,wF,eE,cS,aO,dB,t6,kn,gY,qh,eK,ew,dQ,Dz,M3,jY,qU,t7,KO]
theorem GX(y:List UInt8)(t:Tok)(hy:y∈symbols)(h:aA y t=none):y∈t8:=by
 simp only [symbols,List.mem_cons,List.not_mem_nil,or_false]at hy;rcases hy with rfl|rfl|rfl|rfl|rfl|rfl|rfl|rfl|rfl|rfl|hy
 ·grind[absurd,aA]
 ·grind[absurd,aA]
 ·grind[absurd,aA]
 ·grind[absurd,aA]
 ·grind[absurd,aA]
 ·grind[absurd,aA]
 ·grind[absurd,aA]
 ·grind[absurd,aA]
 ·grind[absurd,aA]
 ·grind[absurd,aA]
 simp_all[t8,List.mem_cons,List.not_mem_nil,or_false]
theorem iS{p:List (List UInt8)->Prop}{c:Prop}[Decidable c]{a b:List (List UInt8)}(ha:p a)(hb:p b):p (if c then a else b):=by grind
theorem KP(y:List UInt8)(t:Tok)(m:List (List UInt8))(hy:y∈symbols)(h:aA y t=some m):(∀z∈m,z∈symbols)/\m.length<=7:=by
 let p:List (List UInt8)->Prop:=λm=>(∀z∈m,z∈symbols)/\m.length<=7
 show p m;simp only [symbols,List.mem_cons,List.not_mem_nil,or_false]at hy;rcases hy with rfl|rfl|rfl|rfl|rfl|rfl|rfl|rfl|rfl|rfl|hy
 ·cases (show some _=some m from h);exact iS ⟨by decide,by decide⟩ ⟨by decide,by decide⟩
 ·cases (show some _=some m from h);exact⟨by decide,by decide⟩
 ·cases (show some _=some m from h);exact iS ⟨by decide,by decide⟩ ⟨by decide,by decide⟩
 ·cases (show some _=some m from h);exact iS ⟨by decide,by decide⟩ (iS ⟨by decide,by decide⟩ ⟨by decide,by decide⟩)
 ·cases (show some _=some m from h);exact iS ⟨by decide,by decide⟩ ⟨by decide,by decide⟩
 ·cases (show some _=some m from h);exact⟨by decide,by decide⟩
 ·cases (show some _=some m from h);exact iS ⟨by decide,by decide⟩ ⟨by decide,by decide⟩
 ·cases (show some _=some m from h);exact⟨by decide,by decide⟩
 ·cases (show some _=some m from h);exact iS ⟨by decide,by decide⟩ ⟨by decide,by decide⟩
 ·cases (show some _=some m from h);exact iS ⟨by decide,by decide⟩ (iS ⟨by decide,by decide⟩ (iS ⟨by decide,by decide⟩ (iS ⟨by decide,by decide⟩ ⟨by decide,by decide⟩)))
 ·exfalso
  rcases hy with rfl|rfl|rfl|rfl|rfl|rfl|rfl|rfl|rfl|rfl|rfl|rfl|rfl|rfl|rfl|rfl|rfl|rfl|rfl|rfl
  all_goals exact absurd (show none=some m from h) (by simp)
theorem M4{t:Tok}{r:List Tok}(h:dX (k+1) [] (t::r)=some R):R=if t.k=101 then 0 else t.line:=by
 grind[dX,Option.some.injEq]
theorem M5{t:Tok}{r:List Tok}(h:dX (k+1) [] (t::r)=some R)(hk:((t.k:Int) !=101)=false):(0:Int)=R:=by
 rw[M4 h,if_pos (by grind)];rfl
theorem GY{t:Tok}{r:List Tok}(h:dX (k+1) [] (t::r)=some R)(hk:((t.k:Int) !=101)=true):(t.line:Int)=R:=by
 rw[M4 h,if_neg (by grind)]
theorem oE{m:List (List UInt8)}{t:Tok}{r:List Tok}(h:dX (k+1) (y::rest) (t::r)=some R)(hm:aA y t=some m):dX k (m++rest) (t::r)=some R:=by
 grind[dX]
theorem rY{t:Tok}{r:List Tok}(h:dX (k+1) (y::rest) (t::r)=some R)(hm:aA y t=none)(hf:fh y t=true):dX k rest r=some R:=by
 simp_all[dX]
theorem Ow{t:Tok}{r:List Tok}(h:dX (k+1) (y::rest) (t::r)=some R)(hm:aA y t=none)(hf:fh y t=false):(t.line:Int)=R:=by
 grind[dX]
end Hx
namespace Hx
structure Sd where
 name:ByteArray
 lo:Int
 hi:Int
structure vV where
 to:ByteArray
 line:Nat
 gd:List Tok
structure fX where
 name:ByteArray
 line:Nat
 outer:Int
 dflt:Bool
 rows:List vV
structure St where
 vars:List Sd
 af:List fX
 atoms:List (List Tok)
 rows:Nat
 code:Nat
 line:Nat
def St.zero:St:=⟨[],[],[],0,0,0⟩
def St.aS(s:St)(is:Bool)(code line:Nat):St:=if is&&s.code==0 then{s with code:=code,line:=line}else s
def place(n:ByteArray):Nat->List ByteArray->Int
 |_,[]=>-1
 |k,a::r=>if a.toList==n.toList then(k:Int)else place n (k+1) r
theorem DA(n:ByteArray)(l:List ByteArray)(k i:Nat)(h:i<l.length)(e:(l[i].toList==n.toList)=true):place n k (l.drop i)=k:=by
 rw[List.drop_eq_getElem_cons h,place,if_pos e]
theorem xB(n:ByteArray)(l:List ByteArray)(k i:Nat)(h:i<l.length)(e:(l[i].toList==n.toList)=false):place n k (l.drop i)=place n (k+1) (l.drop (i+1)):=by
 rw[List.drop_eq_getElem_cons h,place,if_neg (by simp[e])]
theorem DB(n:ByteArray)(l:List ByteArray)(k i:Nat)(h:l.length<=i):place n k (l.drop i)=-1:=by
 rw[List.drop_of_length_le h,place]
theorem kG(n:ByteArray)(l:List ByteArray)(k:Nat):decide (0<=place n k l)=l.any (λa=>a.toList==n.toList):=by
 induction l generalizing k<;>grind[place]
def St.hasVar(s:St)(n:ByteArray):Bool:=(s.vars.map (·.name)).any λa=>a.toList==n.toList
def St.dx(s:St)(n:ByteArray):Bool:=(s.af.map (·.name)).any λa=>a.toList==n.toList
def lT(n least:Int):Bool:=decide (1000<n)||decide (n< -1000)||decide (n<least)
def St.number(s:St)(t:Tok)(least:Int):St:=s.aS (lT t.n least) 4 t.line
def fe(a b:Tok):Bool:=a.k==b.k&&a.s.toList==b.s.toList
def dj:List Tok->List Tok->Bool
 |[],[]=>true
 |a::r,b::q=>fe a b&&dj r q
 |_,_=>false
theorem Se(a b:List Tok)(h:a.length≠b.length):dj a b=false:=by
 induction a generalizing b with
 |nil=>cases b with
  |nil=>simp at h
  |cons _ _=>rfl
 |cons x r ih=>cases b<;>grind[dj]
theorem Ox(a b:List Tok)(i:Nat)(h1:i<a.length)(h2:i<b.length):dj (a.drop i) (b.drop i)=(fe a[i] b[i]&&dj (a.drop (i+1)) (b.drop (i+1))):=by
 rw[List.drop_eq_getElem_cons h1,List.drop_eq_getElem_cons h2];rfl
theorem Sf(a b:List Tok)(i:Nat)(h1:a.length<=i)(h2:b.length<=i):dj (a.drop i) (b.drop i)=true:=by
 rw[List.drop_of_length_le h1,List.drop_of_length_le h2];rfl
def St.atom(s:St)(l:List Tok)(nm num:Tok):St:=
 if s.atoms.any (λa=>dj a l)then s
 else
  let s1:=s.aS (s.atoms.length==8) 1 nm.line
  let s2:=s1.aS (!s.hasVar nm.s) 3 nm.line
  let s3:=s2.number num (-1000)
  {s3 with atoms:=s3.atoms++[l]}
theorem wG{α:Type}(p:α->Bool)(l:List α)(i:Nat)(h:i<l.length)(e:p l[i]=true):(l.drop i).any p=true:=by
 grind[List.drop_eq_getElem_cons]
theorem kP{α:Type}(p:α->Bool)(l:List α)(i:Nat)(h:i<l.length)(e:p l[i]=false):(l.drop i).any p=(l.drop (i+1)).any p:=by
 grind[List.drop_eq_getElem_cons]
theorem wH{α:Type}(p:α->Bool)(l:List α)(i:Nat)(h:l.length<=i):(l.drop i).any p=false:=by
 rw[List.drop_of_length_le h];rfl
theorem St.bR(s:St)(b:Bool)(c l:Nat):(s.aS b c l).vars=s.vars:=by grind[St.aS]
theorem St.bw(s:St)(b:Bool)(c l:Nat):(s.aS b c l).af=s.af:=by grind[St.aS]
theorem St.bN(s:St)(b:Bool)(c l:Nat):(s.aS b c l).atoms=s.atoms:=by grind[St.aS]
theorem St.dC(s:St)(b:Bool)(c l:Nat):(s.aS b c l).rows=s.rows:=by grind[St.aS]
theorem St.jL(s:St)(t:Tok)(x:Int):(s.number t x).vars=s.vars:=St.bR _ _ _ _
theorem St.iT(s:St)(t:Tok)(x:Int):(s.number t x).af=s.af:=St.bw _ _ _ _
theorem St.iU(s:St)(t:Tok)(x:Int):(s.number t x).atoms=s.atoms:=St.bN _ _ _ _
theorem St.oF(s:St)(t:Tok)(x:Int):(s.number t x).rows=s.rows:=St.dC _ _ _ _
theorem St.rZ(s:St)(l:List Tok)(nm num:Tok)(h:s.atoms.any (λa=>dj a l)=false):
  s.atom l nm num={(((s.aS (s.atoms.length==8) 1 nm.line).aS (!s.hasVar nm.s) 3 nm.line).number num (-1000))with atoms:=(((s.aS (s.atoms.length==8) 1 nm.line).aS (!s.hasVar nm.s) 3 nm.line).number num (-1000)).atoms++[l]}:=by
 simp_all[if_neg,St.atom]
theorem Sg(s:St)(n:ByteArray):decide (place n 0 (s.vars.map (·.name))<0)=!s.hasVar n:=by
 rw[St.hasVar,<-kG n _ 0]
 grind
theorem Oy(s:St)(n:ByteArray):decide (0<=place n 0 (s.vars.map (·.name)))=s.hasVar n:=kG n _ 0
theorem KQ(s:St)(n:ByteArray):decide (0<=place n 0 (s.af.map (·.name)))=s.dx n:=kG n _ 0
def oG:List (List UInt8):=[[97,110,100],[111,114],[110,111,116],[119,97,115],[116,114,117,101]]
theorem xC(s:List UInt8)(hs:32∉s):fB s (⟨#[32,97,110,100,32,111,114,32,110,111,116,32,119,97,115,32,116,114,117,101,32]⟩:ByteArray).data.toList=oG.contains s:=
 oC s oG hs (by decide)
def gF:Nat->Tok->List Tok->Int->St->Option (St×List Tok)
 |0,_,_,_,_=>none
 |_+1,_,[],_,_=>none
 |f+1,prev,t::r,deep,s=>
  if isS t jY then gF f t r (deep+1) (s.aS (deep==6) 1 t.line)
  else if isS t qU then gF f t r (deep-1) s
  else if t.k=110 then match r with
   |a::b::r'=>gF f b r' deep (s.atom (if eQ prev ew then [prev,t,a,b]else [t,a,b]) t b)
   |_=>none
  else if t.k==119&&oG.contains t.s.data.toList then gF f t r deep s
  else some (s,t::r)
theorem ZN{f:Nat}{prev t:Tok}{r:List Tok}{deep:Int}{s:St}{R:St×List Tok}(h:gF (f+1) prev (t::r) deep s=some R)(h1:isS t jY=true):gF f t r (deep+1) (s.aS (deep==6) 1 t.line)=some R:=by
 simp_all[gF]
theorem ZO{f:Nat}{prev t:Tok}{r:List Tok}{deep:Int}{s:St}{R:St×List Tok}(h:gF (f+1) prev (t::r) deep s=some R)(h1:isS t jY=false)(h2:isS t qU=true):gF f t r (deep-1) s=some R:=by
 simp_all[gF,Bool.false_eq_true]
theorem ZP{f:Nat}{prev t:Tok}{r:List Tok}{deep:Int}{s:St}{R:St×List Tok}(h:gF (f+1) prev (t::r) deep s=some R)(h1:isS t jY=false)(h2:isS t qU=false)(h3:t.k=110):
  ∃a b r',r=a::b::r'/\gF f b r' deep (s.atom (if eQ prev ew then [prev,t,a,b]else [t,a,b]) t b)=some R:=by
 simp only [gF,h1,h2,h3,if_true,Bool.false_eq_true,if_false]at h
 grind
theorem ZQ{f:Nat}{prev t:Tok}{r:List Tok}{deep:Int}{s:St}{R:St×List Tok}(h:gF (f+1) prev (t::r) deep s=some R)(h1:isS t jY=false)(h2:isS t qU=false)(h3:¬t.k=110)(h4:(t.k==119&&oG.contains t.s.data.toList)=true):gF f t r deep s=some R:=by
 simp_all[gF,Bool.false_eq_true]
theorem KS{f:Nat}{prev t:Tok}{r:List Tok}{deep:Int}{s:St}{R:St×List Tok}(h:gF (f+1) prev (t::r) deep s=some R)(h1:isS t jY=false)(h2:isS t qU=false)(h3:¬t.k=110)(h4:(t.k==119&&oG.contains t.s.data.toList)=false):R=(s,t::r):=by
 simp only [gF,h1,h2,h3,h4,Bool.false_eq_true,if_false,Option.some.injEq]at h;grind
theorem St.mv(s:St)(l:List Tok)(a b:Tok):(s.atom l a b).vars=s.vars:=by
 grind[St.jL,St.bR,St.atom]
theorem St.xD(s:St)(l:List Tok)(a b:Tok):(s.atom l a b).af=s.af:=by
 grind[St.iT,St.bw,St.atom]
theorem St.pA(s:St)(l:List Tok)(a b:Tok):(s.atom l a b).rows=s.rows:=by
 grind[St.oF,St.dC,St.atom]
theorem St.oH(s:St)(l:List Tok)(a b:Tok):(s.atom l a b).atoms.length<=s.atoms.length+1:=by
 grind[St.iU,St.bN,St.atom]
def cy(ms:List fX)(i:Nat)(r:vV):List fX:=ms.modify i (λm=>{m with rows:=m.rows++[r]})
def St.addVar(s:St)(a b d:Tok):St:=
 let s4:=(((s.aS (s.vars.length==3) 1 a.line).aS (s.hasVar a.s) 3 a.line).number b (-1000)).number d b.n
 {s4 with vars:=s4.vars++[⟨a.s,b.n,d.n⟩]}
def St.bT(s:St)(a:Tok)(inn deep:Int)(dear:Bool):St:=
 let s2:=(s.aS (s.af.length==12||deep==6) 1 a.line).aS (s.dx a.s) 3 a.line
 {s2 with af:=s2.af++[⟨a.s,a.line,inn,dear,[]⟩]}
def St.ff(s:St)(t:Tok):St:=let s1:=s.aS (s.rows==24) 1 t.line;{s1 with rows:=s1.rows+1}
def xE(r l:List Tok):List Tok:=r.take (r.length-l.length-1)
def dk:Nat->List Tok->Int->Int->Bool->St->Option St
 |0,_,_,_,_,_=>none
 |_+1,[],_,_,_,_=>none
 |f+1,t::r,inn,deep,dear,s=>
  if t.k=101 then some s
  else if t.s.toList==eE then match r with
   |a::b::_::d::_::r'=>dk f r' inn deep dear (s.addVar a b d)
   |_=>none
  else if t.s.toList==aO then dk f r inn deep true s
  else if t.s.toList==cS then match r with
   |a::_::r'=>dk f r' s.af.length (deep+1) false (s.bT a inn deep dear)
   |_=>none
  else if t.s.toList==dB then
   if 0<=inn/\inn<s.af.length then
    match gF f t r 0 (s.ff t)with
    |some (s2,d::a::r')=>
     if d.s.toList==t6 then match r' with
      |_::r''=>dk f r'' inn deep dear {s2 with af:=cy s2.af inn.toNat ⟨a.s,a.line,xE r (a::r')⟩}
      |[]=>none
     else dk f r' inn deep dear {s2 with af:=cy s2.af inn.toNat ⟨⟨#[]⟩,0,xE r (a::r')⟩}
    |_=>none
   else none
  else if h:0<=inn/\inn.toNat<s.af.length then dk f r (s.af[inn.toNat]'h.2).outer (deep-1) dear s
  else none
section
variable {f:Nat} {t:Tok} {r:List Tok} {inn deep:Int} {dear:Bool} {s S:St}
theorem Ez(h:dk (f+1) (t::r) inn deep dear s=some S)(h1:t.k=101):s=S:=by
 simp_all[dk,Option.some.injEq]
theorem wI(h:dk (f+1) (t::r) inn deep dear s=some S)(h1:¬t.k=101)(e1:(t.s.toList==eE)=true):
  ∃a b c d e r',r=a::b::c::d::e::r'/\dk f r' inn deep dear (s.addVar a b d)=some S:=by
 simp only [dk,if_neg h1,e1,if_true]at h
 grind
theorem lE(h:dk (f+1) (t::r) inn deep dear s=some S)(h1:¬t.k=101)(e1:(t.s.toList==eE)=false)(e2:(t.s.toList==aO)=true):dk f r inn deep true s=some S:=by
 simp_all[dk,Bool.false_eq_true]
theorem r5(h:dk (f+1) (t::r) inn deep dear s=some S)(h1:¬t.k=101)(e1:(t.s.toList==eE)=false)(e2:(t.s.toList==aO)=false)(e3:(t.s.toList==cS)=true):
  ∃a b r',r=a::b::r'/\dk f r' s.af.length (deep+1) false (s.bT a inn deep dear)=some S:=by
 simp only [dk,if_neg h1,e1,e2,e3,if_true,Bool.false_eq_true,if_false]at h
 grind
theorem r7(h:dk (f+1) (t::r) inn deep dear s=some S)(h1:¬t.k=101)(e1:(t.s.toList==eE)=false)(e2:(t.s.toList==aO)=false)(e3:(t.s.toList==cS)=false)(e4:(t.s.toList==dB)=true):
  0<=inn/\inn<s.af.length/\∃s2 d a r',gF f t r 0 (s.ff t)=some (s2,d::a::r')/\
   (((d.s.toList==t6)=true/\∃b r'',r'=b::r''/\dk f r'' inn deep dear {s2 with af:=cy s2.af inn.toNat ⟨a.s,a.line,xE r (a::r')⟩}=some S)\/
    ((d.s.toList==t6)=false/\dk f r' inn deep dear {s2 with af:=cy s2.af inn.toNat ⟨⟨#[]⟩,0,xE r (a::r')⟩}=some S)):=by
 simp only [dk,if_neg h1,e1,e2,e3,e4,if_true,Bool.false_eq_true,if_false]at h;split at h
 ·rename_i tQ
  refine⟨tQ.1,tQ.2,?_⟩;split at h
  ·rename_i s2 d a r' hg
   refine⟨s2,d,a,r',hg,?_⟩
   grind
  ·cases h
 ·cases h
theorem r8(h:dk (f+1) (t::r) inn deep dear s=some S)(h1:¬t.k=101)(e1:(t.s.toList==eE)=false)(e2:(t.s.toList==aO)=false)(e3:(t.s.toList==cS)=false)(e4:(t.s.toList==dB)=false):
  ∃(_:0<=inn)(h2:inn.toNat<s.af.length),dk f r (s.af[inn.toNat]'h2).outer (deep-1) dear s=some S:=by
 simp only [dk,if_neg h1,e1,e2,e3,e4,Bool.false_eq_true,if_false]at h;split at h
 all_goals simp_all
end
end Hx
end
section
namespace Hx
theorem M6(f:Nat):∀prev l d s s2 l2,gF f prev l d s=some (s2,l2)->s2.af=s.af/\s2.vars=s.vars/\s2.rows=s.rows/\s2.atoms.length+l2.length<=s.atoms.length+l.length:=by
 induction f with
 |zero=>grind[gF]
 |succ f ih=>
  intro prev l d s s2 l2 h
  cases l with
  |nil=>simp[gF]at h
  |cons t r=>
   simp only [gF]at h;split at h
   ·grind[List.length_cons,St.bw,St.bR,St.dC,St.bN]
   ·split at h
    ·grind
    ·split at h
     ·split at h
      ·rename_i a b r'
       have h1:=ih _ _ _ _ _ _ h;rw[St.xD,St.mv,St.pA]at h1;have h2:=St.oH s (if eQ prev ew then [prev,t,a,b]else [t,a,b]) t b
       grind
      ·cases h
     grind
theorem oI(ms:List fX)(q n:Nat)(r:vV)(h:∀m∈ms,m.rows.length<=n):∀m∈cy ms q r,m.rows.length<=n+1:=by
 intro m hm;obtain⟨i,hi⟩:=List.getElem?_of_mem hm;rw[cy,List.getElem?_modify]at hi
 grind
end Hx
namespace Hx
theorem KT(f:Nat):∀prev l d s s2 l2,gF f prev l d s=some (s2,l2)->l2.length<=l.length:=by
 induction f with
 |zero=>grind[gF]
 |succ f ih=>
  intro prev l d s s2 l2 h
  cases l with
  |nil=>simp[gF]at h
  |cons t r=>
   simp only [gF]at h
   grind
theorem zv(s:St)(a b d:Tok):(s.addVar a b d).af=s.af:=by simp[St.addVar,St.iT,St.bw]
theorem oJ(s:St)(a:Tok)(i d:Int)(b:Bool):(s.bT a i d b).af=s.af++[⟨a.s,a.line,i,b,[]⟩]:=by simp[St.bT,St.bw]
theorem xF(s:St)(t:Tok):(s.ff t).af=s.af:=by simp[St.ff,St.bw]
theorem KU(f:Nat):∀l inn d dear s S,dk f l inn d dear s=some S->∀N,s.af.length<=N->(∀m∈s.af,m.rows.length<=N)->S.af.length<=N+l.length/\∀m∈S.af,m.rows.length<=N+l.length:=by
 induction f with
 |zero=>grind[dk]
 |succ f ih=>
  intro l inn d dear s S h N h0 h00
  cases l with
  |nil=>simp[dk]at h
  |cons t r=>
   have lift:∀(s':St)(l':List Tok)(k:Nat),(∀N,s'.af.length<=N->(∀m∈s'.af,m.rows.length<=N)->S.af.length<=N+l'.length/\∀m∈S.af,m.rows.length<=N+l'.length)->l'.length+k<=(t::r).length->s'.af.length<=N+k->(∀m∈s'.af,m.rows.length<=N+k)->S.af.length<=N+(t::r).length/\∀m∈S.af,m.rows.length<=N+(t::r).length:=λs' l' k hh hk h1 h2=>by
    grind
   by_cases h1:t.k=101
   ·grind[Ez]
   ·cases e1:(t.s.toList==eE)with
    |true=>
     obtain⟨a,b,c,d',e,r',rfl,h2⟩:=wI h h1 e1
     grind[List.length_cons,zv]
    |false=>
     cases e2:(t.s.toList==aO)with
     |true=>exact lift _ r 0 (ih _ _ _ _ _ _ (lE h h1 e1 e2)) (by simp) h0 h00
     |false=>
      cases e3:(t.s.toList==cS)with
      |true=>
       obtain⟨a,b,r',rfl,h2⟩:=r5 h h1 e1 e2 e3;refine lift _ r' 1 (ih _ _ _ _ _ _ h2) (by simp) (by grind[oJ,List.length_append]) (λm hm=>?_)
       grind[List.mem_singleton,oJ]
      |false=>
       cases e4:(t.s.toList==dB)with
       |true=>
        obtain⟨_,_,s2,d',a,r',hg,h2⟩:=r7 h h1 e1 e2 e3 e4;obtain⟨km,_,_,_⟩:=M6 _ _ _ _ _ _ _ hg;have kl:=KT _ _ _ _ _ _ _ hg;rw[xF]at km;simp only [List.length_cons]at kl;rcases h2 with⟨_,b,r'',rfl,h2⟩|⟨_,h2⟩
        ·refine lift _ r'' 1 (ih _ _ _ _ _ _ h2) (by grind) (by grind[cy,List.length_modify]) (λm hm=>?_)
         simp only at hm;rw[km]at hm;exact oI s.af _ N _ h00 m hm
        ·refine lift _ r' 1 (ih _ _ _ _ _ _ h2) (by grind) (by grind[cy,List.length_modify]) (λm hm=>?_)
         simp only at hm;rw[km]at hm;exact oI s.af _ N _ h00 m hm
       |false=>
        obtain⟨_,_,h2⟩:=r8 h h1 e1 e2 e3 e4
        grind
end Hx
def eR(s0:Hx.St)(s:Hx.St)(m:Hx.fX):Hx.St:=m.rows.foldl (λs r=>s.aS (!(r.to.toList==[])&& !(s0.dx r.to)) 3 r.line) s
def oK(s0:Hx.St)(s:Hx.St)(i:Nat)(m:Hx.fX):Hx.St:=
 s.aS (decide (0<(s0.af.filter λk=>decide (k.outer=(i:Int))).length)&&decide (((s0.af.filter λk=>decide (k.outer=(i:Int))).filter λk=>k.dflt).length≠1)) 5 m.line
def kQ(s0:Hx.St):Nat->List Hx.fX->Hx.St->Hx.St
 |_,[],s=>s
 |i,m::r,s=>kQ s0 (i+1) r (oK s0 s i m)
def fi(s0:Hx.St):Hx.St:=kQ s0 0 s0.af (s0.af.foldl (eR s0) s0)
