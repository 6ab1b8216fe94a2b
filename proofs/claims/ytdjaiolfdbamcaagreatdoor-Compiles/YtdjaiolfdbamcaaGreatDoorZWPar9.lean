/- The table that the program builds, as it lies in memory: what storing, appending and making a new mode do. -/
import Derived.Test.YtdjaiolfdbamcaaGreatDoorZWPar5
set_option maxRecDepth 20000
set_option maxHeartbeats 2000000
namespace Go.Proofs.YtdjaiolfdbamcaaGreatDoor
variable {base e i tb:Nat}{v v' vm vt vv:Value}{w w':World}{F:Nat->Prop}{xs:List Value}
section
open Go.RowKit
structure az where
 name:Hx.Tok
 first:Hx.Tok
 last:Hx.Tok
def fp(v:az):List Value:=lz v.name++lz v.first++lz v.last
structure MG where
 a:Hx.MA
 bZ:Nat
 ar:Option Nat
 vr:Value
 vw:Value
 wi:List Nat
def dz(b:Nat):Value:=.pointer (some ⟨b,0,none⟩)
def arV:Option Nat->Value
 |none=>.pointer none
 |some b=>dz b
def MG.box(m:MG):List Value:=lz m.a.name++[.bool m.a.dflt,.int .i64 m.a.depth,arV m.ar,m.vr,m.vw]
def MG.r0(m:MG):Rw:=Rw.box 171 m.bZ m.box
def MG.r1(m:MG):Rw:=⟨232,10,m.a.rows.length,m.vr,m.a.rows.flatMap fO⟩
def MG.r2(m:MG):Rw:=⟨164,1,m.wi.length,m.vw,m.wi.map dz⟩
def MG.rws(m:MG):List Rw:=[m.r0,m.r1,m.r2]
def cJ(tb:Nat)(vt vv vm:Value)(vs:List az)(gs:List MG):List Rw:=
 Rw.box 87 tb [vt,vv,vm]::⟨166,12,vs.length,vv,vs.flatMap fp⟩::⟨164,1,gs.length,vm,gs.map λm=>dz m.bZ⟩::gs.flatMap MG.rws
theorem Mk(gs:List MG)(i j:Nat)(hi:i<gs.length)(hj:j<3):(gs.flatMap MG.rws)[i*3+j]?=gs[i].rws[j]?:=by
 induction gs generalizing i with
 |nil=>simp at hi
 |cons m r ih=>
  rw[List.flatMap_cons]
  cases i with
  |zero=>grind[List.getElem?_append_left,MG.rws]
  |succ i=>
   rw[List.getElem?_append_right (by grind[MG.rws])];have:=ih i (by grind);simp only [MG.rws,List.length_cons,List.length_nil,List.getElem_cons_succ]at*
   grind
theorem abP(gs:List MG)(i:Nat)(m:MG)(hi:i<gs.length):(gs.set i m).flatMap MG.rws=(((gs.flatMap MG.rws).set (i*3) m.r0).set (i*3+1) m.r1).set (i*3+2) m.r2:=by
 induction gs generalizing i with
 |nil=>simp
 |cons x r ih=>
  cases i with
  |zero=>simp[MG.rws]
  |succ i=>
   grind[MG.rws]
theorem oU{vs:List az}{gs:List MG}(hi:i<gs.length):(cJ tb vt vv vm vs gs)[i*3+3]?=some gs[i].r0:=by
 have:=Mk gs i 0 hi (by omega)
 grind[cJ,MG.rws]
theorem uz{vs:List az}{gs:List MG}(hi:i<gs.length):(cJ tb vt vv vm vs gs)[i*3+4]?=some gs[i].r1:=by
 grind[cJ,MG.rws,Mk]
theorem pd{vs:List az}{gs:List MG}(hi:i<gs.length):(cJ tb vt vv vm vs gs)[i*3+5]?=some gs[i].r2:=by
 simp_all[cJ,MG.rws,Mk]
theorem kZ{α:Type}(l:List α)(i:Nat)(x:α)(h:l[i]?=some x):l.set i x=l:=by
 obtain⟨hl,rfl⟩:=List.getElem?_eq_some_iff.1 h;simp
theorem Mb{vs:List az}{gs:List MG}{m:MG}(hi:i<gs.length)(hb:m.bZ=gs[i].bZ):
  cJ tb vt vv vm vs (gs.set i m)=(((cJ tb vt vv vm vs gs).set (i*3+3) m.r0).set (i*3+4) m.r1).set (i*3+5) m.r2:=by
 simp_all[List.set_cons_succ,cJ,abP,List.length_set,dz,List.map_set,kZ]
structure PT(w:World)(base tb:Nat)(vt:Value)(vs:List az)(gs:List MG)(F:Nat->Prop)(vv vm:Value):Prop where
 mem:dr w base (cJ tb vt vv vm vs gs)
 vF:∀k,mj (cJ tb vt vv vm vs gs) k->F k
 low:base<=w.heap.size
theorem PT.mono{vs:List az}{gs:List MG}{G:Nat->Prop}(h:PT w base tb vt vs gs F vv vm)(hFG:∀k,F k->G k):PT w base tb vt vs gs G vv vm:=⟨h.mem,λk hk=>hFG k (h.vF k hk),h.low⟩
theorem PT.kept{vs:List az}{gs:List MG}{G:Nat->Prop}(h:PT w base tb vt vs gs F vv vm)(hk:Kp G w w')(hd:∀k,F k->¬G k):PT w' base tb vt vs gs F vv vm:=
 ⟨h.mem.kept hk (λk hf=>hd k (h.vF k hf)),h.vF,Nat.le_trans h.low hk.size⟩
theorem PT.below{vs:List az}{gs:List MG}(h:PT w base tb vt vs gs F vv vm)(hb:Below w.heap.size w w'):PT w' base tb vt vs gs F vv vm:=
 ⟨h.mem.below hb,h.vF,Nat.le_trans h.low hb.size⟩
theorem dr.alr{L:List Rw}{G:Nat->Prop}(h:dr w base L){b:Nat}{ys:List Value}(hr:L[i]?=some (Rw.box e b xs))(hk:Kp G w w')(hG:∀k,mj L k->G k->k=b)
  (hb:w'.heap[b]?=some (.cells ys.toArray e (0,0))):dr w' base (L.set i (Rw.box e b ys)):=by
 have oA:=(List.getElem?_eq_some_iff.1 hr).1;have KX:=h.lt (k:=b) hr rfl;refine⟨λj r hj=>?_,λj k x y N9 hx hy=>?_⟩
 ·rw[List.getElem?_set]at hj
  by_cases ej:i=j
  ·rw[if_pos ej,if_pos oA]at hj
   cases hj
   refine⟨by simp[Rw.box],.inr ⟨b,1,ys.toArray,rfl,KX.1,?_,Nat.le_refl 1,by grind[maxLen],by simp[Rw.box],by simp[Rw.box]⟩⟩
   grind[Rw.box]
  ·rw[if_neg ej]at hj
   refine hk.own (h.own j r hj) (λk e hg=>?_);have:=hG k ⟨j,r,hj,e⟩ hg;subst this;rcases h.apart j i r _ (λe=>ej e.symm) hj hr with h1|h1
   ·grind
   ·exact h1 (by rw[e];rfl)
 ·rw[List.getElem?_set]at hx hy
  by_cases ej:i=j
  ·rw[if_pos ej,if_pos oA]at hx
   rw[if_neg (by omega)]at hy
   cases hx
   subst ej;exact(h.apart i k (Rw.box e b xs) y N9 hr hy)
  ·rw[if_neg ej]at hx
   by_cases ek:i=k
   ·rw[if_pos ek,if_pos oA]at hy
    cases hy
    subst ek;exact h.apart j i x (Rw.box e b xs) N9 hx hr
   ·rw[if_neg ek]at hy
    exact h.apart j k x y N9 hx hy
theorem aj{size n:Nat}(h:w.ownsRow base e size v n xs):∃a c,v=.slice a n c/\n<=c/\c<=maxLen:=by
 rcases h.2 with⟨rfl,h0⟩|⟨g,cap,cur,rfl,_,_,h1,h2,_⟩
 all_goals grind
theorem PT.cells{vs:List az}{gs:List MG}(h:PT w base tb vt vs gs F vv vm):
  w.cell? ⟨tb,0,none⟩=some vt/\w.cell? ⟨tb,1,none⟩=some vv/\w.cell? ⟨tb,2,none⟩=some vm/\(∀j,w.frozen? ⟨tb,j,none⟩=false)/\base<=tb/\tb<w.heap.size/\F tb:=by
 have ny:(cJ tb vt vv vm vs gs)[0]?=some (Rw.box 87 tb [vt,vv,vm]):=rfl;have hl:=h.mem.lt (k:=tb) ny rfl;exact⟨h.mem.cell ny rfl 0 (by simp[Rw.box]),h.mem.cell ny rfl 1 (by simp[Rw.box]),h.mem.cell ny rfl 2 (by simp[Rw.box]),λj=>h.mem.frozen ny rfl j,hl.1,hl.2,h.vF tb ⟨0,_,ny,rfl⟩⟩
theorem PT.addVar{vs:List az}{gs:List MG}{x:az}(h:PT w base tb vt vs gs F vv vm)(hg:w.grownBy w' vv.ownBlock)
  (ho:w'.ownsRow base 166 12 v' (vs.length+1) (vs.flatMap fp++fp x)) (bu:v'.ownBlock=vv.ownBlock\/v'.ownBlock=some w.heap.size):
  PT (w'.setCell ⟨tb,1,none⟩ v') base tb vt (vs++[x]) gs (fresh F w) v' vm/\Kp F w (w'.setCell ⟨tb,1,none⟩ v')/\w'.cell? ⟨tb,1,none⟩=some vv/\w'.frozen? ⟨tb,1,none⟩=false:=by
 have dw:(cJ tb vt vv vm vs gs)[1]?=some ⟨166,12,vs.length,vv,vs.flatMap fp⟩:=rfl;have m1:=h.mem.grown (r':=⟨166,12,vs.length+1,v',vs.flatMap fp++fp x⟩) dw hg ho bu;have ny:((cJ tb vt vv vm vs gs).set 1 ⟨166,12,vs.length+1,v',vs.flatMap fp++fp x⟩)[0]?=some (Rw.box 87 tb [vt,vv,vm]):=rfl;have m2:=m1.store (j:=1) ny rfl v';have aJ:∀k,vv.ownBlock=some k->F k:=λk hk=>h.vF k ⟨1,_,dw,hk⟩
 have e:cJ tb vt v' vm (vs++[x]) gs=((cJ tb vt vv vm vs gs).set 1 ⟨166,12,vs.length+1,v',vs.flatMap fp++fp x⟩).set 0 (Rw.box 87 tb [vt,v',vm]):=by
  simp[cJ]
 refine⟨⟨by rw[e];exact m2,λk hk=>?_,by simp only [World.setCell,Array.size_modify];exact Nat.le_trans h.low hg.size⟩,((Kp.refl F w).grown hg (λk hk=>.inl (aJ k hk))).setCell (.inl h.cells.2.2.2.2.2.2) _,m1.cell ny rfl 1 (by simp[Rw.box]),m1.frozen ny rfl 1⟩;rw[e]at hk;rcases iR hk with hk|hk
 ·rcases iR hk with hk|hk
  ·exact .inl (h.vF k hk)
  ·rcases bu with a|a
   ·exact .inl (aJ k (a▸hk))
   ·right;grind
 ·cases hk;exact .inl h.cells.2.2.2.2.2.2
namespace Hx
theorem Ed(g:G):∀d s,(g.pC d s).af=s.af:=by
 induction g with
 |or l r h1 h2=>grind[G.pC]
 |and l r h1 h2=>grind[G.pC]
 |not g h=>grind[G.pC]
 |group t g h=>grind[G.pC,St.bw]
 |gZ=>intro d s;rfl
 |atom w n o i ok=>intro d s;cases w<;>exact St.xD _ _ _ _
theorem abQ(s:St)(q:Nat)(r:bD):(s.row q r).af.length=s.af.length:=by
 simp[St.row,cy,Ed,St.ff,St.bw]
theorem Vp(rs:List bD):∀(s:St)(q:Nat),(s.jn q rs).af.length=s.af.length:=by
 induction rs<;>simp_all[St.jn,List.foldl_cons,abQ]
theorem Qo(s:St)(q:Nat)(rs:List bD)(r:bD):s.jn q (rs++[r])=(s.jn q rs).row q r:=by simp[St.jn]
end Hx
def MG.cy(m:MG)(r:Hx.bD)(v':Value):MG:={m with a:={m.a with rows:=m.a.rows++[r]},vr:=v'}
theorem PT.bG{vs:List az}{gs:List MG}(h:PT w base tb vt vs gs F vv vm)(hi:i<gs.length):
  (∀j,j<9->w.cell? ⟨gs[i].bZ,j,none⟩=gs[i].box[j]?)/\(∀j,w.frozen? ⟨gs[i].bZ,j,none⟩=false)/\base<=gs[i].bZ/\gs[i].bZ<w.heap.size/\F gs[i].bZ:=by
 have hr:=oU (tb:=tb) (vt:=vt) (vv:=vv) (vm:=vm) (vs:=vs) hi;have hl:=h.mem.lt (k:=gs[i].bZ) hr rfl;exact⟨λj hj=>h.mem.cell hr rfl j (by grind[MG.r0,Rw.box,MG.box,lz]),λj=>h.mem.frozen hr rfl j,hl.1,hl.2,h.vF _ ⟨_,_,hr,rfl⟩⟩
theorem PT.cy{vs:List az}{gs:List MG}{r:Hx.bD}(h:PT w base tb vt vs gs F vv vm)(hi:i<gs.length)(hg:w.grownBy w' gs[i].vr.ownBlock)
  (ho:w'.ownsRow base 232 10 v' (gs[i].a.rows.length+1) (gs[i].a.rows.flatMap fO++fO r)) (bu:v'.ownBlock=gs[i].vr.ownBlock\/v'.ownBlock=some w.heap.size):
  PT (w'.setCell ⟨gs[i].bZ,7,none⟩ v') base tb vt vs (gs.set i (gs[i].cy r v')) (fresh F w) vv vm/\Kp F w (w'.setCell ⟨gs[i].bZ,7,none⟩ v')/\w'.cell? ⟨gs[i].bZ,7,none⟩=some gs[i].vr/\w'.frozen? ⟨gs[i].bZ,7,none⟩=false:=by
 have dw:=uz (tb:=tb) (vt:=vt) (vv:=vv) (vm:=vm) (vs:=vs) hi;have ny:=oU (tb:=tb) (vt:=vt) (vv:=vv) (vm:=vm) (vs:=vs) hi;have fv:=pd (tb:=tb) (vt:=vt) (vv:=vv) (vm:=vm) (vs:=vs) hi;have e1:(gs[i].cy r v').r1=⟨232,10,gs[i].a.rows.length+1,v',gs[i].a.rows.flatMap fO++fO r⟩:=by simp[MG.r1,MG.cy]
 have m1:=h.mem.grown (r':=(gs[i].cy r v').r1) dw hg (by grind) (by rw[e1];exact bu);have Ma:((cJ tb vt vv vm vs gs).set (i*3+4) (gs[i].cy r v').r1)[i*3+3]?=some gs[i].r0:=by rw[List.getElem?_set_ne (by omega)];exact ny
 have m2:=m1.store (j:=7) Ma rfl v';have aJ:∀k,gs[i].vr.ownBlock=some k->F k:=λk hk=>h.vF k ⟨_,_,dw,hk⟩
 have hF0:=(h.bG hi).2.2.2.2;have e:cJ tb vt vv vm vs (gs.set i (gs[i].cy r v'))=((cJ tb vt vv vm vs gs).set (i*3+4) (gs[i].cy r v').r1).set (i*3+3) {gs[i].r0 with xs:=gs[i].r0.xs.set 7 v'}:=by
  rw[Mb (m:=gs[i].cy r v') hi rfl,List.set_comm _ _ (by omega:i*3+3≠i*3+4)];have e3:(gs[i].cy r v').r0={gs[i].r0 with xs:=gs[i].r0.xs.set 7 v'}:=by simp[MG.r0,Rw.box,MG.box,lz,MG.cy]
  rw[e3];refine kZ _ _ _ ?_;rw[List.getElem?_set_ne (by omega),List.getElem?_set_ne (by omega)];exact fv
 refine⟨⟨by grind,λk hk=>?_,by simp only [World.setCell,Array.size_modify];exact Nat.le_trans h.low hg.size⟩,((Kp.refl F w).grown hg (λk hk=>.inl (aJ k hk))).setCell (.inl hF0) _,m1.cell Ma rfl 7 (by simp[MG.r0,Rw.box,MG.box,lz]),m1.frozen Ma rfl 7⟩;rw[e]at hk;rcases iR hk with hk|hk
 ·rcases iR hk with hk|hk
  ·exact .inl (h.vF k hk)
  ·rw[e1]at hk
   rcases bu with a|a
   ·exact .inl (aJ k (a▸hk))
   ·right;grind
 ·cases hk;exact .inl hF0
theorem Tryz.infoRowA:(Tryz.prog.info? 232).map (λi=>(i.zero,i.size,i.bytes))=some (some (.agg alA),10,104):=by kernel_rfl
def MG.ce(m:MG)(rs:List Hx.bD)(v:Value):MG:={m with a:={m.a with rows:=rs},vr:=v}
structure alF(w:World)(b gt cap tb:Nat)(ts:List Hx.Tok)(j base:Nat)(vt vv vm:Value)(vs:List az)(gs:List MG)(F:Nat->Prop)(i:Nat)(hi:i<gs.length)(ok:Bool)(j':Nat)(rs:List Hx.bD)(v':Value)(w':World):Prop where
 par:fJ w' b gt cap tb ts j'
 jU:PT w' base tb vt vs (gs.set i (gs[i].ce rs v')) (fresh F w) vv vm
 kept:Kp (λk=>k=b\/F k) w w'
 le:ok=true->j<=j'
 oM:ok=true->rs.length<=j'
 okr:ok=true->∀l',Hx.Ok [Hx.bJ] (ts.drop j') l'->Hx.Ok [Hx.dU] (ts.drop j) l'
 Ki:ok=true->∀ln,Hx.eo [Hx.bJ] (ts.drop j') ln->Hx.eo [Hx.dU] (ts.drop j) ln
 bad:ok=false->Hx.eo [Hx.dU] (ts.drop j) (ts[j']'par.lt).line
 ss:ok=true->∀(inn dp:Int)(dear:Bool)(s:Hx.St),0<=inn/\inn<s.af.length->Hx.SS (ts.drop j) inn dp dear s (ts.drop j') inn dp dear (s.jn inn.toNat rs)
 vj:ok=true->Hx.oP (ts.drop j) rs (ts.drop j')/\aq (ts[j']'par.lt) Hx.dB=false
structure FL(w:World)(b gt cap tb:Nat)(ts:List Hx.Tok)(j base:Nat)(vt vv vm:Value)(vs:List az)(gs:List MG)(F:Nat->Prop)(i:Nat)(hi:i<gs.length)(k jj:Nat)(rs:List Hx.bD)(v':Value)(wr:World):Prop where
 par:fJ wr b gt cap tb ts jj
 jU:PT wr base tb vt vs (gs.set i (gs[i].ce rs v')) (fresh F w) vv vm
 kept:Kp (λk=>k=b\/F k) w wr
 le:j<=jj
 oM:rs.length<=jj
 left:ts.length-jj<k
 ok:∀l',Hx.Ok [Hx.dU] (ts.drop jj) l'->Hx.Ok [Hx.dU] (ts.drop j) l'
 Ki:∀ln,Hx.eo [Hx.dU] (ts.drop jj) ln->Hx.eo [Hx.dU] (ts.drop j) ln
 ss:∀(inn dp:Int)(dear:Bool)(s:Hx.St),0<=inn/\inn<s.af.length->Hx.SS (ts.drop j) inn dp dear s (ts.drop jj) inn dp dear (s.jn inn.toNat rs)
 vj:Hx.oP (ts.drop j) rs (ts.drop jj)
section
variable {ts:List Hx.Tok} {j j' ln:Nat}
theorem Qp(hj:j<ts.length)(hm:aq ts[j] Hx.dB=true)(hg:Hx.Good ts[j]):Hx.aA Hx.dU ts[j]=some [Hx.dB,Hx.dc,Hx.g9,Hx.t7,Hx.dU]:=by
 rw[Hx.bY hg _ (by decide)]at hm;show some (if Hx.eQ ts[j] Hx.dB then _ else _)=_
 grind
theorem Qq(hj:j<ts.length)(hm:aq ts[j] Hx.dB=false)(hg:Hx.Good ts[j]):Hx.aA Hx.dU ts[j]=some [Hx.bJ]:=by
 rw[Hx.bY hg _ (by decide)]at hm;show some (if Hx.eQ ts[j] Hx.dB then _ else _)=_
 grind
end
theorem PT.abR{vs:List az}{gs:List MG}{rs:List Hx.bD}{r:Hx.bD}(hi:i<gs.length)(h:PT w base tb vt vs (gs.set i (gs[i].ce rs v)) F vv vm)(hg:w.grownBy w' v.ownBlock)
  (ho:w'.ownsRow base 232 10 v' (rs.length+1) (rs.flatMap fO++fO r)) (bu:v'.ownBlock=v.ownBlock\/v'.ownBlock=some w.heap.size):
  PT (w'.setCell ⟨gs[i].bZ,7,none⟩ v') base tb vt vs (gs.set i (gs[i].ce (rs++[r]) v')) (fresh F w) vv vm/\Kp F w (w'.setCell ⟨gs[i].bZ,7,none⟩ v')/\w'.cell? ⟨gs[i].bZ,7,none⟩=some v/\w'.frozen? ⟨gs[i].bZ,7,none⟩=false:=by
 have S8:i<(gs.set i (gs[i].ce rs v)).length:=by simpa using hi
 have uG:(gs.set i (gs[i].ce rs v))[i]'S8=gs[i].ce rs v:=by simp
 have:=PT.cy h S8 (by rw[uG];exact hg) (by rw[uG];exact ho) (by rw[uG];exact bu);rw[uG,List.set_set]at this;exact this
theorem Ml(r:Hx.bD):∃c0 c1 c2 c3 c4 c5 c6 c7 c8 c9,fO r=[c0,c1,c2,c3,c4,c5,c6,c7,c8,c9]:=by
 obtain⟨wh,g,dest,_,_⟩:=r
 cases dest with
 |none=>exact⟨_,_,_,_,_,_,_,_,_,_,rfl⟩
 |some t=>exact⟨_,_,_,_,_,_,_,_,_,_,rfl⟩
theorem Vq(r:Hx.bD):∀u∈fO r,u.oneCell'=true:=by
 obtain⟨wh,g,dest,_,_⟩:=r;have hg:(eH g).oneCell'=true:=by rcases lM g with e|⟨T,x,e⟩<;>rw[e]<;>rfl
 intro u hu
 cases dest with
 |none=>simp[fO,oW]at hu;rcases hu with rfl|rfl|rfl|rfl|rfl|rfl|rfl|rfl|rfl|rfl<;>first|exact hg|rfl
 |some t=>simp[fO,oW]at hu;rcases hu with rfl|rfl|rfl|rfl|rfl|rfl|rfl|rfl|rfl|rfl<;>first|exact hg|rfl
theorem FE(w:World)(b gt cap tb:Nat)(ts:List Hx.Tok)(j base:Nat)(vt vv vm:Value)(vs:List az)(gs:List MG)(F:Nat->Prop)(i:Nat)(hi:i<gs.length)(h:fJ w b gt cap tb ts j)
  (hT:PT w base tb vt vs gs F vv vm) (PQ:¬F b) (pQ:¬F gt) (ny:gs[i].a.rows=[]):
  Calls Tryz.prog 198 #[.pointer (some ⟨b,0,none⟩),.pointer (some ⟨gs[i].bZ,0,none⟩)] w λe w'=>∃ok j' rs v',e=.returned (.bool ok)/\alF w b gt cap tb ts j base vt vv vm vs gs F i hi ok j' rs v' w':=by
 have eS:=h.own;have ck:=h.lies;have aN:∀i (hi:i<ts.length),Hid (Hx.Good ts[i]):=λi hi=>ae (h.ok.good _ (List.getElem_mem hi))
 have wA:=h.ok.oM
 have H0:Hid (∃jj rs v',FL w b gt cap tb ts j base vt vv vm vs gs F i hi 3002 jj rs v' w):=ae (by
  refine⟨j,[],gs[i].vr,h,?_,Kp.refl _ _,Nat.le_refl _,by simp,by omega,λ_ k=>k,λ_ k=>k,λinn dp dear s _=>Hx.SS.refl _ _ _ _ _,.nil _⟩;have e:gs.set i (gs[i].ce [] gs[i].vr)=gs:=by
   refine kZ _ _ _ ?_;rw[List.getElem?_eq_getElem hi,MG.ce,<-ny]
  rw[e];exact hT.mono (λ_ h=>.inl h))
 have yh:¬fresh F w b:=λh=>h.elim PQ (λh=>by omega)
 have tU:¬fresh F w gt:=λh=>h.elim pQ (λh=>by omega)
 obtain⟨mb,qP⟩:∃mb,mb=gs[i].bZ:=⟨_,rfl⟩;rw[<-qP];have HMB:=ae qP;clear hT qP ny;go_enter Tryz.func198,Tryz.ntmps198;go_wp2_with fail
 go_loopg [] 3002 (λk wr=>∃jj rs v',FL w b gt cap tb ts j base vt vv vm vs gs F i hi k jj rs v' wr)
 case atStart=>exact H0.out
 case round=>
  obtain⟨jj,rs,v',hI⟩:=hrel;clear H0;have HI:=ae hI;clear hI;have hwr:=HI.out.kept.size;have iP:=HI.out.par.lt;have hle:=HI.out.le;have pP:=HI.out.left;have Xo:=HI.out.oM;go_wp2_with fail;refine(gG wr b gt cap tb ts jj HI.out.par).mono ?_;rintro e w1 ⟨rfl,bH⟩;have b6:=ae bH;clear bH;go_wp2_with fail;refine(xZ (ts[jj]'HI.out.par.lt) _ w1).mono ?_;rintro e w2 ⟨rfl,aT⟩;have dH:=ae (b6.out.trans (aT.mono b6.out.size));clear aT;rw[show(⟨#[119,104,101,110]⟩:ByteArray).toList=Hx.dB by simp];have jT:=dH.out.size
  cases hm:aq (ts[jj]'HI.out.par.lt) Hx.dB with
  |false=>
   have HM:=ae hm;clear hm;go_wp2_with fail;go_ret;have hb:=Qq HI.out.par.lt HM.out (aN _ HI.out.par.lt).out;refine⟨true,jj,rs,v',rfl,HI.out.par.below dH.out,HI.out.jU.below dH.out,HI.out.kept.below dH.out,λ_=>HI.out.le,λ_=>HI.out.oM,λ_ l' k=>HI.out.ok _ ?_,λ_ ln k=>HI.out.Ki _ ?_,(λe=>by cases e),λ_=>HI.out.ss,λ_=>⟨HI.out.vj,HM.out⟩⟩
   ·grind[Hx.Ok.aU,ak]
   grind[ak,Hx.eo.aU]
  |true=>
   have HM:=ae hm;clear hm;have k8:w2.heap.size≠b:=by omega
   have my:w2.heap.size≠gt:=by omega
   have zj:=Qp HI.out.par.lt HM.out (aN _ HI.out.par.lt).out;have rH:=ae zj;clear zj;go_wp2_with fail;refine(Jw _ b gt cap tb ts jj w2.heap.size ((HI.out.par.below dH.out).below ((Below.refl _ _).alloc (Nat.le_refl _) _)) k8 my HM.out (heap_alloc_new _ _)).mono ?_;rintro e w3 ⟨ok,j3,rfl,hR⟩;have HR:=ae hR;have kj:=ae (((HI.out.kept.below dH.out).alloc _).trans hR.kept (λ_ e=>e.elim (λe=>.inl (.inl e)) (λe=>.inr (by omega))))
   have nL:=ae (by
    have t2:=(HI.out.jU.below dH.out);have t3:PT w2 base tb vt vs (gs.set i (gs[i].ce rs v')) (tight (fresh F w) w2) vv vm:=⟨t2.mem,λk hk=>⟨t2.vF k hk,by obtain⟨i,r,hr,e⟩:=hk;exact(t2.mem.lt hr e).2⟩,t2.low⟩;refine(t3.below ((Below.refl _ _).alloc (Nat.le_refl _) _)).kept hR.kept (λk hk e=>?_);rcases e with e|e
    ·exact yh (e▸hk.1)
    ·have:=hk.2;omega)
   clear hR
   cases ok with
   |false=>
    go_wp2_with fail;go_ret;refine⟨false,j3,rs,v',rfl,HR.out.par,nL.out.mono (λ_ h=>h.1),kj.out,(λe=>by cases e),(λe=>by cases e),(λe=>by cases e),(λe=>by cases e),λ_=>HI.out.Ki _ ?_,(λe=>by cases e),(λe=>by cases e)⟩;have:=HR.out.bad rfl;rw[ak HI.out.par.lt]at this|-;exact Hx.eo.aU rH.out (this.app)
   |true=>
    obtain⟨r,zF,Ea,UK,aeo,UL⟩:=HR.out.good rfl;have uG:(gs.set i (gs[i].ce rs v'))[i]'(by grind)=gs[i].ce rs v':=by simp
    have S8:i<(gs.set i (gs[i].ce rs v')).length:=by simpa using hi
    have hO:=nL.out.mem.own _ _ (uz S8);rw[uG]at hO;have U8:w3.ownsRow base 232 10 v' rs.length (rs.flatMap fO):=hO;obtain⟨av,cv,nR,_,_⟩:=aj U8;obtain⟨rI,XG,agE,Pr,hmF⟩:=nL.out.bG S8;rw[uG]at rI XG agE Pr hmF;have m7:w3.cell? ⟨mb,7,none⟩=some (.slice av rs.length cv):=by rw[HMB.out,<-nR];exact rI 7 (by omega)
    have f7:w3.frozen? ⟨mb,7,none⟩=false:=by rw[HMB.out];exact XG 7
    obtain⟨c0,c1,c2,c3,c4,c5,c6,c7,c8,c9,Tw⟩:=Ml r;have Vr:=zF;rw[Tw]at Vr;obtain⟨x0,x1,x2,x3,x4,x5,x6,x7,x8,x9⟩:=Fx Vr;have hVl:=(Array.getElem?_eq_some_iff.1 zF).1;have H1C:Hid (∀u∈[c0,c1,c2,c3,c4,c5,c6,c7,c8,c9],u.oneCell'=true):=ae (by grind[Vq]);have HML:Hid (rs.length+1<=maxLen):=ae (by grind[maxLen]);have fR:Hid ((rs.length+1)*104<=140737488355328):=ae (by omega);have HO:=ae U8;have lx:=nL.out.low;have T9:=ae Tw;have Zw:=ae nR;have HSS:=ae UL;have arA:=ae aeo;have alG:=ae UK;have avi:mb<w3.heap.size:=by rw[HMB.out];exact Pr
    have azo:mb≠w2.heap.size:=by have:=hmF.2;rw[HMB.out];exact λe=>by have h2:gs[i].bZ<w2.heap.size:=this;omega
    clear zF Vr hO U8 rI XG agE Pr hmF Tw UL UK aeo;obtain⟨i0,dl,eu,dA,eg⟩:=info_parts Tryz.infoRowA;go_wp2_with fail
    go_region_law (refine aD rfl _ _ 169 rfl base 232 i0 _ 10 104 Tryz.underlying169 dl eu dA eg rfl (by decide) _ rs.length (rs.flatMap fO) Zw.out.symm (by exact ah HO.out ⟨rfl,rfl,rfl,by simp,λk hk=>Below.heap_alloc _ _ _ hk⟩) ⟨_,0,none⟩ 1 1 [c0,c1,c2,c3,c4,c5,c6,c7,c8,c9] rfl rfl (aF _ _ (by simp) [c0,c1,c2,c3,c4,c5,c6,c7,c8,c9] _) H1C.out HML.out fR.out (by simp;omega) ?_;intro v7 w7 bE ax bu;obtain⟨Ge,Gf,rfl,_,_⟩:=aj bE;obtain⟨jy,uQ,e5,e6⟩:=PT.abR hi (nL.out.below (by exact⟨rfl,rfl,rfl,by simp,λk hk=>Below.heap_alloc _ _ _ hk⟩)) ax (T9.out▸bE) bu;rw[<-HMB.out]at jy uQ e5 e6;have jc:=ae jy;have vo:=ae uQ;clear jy uQ bE ax bu)
    all_goals
     have qg:Below w3.heap.size w3 (w3.drew.alloc (.cells [c0,c1,c2,c3,c4,c5,c6,c7,c8,c9].toArray 232)):=⟨rfl,rfl,rfl,by simp,λk hk=>Below.heap_alloc _ _ _ hk⟩;have hnb:¬tight (fresh F w) w2 b:=λh=>yh h.1
     have hng:¬tight (fresh F w) w2 gt:=λh=>tU h.1
     have UN:=(HR.out.par.below qg).kp vo.out hnb hng;have NM:=(kj.out.below qg).trans vo.out (λk h=>h.1.elim (λh=>.inl (.inr h)) .inr);have uC:=jc.out.mono (λk h=>h.elim (λh=>h.1) (λh=>.inr (by have:(w3.drew.alloc (.cells [c0,c1,c2,c3,c4,c5,c6,c7,c8,c9].toArray 232)).heap.size<=k:=h;simp at this;omega)))
     have fin:Hid (FL w b gt cap tb ts j base vt vv vm vs gs F i hi (ts.length-jj) j3 (rs++[r]) (.slice Ge (rs.length+1) Gf) (w7.setCell ⟨mb,7,none⟩ (.slice Ge (rs.length+1) Gf))):=ae (by
      refine⟨UN,uC,NM,by omega,by simp;omega,by have:=HR.out.par.lt;omega,λl' k=>HI.out.ok _ ?_,λln k=>HI.out.Ki _ ?_,λinn dp dear s tQ=>?_,.snoc HI.out.vj arA.out⟩
      ·have h1:=alG.out
       rw[ak HI.out.par.lt]at h1|-;exact Hx.Ok.aU rH.out (h1.app k)
      ·have h1:=alG.out
       rw[ak HI.out.par.lt]at h1|-;exact Hx.eo.aU rH.out (h1.bad k)
      ·rw[Hx.Qo]
       exact(HI.out.ss inn dp dear s tQ).trans (HSS.out inn dp dear _ ⟨tQ.1,by rw[Hx.Vp];exact tQ.2⟩))
     clear UN NM uC jc vo e5 e6 qg;go_wp2_with fail
     go_roundg (ts.length-jj)
     case measure=>omega
     case rel=>exact⟨_,_,_,fin.out⟩
