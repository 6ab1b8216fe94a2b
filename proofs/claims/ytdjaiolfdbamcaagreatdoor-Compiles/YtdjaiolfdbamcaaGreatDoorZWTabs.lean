/- The table that helmref keeps, as it lies in memory; and the walks of its smallest methods. -/
import Derived.Test.YtdjaiolfdbamcaaGreatDoorZWGram
set_option maxRecDepth 20000
set_option maxHeartbeats 400000
namespace Go.Proofs.YtdjaiolfdbamcaaGreatDoor
variable {w w':World}{base bx gt k:Nat}{v' vt:Value}{ts:List Hx.Tok}{s:Hx.St}{F:Nat->Prop}
section
open Go.RowKit
def lg(v:Hx.Sd):List Value:=[.string v.name,.int .i64 v.lo,.int .i64 v.hi]
structure MM where
 m:Hx.fX
 rv:Value
 gv:List Value
def MM.cells(x:MM):List Value:=[.string x.m.name,.int .i64 x.m.line,.int .i64 x.m.outer,.bool x.m.dflt,x.rv]
def dS(p:Hx.vV×Value):List Value:=[p.2,.string p.1.to,.int .i64 p.1.line]
def MM.row(x:MM):Rw:=⟨253,3,x.m.rows.length,x.rv,(x.m.rows.zip x.gv).flatMap dS⟩
def GSl(gt:Nat)(ts:List Hx.Tok)(v:Value)(l:List Hx.Tok):Prop:=∃off n c,v=.slice (some ⟨gt,off*4,none⟩) n c/\off+n<=ts.length/\l=(ts.drop off).take n
def asZ(gt:Nat)(ts:List Hx.Tok)(x:MM):Prop:=x.gv.length=x.m.rows.length/\∀p∈x.m.rows.zip x.gv,GSl gt ts p.2 p.1.gd
def ze(gt:Nat)(ts:List Hx.Tok)(v:Value)(l:List Hx.Tok):Prop:=
 ∃off c,v=.slice (some ⟨gt,off*4,none⟩) l.length c/\off+l.length<=ts.length/\l=(ts.drop off).take l.length/\0<l.length/\l.length<=c
theorem Jj(gt:Nat)(ts:List Hx.Tok)(o n c:Nat)(h:o+n<=ts.length)(hc:n<=c)(h0:0<n):ze gt ts (.slice (some ⟨gt,o*4,none⟩) n c) ((ts.drop o).take n):=by
 have hl:((ts.drop o).take n).length=n:=by simp;omega
 exact⟨o,c,by rw[hl],by omega,by rw[hl],by omega,by omega⟩
structure Gh where
 vv:Value
 vm:Value
 va:Value
 ms:List MM
 ats:List (Value×List Hx.Tok)
def bL(bx:Nat)(vt:Value)(g:Gh)(s:Hx.St):List Rw:=
 Rw.box 117 bx [vt,g.vv,g.vm,g.va,.int .i64 s.rows,.int .i64 s.code,.int .i64 s.line]::
 ⟨189,3,s.vars.length,g.vv,s.vars.flatMap lg⟩::
 ⟨111,5,g.ms.length,g.vm,g.ms.flatMap MM.cells⟩::
 ⟨112,1,g.ats.length,g.va,g.ats.map (·.1)⟩::g.ms.map MM.row
structure TabIs(w:World)(base bx:Nat)(vt:Value)(gt:Nat)(ts:List Hx.Tok)(g:Gh)(s:Hx.St):Prop where
 mem:dr w base (bL bx vt g s)
 af:g.ms.map (·.m)=s.af
 atoms:g.ats.map (·.2)=s.atoms
 slices:∀p∈g.ats,ze gt ts p.1 p.2
 guards:∀x∈g.ms,asZ gt ts x
 low:base<=w.heap.size
def db(w:World)(base bx:Nat)(vt:Value)(gt:Nat)(ts:List Hx.Tok)(s:Hx.St)(F:Nat->Prop):Prop:=∃g,TabIs w base bx vt gt ts g s/\∀k,mj (bL bx vt g s) k->F k
def l5(w:World)(base bx:Nat)(vt:Value)(gt:Nat)(ts:List Hx.Tok)(F:Nat->Prop)(w':World)(s':Hx.St):Prop:=
 db w' base bx vt gt ts s' (fresh F w)/\Kp F w w'
theorem TabIs.cellAt{g:Gh}(h:TabIs w base bx vt gt ts g s):
  w.cell? ⟨bx,0,none⟩=some vt/\w.cell? ⟨bx,1,none⟩=some g.vv/\w.cell? ⟨bx,2,none⟩=some g.vm/\w.cell? ⟨bx,3,none⟩=some g.va/\
  w.cell? ⟨bx,4,none⟩=some (.int .i64 s.rows)/\w.cell? ⟨bx,5,none⟩=some (.int .i64 s.code)/\w.cell? ⟨bx,6,none⟩=some (.int .i64 s.line):=by
 have hr:(bL bx vt g s)[0]?=some (Rw.box 117 bx [vt,g.vv,g.vm,g.va,.int .i64 s.rows,.int .i64 s.code,.int .i64 s.line]):=rfl
 exact⟨h.mem.cell hr rfl 0 (by simp[Rw.box]),h.mem.cell hr rfl 1 (by simp[Rw.box]),h.mem.cell hr rfl 2 (by simp[Rw.box]),h.mem.cell hr rfl 3 (by simp[Rw.box]),
  h.mem.cell hr rfl 4 (by simp[Rw.box]),h.mem.cell hr rfl 5 (by simp[Rw.box]),h.mem.cell hr rfl 6 (by simp[Rw.box])⟩
theorem TabIs.free{g:Gh}(h:TabIs w base bx vt gt ts g s)(j:Nat):
  w.frozen? ⟨bx,j,none⟩=false:=h.mem.frozen (i:=0) (r:=Rw.box 117 bx _) rfl rfl j
theorem TabIs.place{g:Gh}(h:TabIs w base bx vt gt ts g s):base<=bx/\bx<w.heap.size:=
 h.mem.lt (i:=0) (r:=Rw.box 117 bx _) rfl rfl
theorem TabIs.below{g:Gh}(h:TabIs w base bx vt gt ts g s)(hb:Below w.heap.size w w'):TabIs w' base bx vt gt ts g s:=
 ⟨h.mem.below hb,h.af,h.atoms,h.slices,h.guards,Nat.le_trans h.low hb.size⟩
theorem db.mono{G:Nat->Prop}(h:db w base bx vt gt ts s F)(hFG:∀k,F k->G k):db w base bx vt gt ts s G:=by
 obtain⟨g,h1,h2⟩:=h;exact⟨g,h1,λk hk=>hFG k (h2 k hk)⟩
theorem db.tight(h:db w base bx vt gt ts s F):db w base bx vt gt ts s (tight F w):=by
 obtain⟨g,h1,h2⟩:=h;refine⟨g,h1,λk hk=>⟨h2 k hk,?_⟩⟩;obtain⟨i,r,hr,he⟩:=hk;exact(h1.mem.lt hr he).2
theorem db.below(h:db w base bx vt gt ts s F)(hb:Below w.heap.size w w'):db w' base bx vt gt ts s F:=by
 obtain⟨g,h1,h2⟩:=h;exact⟨g,h1.below hb,h2⟩
theorem db.drewN(h:db w base bx vt gt ts s F)(n:Nat):db (w.drewN n) base bx vt gt ts s F:=
 h.below (below_drewN (Below.refl _ _) n)
theorem db.alloc(h:db w base bx vt gt ts s F)(o:Obj):db (w.alloc o) base bx vt gt ts s F:=
 h.below ((Below.refl _ _).alloc (Nat.le_refl _) _)
theorem TabIs.vF{g:Gh}(_h:TabIs w base bx vt gt ts g s)(hF:∀k,mj (bL bx vt g s) k->F k):F bx:=
 hF bx ⟨0,_,rfl,rfl⟩
theorem l5.step{w1 w2:World}{s2:Hx.St}(h1:Kp F w w1)(G:Nat->Prop)(hG:∀k,G k->F k\/w.heap.size<=k)(h2:l5 w1 base bx vt gt ts G w2 s2):l5 w base bx vt gt ts F w2 s2:=
 ⟨h2.1.mono (λk hk=>hk.elim (hG k) (λh=>.inr (Nat.le_trans h1.size h))),h1.trans h2.2 hG⟩
theorem vD:∀k,tight F w k->F k\/w.heap.size<=k:=λ_ h=>.inl h.1
theorem QJ{g:Gh}{c l:Nat}(h:mj (bL bx vt g {s with code:=c,line:=l}) k):mj (bL bx vt g s) k:=by
 obtain⟨i,r,hr,hk⟩:=h
 cases i with
 |zero=>simp only [bL,List.getElem?_cons_zero,Option.some.injEq]at hr;subst hr;exact⟨0,_,rfl,hk⟩
 |succ i=>exact⟨i+1,r,hr,hk⟩
theorem TabIs.acT{g:Gh}(h:TabIs w base bx vt gt ts g s)(c l:Nat):
  TabIs ((w.setCell ⟨bx,5,none⟩ (.int .i64 c)).setCell ⟨bx,6,none⟩ (.int .i64 l)) base bx vt gt ts g {s with code:=c,line:=l}:=by
 refine⟨?_,h.af,h.atoms,h.slices,h.guards,by simpa[World.setCell]using h.low⟩;have h1:=h.mem.store (i:=0) (j:=5) rfl rfl (.int .i64 c);exact h1.store (i:=0) rfl rfl (.int .i64 l)
theorem TabIs.addAtom{g:Gh}{sv:Value}{l:List Hx.Tok}(h:TabIs w base bx vt gt ts g s)(hF:∀k,mj (bL bx vt g s) k->F k)
  (hg:w.grownBy w' g.va.ownBlock) (ho:w'.ownsRow base 112 1 v' (g.ats.length+1) (g.ats.map (·.1)++[sv])) (bu:v'.ownBlock=g.va.ownBlock\/v'.ownBlock=some w.heap.size) (hs:ze gt ts sv l):
  l5 w base bx vt gt ts F (w'.setCell ⟨bx,3,none⟩ v') {s with atoms:=s.atoms++[l]}/\w'.cell? ⟨bx,3,none⟩=some g.va/\w'.frozen? ⟨bx,3,none⟩=false:=by
 have ft:(bL bx vt g s)[3]?=some ⟨112,1,g.ats.length,g.va,g.ats.map (·.1)⟩:=rfl;have m1:=h.mem.grown (r':=⟨112,1,g.ats.length+1,v',g.ats.map (·.1)++[sv]⟩) ft hg ho bu;have m2:=m1.store (i:=0) (j:=3) rfl rfl v';have kA:∀k,g.va.ownBlock=some k->F k\/w.heap.size<=k:=λk hk=>.inl (hF k ⟨3,_,ft,hk⟩)
 have ny:((bL bx vt g s).set 3 ⟨112,1,g.ats.length+1,v',g.ats.map (·.1)++[sv]⟩)[0]?=some (Rw.box 117 bx [vt,g.vv,g.vm,g.va,.int .i64 s.rows,.int .i64 s.code,.int .i64 s.line]):=rfl;refine⟨⟨⟨{g with va:=v',ats:=g.ats++[(sv,l)]},⟨?_,h.af,by simp[h.atoms],?_,h.guards,by simp only [World.setCell,Array.size_modify];exact Nat.le_trans h.low hg.size⟩,?_⟩,((Kp.refl _ _).grown hg kA).setCell (.inl (h.vF hF)) _⟩,m1.cell ny rfl 3 (by simp[Rw.box]),m1.frozen ny rfl 3⟩
 ·grind[bL,Rw.box]
 ·intro p hp
  rcases List.mem_append.1 hp with hp|hp
  ·exact h.slices p hp
  grind
 ·intro k hk
  obtain⟨i,r,hr,he⟩:=hk
  match i,hr with
  |0,hr=>cases hr;exact .inl (hF k ⟨0,_,rfl,he⟩)
  |1,hr=>cases hr;exact .inl (hF k ⟨1,_,rfl,he⟩)
  |2,hr=>cases hr;exact .inl (hF k ⟨2,_,rfl,he⟩)
  |3,hr=>
   cases hr
   rcases bu with e|e
   ·exact .inl (hF k ⟨3,_,ft,e▸he⟩)
   ·right;grind
  |i+4,hr=>exact .inl (hF k ⟨i+4,r,hr,he⟩)
theorem dI(w:World)(base bx:Nat)(vt:Value)(gt:Nat)(ts:List Hx.Tok)(s:Hx.St)(F:Nat->Prop)(is:Bool)(code:Nat)(t:Hx.Tok)(h:db w base bx vt gt ts s F):
  Calls Tryz.prog 140 #[.pointer (some ⟨bx,0,none⟩),.bool is,.int .i64 code,ii t] w λe w'=>e=.returned (.tuple #[])/\l5 w base bx vt gt ts F w' (s.aS is code t.line)/\∀j,j<5->w'.cell? ⟨bx,j,none⟩=w.cell? ⟨bx,j,none⟩:=by
 obtain⟨g,h,hF⟩:=h;obtain⟨_,_,_,_,_,c5,c6⟩:=h.cellAt;have f5:=h.free 5;have f6:=h.free 6;have jX:=h.vF hF;obtain⟨p1,p2⟩:=h.place;have HT:=ae h;have HF:=ae hF;have HX:=ae jX;clear h hF jX;unfold ii
 cases is with
 |false=>
  go_enter Tryz.func140,Tryz.ntmps140;go_wp2;go_end0;exact⟨rfl,⟨⟨g,HT.out.below ((Below.refl _ _).alloc (Nat.le_refl _) _),λk hk=>.inl (HF.out k hk)⟩,(Kp.refl _ _).alloc _⟩,λj _=>((Below.refl _ _).alloc (Nat.le_refl _) _).cell p2⟩
 |true=>
  cases hc:(s.code==0)with
  |false=>
   have hc':((s.code:Int)==0)=false:=by rw[beq_eq_false_iff_ne]at hc|-;omega
   have HW:=ae (show s.aS true code t.line=s by grind[Hx.St.aS]);clear hc;go_enter Tryz.func140,Tryz.ntmps140;go_wp2;go_end0;exact⟨rfl,⟨⟨g,by rw[HW.out];exact HT.out.below ((Below.refl _ _).alloc (Nat.le_refl _) _),by rw[HW.out];exact λk hk=>.inl (HF.out k hk)⟩,(Kp.refl _ _).alloc _⟩,λj _=>((Below.refl _ _).alloc (Nat.le_refl _) _).cell p2⟩
  |true=>
   have hc':((s.code:Int)==0)=true:=by rw[beq_iff_eq]at hc|-;omega
   have HW:=ae (show s.aS true code t.line={s with code:=code,line:=t.line} by grind[Hx.St.aS]);clear hc;go_enter Tryz.func140,Tryz.ntmps140;go_wp2;go_end0;refine⟨rfl,⟨⟨g,?_,?_⟩,?_⟩,λj hj=>?_⟩
   ·rw[HW.out]
    exact(HT.out.acT code t.line).below ((Below.refl _ _).alloc (Nat.le_refl _) _)
   ·rw[HW.out];exact λk hk=>.inl (HF.out k (QJ hk))
   ·exact(((Kp.refl _ _).setCell (.inl HX.out) _).setCell (.inl HX.out) _).alloc _
   ·rw[((Below.refl _ _).alloc (Nat.le_refl _) _).cell (by simp_all),bX _ _ _ _ (λe=>by grind),bX _ _ _ _ (λe=>by grind)]
theorem TabIs.addVar{g:Gh}{x:Hx.Sd}(h:TabIs w base bx vt gt ts g s)(hF:∀k,mj (bL bx vt g s) k->F k)
  (hg:w.grownBy w' g.vv.ownBlock) (ho:w'.ownsRow base 189 3 v' (s.vars.length+1) (s.vars.flatMap lg++lg x)) (bu:v'.ownBlock=g.vv.ownBlock\/v'.ownBlock=some w.heap.size):
  l5 w base bx vt gt ts F (w'.setCell ⟨bx,1,none⟩ v') {s with vars:=s.vars++[x]}/\w'.cell? ⟨bx,1,none⟩=some g.vv/\w'.frozen? ⟨bx,1,none⟩=false:=by
 have ft:(bL bx vt g s)[1]?=some ⟨189,3,s.vars.length,g.vv,s.vars.flatMap lg⟩:=rfl;have m1:=h.mem.grown (r':=⟨189,3,s.vars.length+1,v',s.vars.flatMap lg++lg x⟩) ft hg ho bu;have ny:((bL bx vt g s).set 1 ⟨189,3,s.vars.length+1,v',s.vars.flatMap lg++lg x⟩)[0]?=some (Rw.box 117 bx [vt,g.vv,g.vm,g.va,.int .i64 s.rows,.int .i64 s.code,.int .i64 s.line]):=rfl;have m2:=m1.store (j:=1) ny rfl v';have kA:∀k,g.vv.ownBlock=some k->F k\/w.heap.size<=k:=λk hk=>.inl (hF k ⟨1,_,ft,hk⟩)
 refine⟨⟨⟨{g with vv:=v'},⟨?_,h.af,h.atoms,h.slices,h.guards,by simp only [World.setCell,Array.size_modify];exact Nat.le_trans h.low hg.size⟩,?_⟩,((Kp.refl _ _).grown hg kA).setCell (.inl (h.vF hF)) _⟩,m1.cell ny rfl 1 (by simp[Rw.box]),m1.frozen ny rfl 1⟩
 ·grind[bL,Rw.box]
 ·intro k hk
  obtain⟨i,r,hr,he⟩:=hk
  match i,hr with
  |0,hr=>cases hr;exact .inl (hF k ⟨0,_,rfl,he⟩)
  |1,hr=>
   cases hr
   rcases bu with e|e
   ·exact .inl (hF k ⟨1,_,ft,e▸he⟩)
   ·right;grind
  |i+2,hr=>exact .inl (hF k ⟨i+2,r,hr,he⟩)
theorem TabIs.bT{g:Gh}{x:Hx.fX}(h:TabIs w base bx vt gt ts g s)(hF:∀k,mj (bL bx vt g s) k->F k)(hx:x.rows=[])
  (hg:w.grownBy w' g.vm.ownBlock) (ho:w'.ownsRow base 111 5 v' (g.ms.length+1) (g.ms.flatMap MM.cells++MM.cells ⟨x,.slice none 0 0,[]⟩)) (bu:v'.ownBlock=g.vm.ownBlock\/v'.ownBlock=some w.heap.size):
  l5 w base bx vt gt ts F (w'.setCell ⟨bx,2,none⟩ v') {s with af:=s.af++[x]}/\w'.cell? ⟨bx,2,none⟩=some g.vm/\w'.frozen? ⟨bx,2,none⟩=false:=by
 have ft:(bL bx vt g s)[2]?=some ⟨111,5,g.ms.length,g.vm,g.ms.flatMap MM.cells⟩:=rfl;have m1:=h.mem.grown (r':=⟨111,5,g.ms.length+1,v',g.ms.flatMap MM.cells++MM.cells ⟨x,.slice none 0 0,[]⟩⟩) ft hg ho bu;have ny:((bL bx vt g s).set 2 ⟨111,5,g.ms.length+1,v',g.ms.flatMap MM.cells++MM.cells ⟨x,.slice none 0 0,[]⟩⟩)[0]?=some (Rw.box 117 bx [vt,g.vv,g.vm,g.va,.int .i64 s.rows,.int .i64 s.code,.int .i64 s.line]):=rfl;have m2:=m1.store (j:=2) ny rfl v';have m3:=m2.oB 253 3;have kA:∀k,g.vm.ownBlock=some k->F k\/w.heap.size<=k:=λk hk=>.inl (hF k ⟨2,_,ft,hk⟩)
 refine⟨⟨⟨{g with vm:=v',ms:=g.ms++[⟨x,.slice none 0 0,[]⟩]},⟨?_,by simp[h.af],h.atoms,h.slices,?_,by simp only [World.setCell,Array.size_modify];exact Nat.le_trans h.low hg.size⟩,?_⟩,((Kp.refl _ _).grown hg kA).setCell (.inl (h.vF hF)) _⟩,m1.cell ny rfl 2 (by simp[Rw.box]),m1.frozen ny rfl 2⟩
 ·simp_all[bL,Rw.box,MM.row]
 ·intro y hy
  rcases List.mem_append.1 hy with hy|hy
  ·exact h.guards y hy
  ·simp at hy;subst hy;exact⟨by simp[hx],λv hv=>by simp at hv⟩
 ·intro k hk
  obtain⟨i,r,hr,he⟩:=hk
  match i,hr with
  |0,hr=>cases hr;exact .inl (hF k ⟨0,_,rfl,he⟩)
  |1,hr=>cases hr;exact .inl (hF k ⟨1,_,rfl,he⟩)
  |2,hr=>
   cases hr
   rcases bu with e|e
   ·exact .inl (hF k ⟨2,_,ft,e▸he⟩)
   ·right;grind
  |3,hr=>cases hr;exact .inl (hF k ⟨3,_,rfl,he⟩)
  |i+4,hr=>
   simp only [bL,List.getElem?_cons_succ,List.map_append,List.map_cons,List.map_nil]at hr
   by_cases hi:i<(g.ms.map MM.row).length
   ·rw[List.getElem?_append_left hi]at hr;exact .inl (hF k ⟨i+4,r,hr,he⟩)
   grind[List.getElem?_append_right,MM.row,Value.ownBlock]
theorem Xe(ms:List MM)(k:Nat)(x:MM)(v':Value)(hk:k<ms.length)(hx:x.cells=(ms[k].cells).set 4 v'):(ms.set k x).flatMap MM.cells=(ms.flatMap MM.cells).set (k*5+4) v':=by
 induction ms generalizing k with
 |nil=>simp at hk
 |cons a r ih=>
  cases k with
  |zero=>
   simp only [List.set_cons_zero,List.flatMap_cons];rw[List.set_append_left _ _ (by simp[MM.cells]),hx];rfl
  |succ k=>
   simp only [List.set_cons_succ,List.flatMap_cons];rw[List.set_append_right _ _ (by simp[MM.cells];omega),ih k (by simpa using hk) (by simpa using hx)];congr 2;simp[MM.cells];omega
theorem JW(ms:List MM)(k:Nat)(hk:k<ms.length):(ms.flatMap MM.cells)[k*5+4]?=some ms[k].rv:=by
 induction ms generalizing k with
 |nil=>simp at hk
 |cons a r ih=>
  rw[List.flatMap_cons]
  cases k<;>grind[List.getElem?_append_left,MM.cells,List.getElem?_append_right]
theorem QK(ms:List MM)(k:Nat)(r:Hx.vV)(x:MM)(hk:k<ms.length)(hx:x.m={ms[k].m with rows:=ms[k].m.rows++[r]}):(ms.set k x).map (·.m)=Hx.cy (ms.map (·.m)) k r:=by
 rw[Hx.cy,List.map_set,hx];apply List.ext_getElem?
 grind
theorem TabIs.cy{g:Gh}{gv:Value}{r:Hx.vV}{gm cm:Nat}(h:TabIs w base bx vt gt ts g s)(hF:∀k,mj (bL bx vt g s) k->F k)(hk:k<g.ms.length)(hm:g.vm=.slice (some ⟨gm,0,none⟩) g.ms.length cm)
  (hg:w.grownBy w' g.ms[k].rv.ownBlock) (ho:w'.ownsRow base 253 3 v' (g.ms[k].m.rows.length+1) ((g.ms[k].m.rows.zip g.ms[k].gv).flatMap dS++dS (r,gv))) (bu:v'.ownBlock=g.ms[k].rv.ownBlock\/v'.ownBlock=some w.heap.size) (Lq:GSl gt ts gv r.gd):
  l5 w base bx vt gt ts F (w'.setCell ⟨gm,k*5+4,none⟩ v') {s with af:=Hx.cy s.af k r}/\w'.cell? ⟨gm,k*5+4,none⟩=some g.ms[k].rv/\w'.frozen? ⟨gm,k*5+4,none⟩=false:=by
 have hrk:(bL bx vt g s)[k+4]?=some g.ms[k].row:=by simp[bL,hk]
 let x:MM:=⟨{g.ms[k].m with rows:=g.ms[k].m.rows++[r]},v',g.ms[k].gv++[gv]⟩
 have hzl:=(h.guards _ (List.getElem_mem hk)).1.symm;have hxr:x.row=⟨253,3,g.ms[k].m.rows.length+1,v',(g.ms[k].m.rows.zip g.ms[k].gv).flatMap dS++dS (r,gv)⟩:=by
  simp[MM.row,x,List.zip_append hzl]
 have m1:=h.mem.grown (r':=x.row) hrk hg (by grind) (by rw[hxr];exact bu);have fv:((bL bx vt g s).set (k+4) x.row)[2]?=some ⟨111,5,g.ms.length,g.vm,g.ms.flatMap MM.cells⟩:=by
  rw[List.getElem?_set_ne (by omega)];rfl
 have m2:=m1.store (j:=k*5+4) fv hm v';have kA:∀q,g.ms[k].rv.ownBlock=some q->F q\/w.heap.size<=q:=λq hq=>.inl (hF q ⟨k+4,_,hrk,hq⟩)
 have QY:=hF gm ⟨2,_,rfl,by rw[hm];rfl⟩;have hfc:=JW g.ms k hk;refine⟨⟨⟨{g with ms:=g.ms.set k x},⟨?_,?_,h.atoms,h.slices,?_,by simp only [World.setCell,Array.size_modify];exact Nat.le_trans h.low hg.size⟩,?_⟩,((Kp.refl _ _).grown hg kA).setCell (.inl QY) _⟩,?_,m1.frozen fv hm _⟩
 ·have e1:=Xe g.ms k x v' hk rfl
  grind[bL,List.length_set,MM.row,set,List.map_set]
 ·rw[QK g.ms k r x hk rfl,h.af]
 ·intro y hy
  rcases List.mem_or_eq_of_mem_set hy with hy|hy
  ·exact h.guards y hy
  ·subst hy
   refine⟨by grind,λv hv=>?_⟩;simp only [x,List.zip_append hzl]at hv;rcases List.mem_append.1 hv with h1|h1
   ·exact(h.guards _ (List.getElem_mem hk)).2 v h1
   simp_all
 ·intro q hq
  obtain⟨i,r',hr,he⟩:=hq
  match i,hr with
  |0,hr=>cases hr;exact .inl (hF q ⟨0,_,rfl,he⟩)
  |1,hr=>cases hr;exact .inl (hF q ⟨1,_,rfl,he⟩)
  |2,hr=>cases hr;exact .inl (hF q ⟨2,_,rfl,he⟩)
  |3,hr=>cases hr;exact .inl (hF q ⟨3,_,rfl,he⟩)
  |i+4,hr=>
   simp only [bL,List.getElem?_cons_succ,List.map_set,List.getElem?_set]at hr
   by_cases hik:k=i
   ·subst hik
    rw[if_pos rfl,if_pos (by grind)]at hr
    cases hr
    rcases bu with e|e
    ·exact .inl (hF q ⟨k+4,_,hrk,by have Zc:v'.ownBlock=some q:=he;rw[e]at Zc;exact Zc⟩)
    ·right;grind
   ·rw[if_neg hik]at hr;exact .inl (hF q ⟨i+4,r',hr,he⟩)
 ·rw[m1.cell fv hm (k*5+4) (by grind)]
  exact hfc
theorem wV{α:Type}(f:α->List Value)(k:Nat)(l:List α)(hf:∀a,(f a).length=k)(i j:Nat)(hi:i<l.length)(hj:j<k):(l.flatMap f)[i*k+j]?=(f l[i])[j]?:=by
 induction l generalizing i with
 |nil=>simp at hi
 |cons a r ih=>
  rw[List.flatMap_cons]
  cases i<;>grind
theorem dv{e size n:Nat}{v:Value}{xs:List Value}(h:w.ownsRow base e size v n xs):∃a c,v=.slice a n c/\n<=c/\c<=maxLen:=by
 rcases h.2 with⟨rfl,h0⟩|⟨g,cap,cur,rfl,_,_,h1,h2,_⟩
 all_goals grind
theorem db.var(h:db w base bx vt gt ts s F):
  ∃av cv,w.cell? ⟨bx,1,none⟩=some (.slice av s.vars.length cv)/\∀i (hi:i<s.vars.length),∃gv,av=some ⟨gv,0,none⟩/\w.cell? ⟨gv,i*3,none⟩=some (.string s.vars[i].name)/\w.cell? ⟨gv,i*3+1,none⟩=some (.int .i64 s.vars[i].lo)/\w.cell? ⟨gv,i*3+2,none⟩=some (.int .i64 s.vars[i].hi):=by
 obtain⟨g,h,_⟩:=h;have ho:=h.mem.own 1 _ rfl;obtain⟨av,cv,hv,_,_⟩:=dv ho;simp only at hv;refine⟨av,cv,by rw[<-hv];exact h.cellAt.2.1,λi hi=>?_⟩;obtain⟨gv,cap,he,_,_,_,_,hc⟩:=aR ho (by grind);simp only [hv,Value.slice.injEq]at he;have hf:=λj hj=>(hc (i*3+j) (by grind)).trans (wV lg 3 s.vars (λ_=>rfl) i j hi hj)
 exact⟨gv,he.1,hf 0 (by omega),hf 1 (by omega),hf 2 (by omega)⟩
def NL(w:World)(bx gt:Nat)(ts:List Hx.Tok)(ms:List Hx.fX):Prop:=
  ∃av cv,w.cell? ⟨bx,2,none⟩=some (.slice av ms.length cv)/\∀i (hi:i<ms.length),∃gm ar cr,av=some ⟨gm,0,none⟩/\w.cell? ⟨gm,i*5,none⟩=some (.string ms[i].name)/\
   w.cell? ⟨gm,i*5+1,none⟩=some (.int .i64 ms[i].line)/\w.cell? ⟨gm,i*5+2,none⟩=some (.int .i64 ms[i].outer)/\w.cell? ⟨gm,i*5+3,none⟩=some (.bool ms[i].dflt)/\
   w.cell? ⟨gm,i*5+4,none⟩=some (.slice ar ms[i].rows.length cr)/\
   ∀j (hj:j<ms[i].rows.length),∃gr off n c,ar=some ⟨gr,0,none⟩/\w.cell? ⟨gr,j*3,none⟩=some (.slice (some ⟨gt,off*4,none⟩) n c)/\w.cell? ⟨gr,j*3+1,none⟩=some (.string ms[i].rows[j].to)/\w.cell? ⟨gr,j*3+2,none⟩=some (.int .i64 ms[i].rows[j].line)/\off+n<=ts.length/\ms[i].rows[j].gd=(ts.drop off).take n
theorem db.mode(h:db w base bx vt gt ts s F):NL w bx gt ts s.af:=by
 obtain⟨⟨vv,vm,va,ms,ats⟩,h,_⟩:=h;have hm:=h.af;simp only at hm;have iq:ms.length=s.af.length:=by rw[<-hm];simp
 have ho:=h.mem.own 2 _ rfl;obtain⟨av,cv,hv,_,_⟩:=dv ho;simp only at hv;refine⟨av,cv,by rw[<-iq,<-hv];exact h.cellAt.2.2.1,λi hi=>?_⟩;have qe:i<ms.length:=by omega
 have hmi:s.af[i]=ms[i].m:=by simp[<-hm]
 obtain⟨gm,cap,he,_,_,_,_,hc⟩:=aR ho (by grind);simp only [hv,Value.slice.injEq]at he;have hf:=λj hj=>(hc (i*5+j) (by grind)).trans (wV MM.cells 5 ms (λ_=>rfl) i j qe hj)
 have hr:=h.mem.own (i+4) ms[i].row (by simp[bL,qe]);obtain⟨ar,cr,hrv,_,_⟩:=dv hr;simp only [MM.row]at hrv;rw[hmi];refine⟨gm,ar,cr,he.1,hf 0 (by omega),hf 1 (by omega),hf 2 (by omega),hf 3 (by omega),(hf 4 (by omega)).trans (by rw[<-hrv];rfl),λj hj=>?_⟩;obtain⟨gr,cap,he,_,_,_,_,hc⟩:=aR hr (by grind[MM.row]);simp only [MM.row,hrv,Value.slice.injEq]at he hc;obtain⟨g1,g2⟩:=h.guards ms[i] (List.getElem_mem qe);have hz:j<(ms[i].m.rows.zip ms[i].gv).length:=by simp;omega
 obtain⟨off,n,c,hg,hl,hd⟩:=g2 _ (List.getElem_mem hz);have hf:=λq hq=>(hc (j*3+q) (by omega)).trans (wV dS 3 (ms[i].m.rows.zip ms[i].gv) (λ_=>rfl) j q hz hq)
 simp only [List.getElem_zip]at hg hd;have e0:=hf 0 (by omega)
 grind[dS]
theorem yJ(w:World)(base bx:Nat)(vt:Value)(gt:Nat)(ts:List Hx.Tok)(s:Hx.St)(F:Nat->Prop)(n:ByteArray)(h:db w base bx vt gt ts s F)(hn:s.vars.length<=10000):
  Calls Tryz.prog 141 #[.pointer (some ⟨bx,0,none⟩),.string n] w λe w'=>e=.returned (.int .i64 (Hx.place n 0 (s.vars.map (·.name))))/\w'=w:=by
 obtain⟨av,cv,c1,hc⟩:=h.var;have HC:=ae hc;clear hc h;go_enter Tryz.func141,Tryz.ntmps141;go_wp2
 go_loop [5] (λvi=>∃k:Nat,k<=s.vars.length/\vi=.int .i64 k/\Hx.place n 0 (s.vars.map (·.name))=Hx.place n k ((s.vars.map (·.name)).drop k)) (λvi=>s.vars.length-(intOf vi).toNat)
 case atStart=>grind
 case round=>
  obtain⟨k,hk,rfl,hp⟩:=hrel;have HP:=ae hp;clear hp
  by_cases hlt:k<s.vars.length
  ·obtain⟨gv,rfl,hcell,_⟩:=HC.out k hlt
   cases hq:(s.vars[k].name.toList==n.toList)with
   |true=>
    have HH:=ae (HP.out.trans (Hx.DA n (s.vars.map (·.name)) k k (by grind) (by grind)));go_wp2;go_ret;exact⟨di HH.out.symm,rfl⟩
   |false=>
    have HH:=ae (HP.out.trans (Hx.xB n (s.vars.map (·.name)) k k (by grind) (by grind)));go_wp2
    go_round
    case rel=>exact⟨k+1,by omega,by go_num,HH.out⟩
    case measure=>grind[intOf]
  ·have HH:=ae (HP.out.trans (Hx.DB n (s.vars.map (·.name)) k k (by grind)))
   go_wp2;go_ret;exact⟨di HH.out.symm,rfl⟩
theorem yM(w:World)(base bx:Nat)(vt:Value)(gt:Nat)(ts:List Hx.Tok)(s:Hx.St)(F:Nat->Prop)(n:ByteArray)(h:db w base bx vt gt ts s F)(hn:s.af.length<=10000):
  Calls Tryz.prog 143 #[.pointer (some ⟨bx,0,none⟩),.string n] w λe w'=>e=.returned (.int .i64 (Hx.place n 0 (s.af.map (·.name))))/\w'=w:=by
 obtain⟨av,cv,c1,hc⟩:=h.mode;have HC:=ae hc;clear hc h;go_enter Tryz.func143,Tryz.ntmps143;go_wp2
 go_loop [5] (λvi=>∃k:Nat,k<=s.af.length/\vi=.int .i64 k/\Hx.place n 0 (s.af.map (·.name))=Hx.place n k ((s.af.map (·.name)).drop k)) (λvi=>s.af.length-(intOf vi).toNat)
 case atStart=>grind
 case round=>
  obtain⟨k,hk,rfl,hp⟩:=hrel;have HP:=ae hp;clear hp
  by_cases hlt:k<s.af.length
  ·obtain⟨gv,_,_,rfl,hcell,_⟩:=HC.out k hlt
   cases hq:(s.af[k].name.toList==n.toList)with
   |true=>
    have HH:=ae (HP.out.trans (Hx.DA n (s.af.map (·.name)) k k (by grind) (by grind)));go_wp2;go_ret;exact⟨di HH.out.symm,rfl⟩
   |false=>
    have HH:=ae (HP.out.trans (Hx.xB n (s.af.map (·.name)) k k (by grind) (by grind)));go_wp2
    go_round
    case rel=>exact⟨k+1,by omega,by go_num,HH.out⟩
    case measure=>grind[intOf]
  ·have HH:=ae (HP.out.trans (Hx.DB n (s.af.map (·.name)) k k (by grind)))
   go_wp2;go_ret;exact⟨di HH.out.symm,rfl⟩
