/- The program's table in memory: a mode is added, one within another, its name is taken. -/
import Derived.Test.YtdjaiolfdbamcaaGreatDoorZWPar8
set_option maxRecDepth 20000
set_option maxHeartbeats 4000000
namespace Go.Proofs.YtdjaiolfdbamcaaGreatDoor
variable {w w':World}{B base e i tb:Nat}{xs:List Value}{v' vm vt vv:Value}{vs:List az}{F:Nat->Prop}{d inn:Int}{dear:Bool}
section
open Go.RowKit
theorem dr.Fl{L:List Rw}(h:dr w base L)(hb:w.heap[B]?=some (.cells xs.toArray e (0,0)))(hB:base<=B)(hn:¬mj L B):dr w base (L++[Rw.box e B xs]):=by
 have zu:∀i a,(L++[Rw.box e B xs])[i]?=some a->(L[i]?=some a)\/(i=L.length/\a=Rw.box e B xs):=by
  intro i a ha
  by_cases hi:i<L.length
  ·grind
  ·grind
 refine⟨λi r hr=>?_,λi j a c Kd ha hc=>?_⟩
 ·rcases zu i r hr with h1|⟨_,rfl⟩
  ·exact h.own i r h1
  ·exact⟨by simp[Rw.box],.inr ⟨B,1,xs.toArray,rfl,hB,by grind[Rw.box],Nat.le_refl 1,by grind[maxLen],by simp[Rw.box],by simp[Rw.box]⟩⟩
 ·rcases zu i a ha with h1|⟨h1,rfl⟩<;>rcases zu j c hc with h2|⟨h2,rfl⟩
  ·exact h.apart i j a c Kd h1 h2
  ·cases tX:a.v.ownBlock with
   |none=>simp
   |some k=>right;intro e2;exact hn ⟨i,a,h1,by rw[tX];exact e2⟩
  ·right
   intro e2;exact hn ⟨j,c,h2,e2.symm⟩
  ·omega
theorem pj{L M:List Rw}{k:Nat}(h:mj (L++M) k):mj L k\/mj M k:=by
 obtain⟨i,r,hr,e⟩:=h
 by_cases hi:i<L.length
 ·rw[List.getElem?_append_left hi]at hr;exact .inl ⟨i,r,hr,e⟩
 ·rw[List.getElem?_append_right (by omega)]at hr;exact .inr ⟨_,r,hr,e⟩
def MG.kY(m:MG)(B:Nat)(v':Value):MG:={m with wi:=m.wi++[B],vw:=v'}
theorem PT.Qd{gs:List MG}(h:PT w base tb vt vs gs F vv vm)(hi:i<gs.length)(hg:w.grownBy w' gs[i].vw.ownBlock)
  (ho:w'.ownsRow base 164 1 v' (gs[i].wi.length+1) (gs[i].wi.map dz++[dz B])) (bu:v'.ownBlock=gs[i].vw.ownBlock\/v'.ownBlock=some w.heap.size):
  PT (w'.setCell ⟨gs[i].bZ,8,none⟩ v') base tb vt vs (gs.set i (gs[i].kY B v')) (fresh F w) vv vm/\Kp F w (w'.setCell ⟨gs[i].bZ,8,none⟩ v')/\w'.cell? ⟨gs[i].bZ,8,none⟩=some gs[i].vw/\w'.frozen? ⟨gs[i].bZ,8,none⟩=false:=by
 have dw:=uz (tb:=tb) (vt:=vt) (vv:=vv) (vm:=vm) (vs:=vs) hi;have ny:=oU (tb:=tb) (vt:=vt) (vv:=vv) (vm:=vm) (vs:=vs) hi;have fv:=pd (tb:=tb) (vt:=vt) (vv:=vv) (vm:=vm) (vs:=vs) hi;have e2:(gs[i].kY B v').r2=⟨164,1,gs[i].wi.length+1,v',gs[i].wi.map dz++[dz B]⟩:=by simp[MG.r2,MG.kY]
 have m1:=h.mem.grown (r':=(gs[i].kY B v').r2) fv hg (by grind) (by rw[e2];exact bu);have Ma:((cJ tb vt vv vm vs gs).set (i*3+5) (gs[i].kY B v').r2)[i*3+3]?=some gs[i].r0:=by rw[List.getElem?_set_ne (by omega)];exact ny
 have m2:=m1.store (j:=8) Ma rfl v';have aJ:∀k,gs[i].vw.ownBlock=some k->F k:=λk hk=>h.vF k ⟨_,_,fv,hk⟩
 have hF0:=(h.bG hi).2.2.2.2;have e:cJ tb vt vv vm vs (gs.set i (gs[i].kY B v'))=((cJ tb vt vv vm vs gs).set (i*3+5) (gs[i].kY B v').r2).set (i*3+3) {gs[i].r0 with xs:=gs[i].r0.xs.set 8 v'}:=by
  rw[Mb (m:=gs[i].kY B v') hi rfl];have e3:(gs[i].kY B v').r0={gs[i].r0 with xs:=gs[i].r0.xs.set 8 v'}:=by simp[MG.r0,Rw.box,MG.box,lz,MG.kY]
  have e4:((cJ tb vt vv vm vs gs).set (i*3+3) (gs[i].kY B v').r0).set (i*3+4) (gs[i].kY B v').r1=(cJ tb vt vv vm vs gs).set (i*3+3) (gs[i].kY B v').r0:=by
   refine kZ _ _ _ ?_;rw[List.getElem?_set_ne (by omega)];exact dw
  rw[e4,List.set_comm _ _ (by omega),e3]
 refine⟨⟨by grind,λk hk=>?_,by simp only [World.setCell,Array.size_modify];exact Nat.le_trans h.low hg.size⟩,((Kp.refl F w).grown hg (λk hk=>.inl (aJ k hk))).setCell (.inl hF0) _,m1.cell Ma rfl 8 (by simp[MG.r0,Rw.box,MG.box,lz]),m1.frozen Ma rfl 8⟩;rw[e]at hk;rcases iR hk with hk|hk
 ·rcases iR hk with hk|hk
  ·exact .inl (h.vF k hk)
  ·rw[e2]at hk
   rcases bu with a|a
   ·exact .inl (aJ k (a▸hk))
   ·right;grind
 ·cases hk;exact .inl hF0
def gQ(dflt:Bool)(depth:Nat)(outer:Int)(B:Nat)(ar:Option Nat):MG:=⟨⟨k7,dflt,depth,outer,[]⟩,B,ar,.slice none 0 0,.slice none 0 0,[]⟩
theorem PT.bT{gs:List MG}{dflt:Bool}{depth:Nat}{outer:Int}{ar:Option Nat}(h:PT w base tb vt vs gs F vv vm)(hg:w.grownBy w' vm.ownBlock)
  (ho:w'.ownsRow base 164 1 v' (gs.length+1) ((gs.map λm=>dz m.bZ)++[dz B])) (bu:v'.ownBlock=vm.ownBlock\/v'.ownBlock=some w.heap.size)
  (hB:w.heap[B]?=some (.cells (gQ dflt depth outer B ar).box.toArray 171 (0,0))) (hBb:base<=B) (hBF:¬F B):
  PT (w'.setCell ⟨tb,2,none⟩ v') base tb vt vs (gs++[gQ dflt depth outer B ar]) (λk=>fresh F w k\/k=B) vv v'/\Kp F w (w'.setCell ⟨tb,2,none⟩ v')/\w'.cell? ⟨tb,2,none⟩=some vm/\w'.frozen? ⟨tb,2,none⟩=false:=by
 have hBl:=(Array.getElem?_eq_some_iff.1 hB).1;have dw:(cJ tb vt vv vm vs gs)[2]?=some ⟨164,1,gs.length,vm,gs.map λm=>dz m.bZ⟩:=rfl;have m1:=h.mem.grown (r':=⟨164,1,gs.length+1,v',(gs.map λm=>dz m.bZ)++[dz B]⟩) dw hg ho bu;have ny:((cJ tb vt vv vm vs gs).set 2 ⟨164,1,gs.length+1,v',(gs.map λm=>dz m.bZ)++[dz B]⟩)[0]?=some (Rw.box 87 tb [vt,vv,vm]):=rfl;have m2:=m1.store (j:=2) ny rfl v';have aJ:∀k,vm.ownBlock=some k->F k:=λk hk=>h.vF k ⟨2,_,dw,hk⟩
 have hFt:=h.cells.2.2.2.2.2.2;have aeg:∀k,mj (((cJ tb vt vv vm vs gs).set 2 ⟨164,1,gs.length+1,v',(gs.map λm=>dz m.bZ)++[dz B]⟩).set 0 (Rw.box 87 tb [vt,vv,v'])) k->F k\/k=w.heap.size:=by
  intro k hk;rcases iR hk with hk|hk
  ·rcases iR hk with hk|hk
   ·exact .inl (h.vF k hk)
   grind
  ·cases hk;grind
 have uQ:Kp F w (w'.setCell ⟨tb,2,none⟩ v'):=((Kp.refl F w).grown hg (λk hk=>.inl (aJ k hk))).setCell (.inl hFt) _;have m3:=m2.Fl (e:=171) ((uQ.block B hBl hBF).trans hB) hBb (λhf=>(aeg B hf).elim hBF (λe=>by omega));have m4:=(m3.oB 232 10).oB 164 1;have e:cJ tb vt vv v' vs (gs++[gQ dflt depth outer B ar])=((((cJ tb vt vv vm vs gs).set 2 ⟨164,1,gs.length+1,v',(gs.map λm=>dz m.bZ)++[dz B]⟩).set 0 (Rw.box 87 tb [vt,vv,v']))++[Rw.box 171 B (gQ dflt depth outer B ar).box])++[⟨232,10,0,.slice none 0 0,[]⟩]++[⟨164,1,0,.slice none 0 0,[]⟩]:=by
  simp[cJ,MG.rws,MG.r0,MG.r1,MG.r2,gQ]
 refine⟨⟨by rw[e];exact m4,λk hk=>?_,by simp only [World.setCell,Array.size_modify];exact Nat.le_trans h.low hg.size⟩,uQ,m1.cell ny rfl 2 (by simp[Rw.box]),m1.frozen ny rfl 2⟩;rw[e]at hk;rcases pj hk with hk|hk
 ·rcases pj hk with hk|hk
  ·rcases pj hk with hk|hk
   ·exact .inl ((aeg k hk).elim .inl (λe=>.inr (by omega)))
   ·obtain⟨i,r,hr,e'⟩:=hk
    cases i with
    |zero=>cases hr;cases e';simp
    |succ i=>simp at hr
  ·obtain⟨i,r,hr,e'⟩:=hk
   cases i with
   |zero=>cases hr;cases e'
   |succ i=>simp at hr
 ·obtain⟨i,r,hr,e'⟩:=hk
  cases i with
  |zero=>cases hr;cases e'
  |succ i=>simp at hr
def MG.named(m:MG)(t:Hx.Tok):MG:={m with a:={m.a with name:=t}}
theorem PT.name{gs:List MG}{G:Nat->Prop}{t:Hx.Tok}(h:PT w base tb vt vs gs F vv vm)(hi:i<gs.length)(hk:Kp G w w')(hG:∀k,F k->G k->k=gs[i].bZ)
  (hb:w'.heap[gs[i].bZ]?=some (.cells (gs[i].named t).box.toArray 171 (0,0))):PT w' base tb vt vs (gs.set i (gs[i].named t)) F vv vm:=by
 have dw:=uz (tb:=tb) (vt:=vt) (vv:=vv) (vm:=vm) (vs:=vs) hi;have ny:=oU (tb:=tb) (vt:=vt) (vv:=vv) (vm:=vm) (vs:=vs) hi;have fv:=pd (tb:=tb) (vt:=vt) (vv:=vv) (vm:=vm) (vs:=vs) hi;have m1:=h.mem.alr ny hk (λk hf hg=>hG k (h.vF k hf) hg) hb;have e:cJ tb vt vv vm vs (gs.set i (gs[i].named t))=(cJ tb vt vv vm vs gs).set (i*3+3) (Rw.box 171 gs[i].bZ (gs[i].named t).box):=by
  rw[Mb (m:=gs[i].named t) hi rfl];have e4:((cJ tb vt vv vm vs gs).set (i*3+3) (gs[i].named t).r0).set (i*3+4) (gs[i].named t).r1=(cJ tb vt vv vm vs gs).set (i*3+3) (gs[i].named t).r0:=by
   refine kZ _ _ _ ?_;rw[List.getElem?_set_ne (by omega)];exact dw
  rw[e4];refine kZ _ _ _ ?_;rw[List.getElem?_set_ne (by omega)];exact fv
 refine⟨by grind,λk vY=>?_,Nat.le_trans h.low hk.size⟩;rw[e]at vY;rcases iR vY with vY|vY
 ·exact h.vF k vY
 ·cases vY;exact(h.bG hi).2.2.2.2
end
section
namespace Hx
def MA.p(m:MA):fX:=⟨m.name.s,m.name.line,m.outer,m.dflt,m.rows.map bD.p⟩
theorem U7{α:Type}(l:List α)(m:α)(f:α->α):(l++[m]).modify l.length f=l++[f m]:=by
 induction l<;>grind
theorem Qe(s:St)(q:Nat)(r:bD):(s.row q r).af=cy s.af q r.p:=by
 simp[St.row,Ed,St.ff,St.bw]
theorem Mc(rs:List bD):∀(s:St)(l:List fX)(m:fX),s.af=l++[m]->(s.jn l.length rs).af=l++[{m with rows:=m.rows++rs.map bD.p}]:=by
 induction rs<;>simp_all[St.jn,Qe,cy,U7,List.foldl_cons]
theorem qW(s:St)(m:MA):(s.mode m).af=s.af++[m.p]:=by
 simp_all[MA.p,St.mode,Mc,St.bT,St.bw]
theorem lF(ms:List MA):∀s:St,(s.cT ms).af=s.af++ms.map MA.p:=by
 induction ms<;>simp_all[St.cT,List.foldl_cons,qW]
theorem SS.mode{t a x:Tok}{r:List Tok}{s:St}(ht:t.k=119/\t.s.toList=cS):SS (t::a::x::r) inn d dear s r s.af.length (d+1) false (s.bT a inn d dear):=λf S hS=>⟨f+1,by
 simp_all[dk,Bool.false_eq_true,cS,aO,eE]⟩
theorem SS.dflt{t:Tok}{r:List Tok}{s:St}(ht:t.k=119/\t.s.toList=aO):SS (t::r) inn d dear s r inn d true s:=λf S hS=>⟨f+1,by
 simp_all[dk,Bool.false_eq_true,aO,eE]⟩
theorem SS.shut{t:Tok}{r:List Tok}{o:Int}{s:St}(ht:t.k=115/\t.s.toList=M3)(h0:0<=inn)(h1:inn.toNat<s.af.length)(ho:(s.af[inn.toNat]'h1).outer=o):SS (t::r) inn d dear s r o (d-1) dear s:=λf S hS=>⟨f+1,by
 have n1:¬t.k=101:=by omega
 have q1:(t.s.toList==eE)=false:=by rw[ht.2];decide
 have q2:(t.s.toList==aO)=false:=by rw[ht.2];decide
 simp_all[dk,Bool.false_eq_true,dB,cS]⟩
theorem SS.var{t a b x d e:Tok}{r:List Tok}{dp:Int}{s:St}(ht:t.k=119/\t.s.toList=eE):SS (t::a::b::x::d::e::r) inn dp dear s r inn dp dear (s.addVar a b d):=λf S hS=>⟨f+1,by
 simp_all[dk,eE]⟩
theorem abx{t:Tok}{y:List UInt8}(hg:Good t)(hy:y∈nt)(hm:aq t y=true):t.k=115/\t.s.toList=y:=by
 grind[Lib.toList_data,isS,kI]
theorem SS.whole{t a x e:Tok}{l1 l2 l3 r:List Tok}{dp:Nat}{s:St}{rs:List bD}{ext:List MA}(ht:t.k=119/\t.s.toList=cS)(he:e.k=115/\e.s.toList=M3)(hd:d=dp)
  (h1:∀(Le d':Int)(Nj:Bool)(s':St),0<=Le/\Le<s'.af.length->SS l1 Le d' Nj s' l2 Le d' Nj (s'.jn Le.toNat rs))
  (h2:∀s':St,s'.af.length=s.af.length+1->SS l2 s.af.length (d+1) false s' l3 s.af.length (d+1) false (s'.cT ext)) (h3:l3=e::r):
  SS (t::a::x::l1) inn d dear s r inn d false (s.cT (⟨a,dear,dp,inn,rs⟩::ext)):=by
 subst hd h3;have hl:(s.bT a inn dp dear).af.length=s.af.length+1:=by simp[St.bT,St.bw]
 have e1:s.mode ⟨a,dear,dp,inn,rs⟩=(s.bT a inn dp dear).jn s.af.length rs:=rfl;have hm:=qW s ⟨a,dear,dp,inn,rs⟩;refine(SS.mode ht).trans ((h1 s.af.length _ false _ ⟨by omega,by omega⟩).trans ?_);rw[Int.toNat_natCast,<-e1];refine(h2 _ (by rw[hm];simp)).trans ?_;have qm:((s.mode ⟨a,dear,dp,inn,rs⟩).cT ext).af=s.af++[MA.p ⟨a,dear,dp,inn,rs⟩]++ext.map MA.p:=by rw[lF,hm]
 have:=SS.shut (t:=e) (r:=r) (inn:=s.af.length) (d:=(dp:Int)+1) (o:=inn) (dear:=false) (s:=(s.mode ⟨a,dear,dp,inn,rs⟩).cT ext) he (by omega) (by rw[qm];simp) (by simp[qm,MA.p]);rw[Int.add_sub_cancel]at this;exact this
end Hx
structure Key where
 outer:Int
 depth:Nat
 bZ:Nat
 wi:List Nat
 ar:Option Nat
def MG.key(m:MG):Key:=⟨m.a.outer,m.a.depth,m.bZ,m.wi,m.ar⟩
def inside(ks:List Key)(i:Int):List Nat:=(ks.filter λk=>decide (k.outer=i)).map (·.bZ)
structure als(ks:List Key)(i:Nat)(k:Key):Prop where
 lt:k.outer<i
 low:-1<=k.outer
 dep:k.depth<=i
 wi:k.wi=inside ks i
 ar:k.ar=if k.outer<0 then none else(ks[k.outer.toNat]?).map Key.bZ
 deep:∀d,k.depth=d+1->∃(j:Nat)(ko:Key),j<i/\ks[j]?=some ko/\ko.depth=d
def yN(ks:List Key):Prop:=∀(i:Nat)(k:Key),ks[i]?=some k->als ks i k
def Links(gs:List MG):Prop:=yN (gs.map MG.key)
theorem rx(ks ls:List Key)(i:Int):inside (ks++ls) i=inside ks i++inside ls i:=by simp[inside]
theorem Md(ks:List Key)(a:Nat)(k':Key)(k:Key)(h:ks[a]?=some k)(h1:k'.outer=k.outer)(h2:k'.bZ=k.bZ)(i:Int):inside (ks.set a k') i=inside ks i:=by
 induction ks generalizing a with
 |nil=>simp at h
 |cons x r ih=>
  cases a with
  |zero=>
   simp at h;subst h;simp only [List.set_cons_zero,inside,List.filter_cons,h1];split<;>simp[h2]
  |succ a=>
   have:=ih a (by simpa using h);simp only [List.set_cons_succ,inside,List.filter_cons]at this|-;split<;>simp[this]
theorem vG(ks:List Key)(i:Int)(h:∀(j:Nat)(k:Key),ks[j]?=some k->k.outer≠i):inside ks i=[]:=by
 grind[List.getElem?_of_mem,inside,List.map_eq_nil_iff,List.filter_eq_nil_iff]
theorem Me{ks:List Key}(h:yN ks)(B:Nat):yN (ks++[⟨-1,0,B,[],none⟩]):=by
 intro i k hk
 by_cases hi:i<ks.length
 ·rw[List.getElem?_append_left hi]at hk
  obtain⟨h1,h2,h3,h4,h5,h6⟩:=h i k hk;refine⟨h1,h2,h3,?_,?_,λd hd=>?_⟩
  ·grind[inside,rx]
  ·grind
  ·obtain⟨j,ko,a1,a2,a3⟩:=h6 d hd
   exact⟨j,ko,a1,by grind,a3⟩
 ·rw[List.getElem?_append_right (by omega)]at hk
  have e:i-ks.length=0:=by
   cases hx:i-ks.length with
   |zero=>rfl
   |succ n=>grind
  rw[e]at hk;simp at hk;subst hk;have ei:i=ks.length:=by omega
  subst ei;refine⟨by grind,by simp,by simp,?_,by simp,λd hd=>by simp at hd⟩;rw[rx,vG ks _ (λj k hj e=>by have:=(h j k hj).lt;grind)];simp[inside]
theorem Jo{ks:List Key}(h:yN ks)(a:Nat)(ka:Key)(ha:ks[a]?=some ka)(B:Nat):
  yN (ks.set a {ka with wi:=ka.wi++[B]}++[⟨a,ka.depth+1,B,[],some ka.bZ⟩]):=by
 have QO:=(List.getElem?_eq_some_iff.1 ha).1;have hb:∀j:Nat,((ks.set a {ka with wi:=ka.wi++[B]})[j]?).map Key.bZ=(ks[j]?).map Key.bZ:=by
  intro j;rw[List.getElem?_set];split
  ·grind
  ·rfl
 have tQ:∀i:Int,inside (ks.set a {ka with wi:=ka.wi++[B]}++[⟨a,ka.depth+1,B,[],some ka.bZ⟩]) i=inside ks i++(if(a)=i then [B]else []):=by
  intro i;rw[rx,Md ks a {ka with wi:=ka.wi++[B]} ka ha rfl rfl];congr 1;simp only [inside,List.filter_cons,List.filter_nil];split<;>simp_all
 have har:∀k:Key,k.outer<ks.length->(if k.outer<0 then none else((ks.set a {ka with wi:=ka.wi++[B]}++[⟨a,ka.depth+1,B,[],some ka.bZ⟩])[k.outer.toNat]?).map Key.bZ)=(if k.outer<0 then none else(ks[k.outer.toNat]?).map Key.bZ):=by
  intro k hk;split
  ·rfl
  ·grind
 have hde:∀(j:Nat)(ko:Key),ks[j]?=some ko->∃ko':Key,(ks.set a {ka with wi:=ka.wi++[B]}++[⟨a,ka.depth+1,B,[],some ka.bZ⟩])[j]?=some ko'/\ko'.depth=ko.depth:=by
  intro j ko hj;have iP:=(List.getElem?_eq_some_iff.1 hj).1;rw[List.getElem?_append_left (by grind),List.getElem?_set];split
  ·grind
  ·grind
 intro i k hk
 by_cases hi:i<ks.length
 ·rw[List.getElem?_append_left (by grind),List.getElem?_set]at hk
  by_cases e:a=i
  ·rw[if_pos e,if_pos QO]at hk
   cases hk
   subst e;obtain⟨h1,h2,h3,h4,h5,h6⟩:=h a ka ha;refine⟨h1,h2,h3,by grind,?_,λd hd=>?_⟩
   ·grind
   ·obtain⟨j,ko,a1,a2,a3⟩:=h6 d hd
    grind
  ·rw[if_neg e]at hk
   obtain⟨h1,h2,h3,h4,h5,h6⟩:=h i k hk;refine⟨h1,h2,h3,?_,?_,λd hd=>?_⟩
   ·grind
   ·grind
   ·obtain⟨j,ko,a1,a2,a3⟩:=h6 d hd
    grind
 ·rw[List.getElem?_append_right (by grind)]at hk
  have e:i-ks.length=0:=by
   cases hx:i-ks.length with
   |zero=>rfl
   |succ n=>grind
  simp only [List.length_set,e]at hk;simp at hk;subst hk;have ei:i=ks.length:=by omega
  subst ei;have h3:=(h a ka ha).dep;refine⟨by grind,by simp,by grind,?_,?_,λd hd=>?_⟩
  ·rw[tQ,vG ks _ (λj k hj e=>by have:=(h j k hj).lt;grind),if_neg (by omega)];rfl
  all_goals grind
structure Grow(gs gs':List MG)(ext:List Hx.MA):Prop where
 a:gs'.map (·.a)=gs.map (·.a)++ext
 bZ:∀(i:Nat)(m:MG),gs[i]?=some m->∃m':MG,gs'[i]?=some m'/\m'.bZ=m.bZ
 kt:Links gs'
theorem Grow.trans{g1 g2 g3:List MG}{e1 e2:List Hx.MA}(h:Grow g1 g2 e1)(k:Grow g2 g3 e2):Grow g1 g3 (e1++e2):=
 ⟨by rw[k.a,h.a,List.append_assoc],λi m hm=>by
  obtain⟨m2,h2,b2⟩:=h.bZ i m hm;obtain⟨m3,h3,b3⟩:=k.bZ i m2 h2
  grind,k.kt⟩
theorem Grow.len{g g':List MG}{e:List Hx.MA}(h:Grow g g' e):g'.length=g.length+e.length:=by
 have:=congrArg List.length h.a;grind
end
section
open Go.RowKit
def aZ:Option Nat->Int
 |none=>-1
 |some a=>a
def lL(gs:List MG)(ai:Option Nat):Option Nat:=ai.bind λa=>(gs[a]?).map (·.bZ)
def jS(gs:List MG):Option Nat->Nat
 |none=>0
 |some a=>((gs[a]?).map λg=>g.a.depth+1).getD 0
structure ad5(w:World)(b gt cap tb:Nat)(ts:List Hx.Tok)(j base:Nat)(vt vv:Value)(vs:List az)(gs:List MG)(F:Nat->Prop)(ai:Option Nat)(dflt:Bool)(ok:Bool)(j':Nat)(gs':List MG)(D9:Value)(w':World):Prop where
 par:fJ w' b gt cap tb ts j'
 jU:PT w' base tb vt vs gs' (fresh F w) vv D9
 kept:Kp (λk=>k=b\/F k) w w'
 good:ok=true->∃ext,Grow gs gs' ext/\j<j'/\gs'.length<=j'/\Hx.Ok [Hx.e9] (ts.drop j) (ts.drop j')/\Hx.MD false (ts.drop j) (aZ ai) dflt (jS gs ai) gs.length ext (ts.drop j')/\
  ∀s:Hx.St,s.af.length=gs.length->Hx.SS (ts.drop j) (aZ ai) (jS gs ai) dflt s (ts.drop j') (aZ ai) (jS gs ai) false (s.cT ext)
 bad:ok=false->Hx.eo [Hx.e9] (ts.drop j) (ts[j']'par.lt).line
structure agD(w:World)(b gt cap tb:Nat)(ts:List Hx.Tok)(j base:Nat)(vt vv:Value)(vs:List az)(gs:List MG)(F:Nat->Prop)(i:Nat)(hi:i<gs.length)(ok:Bool)(j':Nat)(gs':List MG)(D9:Value)(w':World):Prop where
 par:fJ w' b gt cap tb ts j'
 jU:PT w' base tb vt vs gs' (fresh F w) vv D9
 kept:Kp (λk=>k=b\/F k) w w'
 good:ok=true->∃ext,Grow gs gs' ext/\j<=j'/\gs'.length<=j'/\(∀l',Hx.Ok [Hx.M3] (ts.drop j') l'->Hx.Ok [Hx.bJ] (ts.drop j) l')/\(∀ln,Hx.eo [Hx.M3] (ts.drop j') ln->Hx.eo [Hx.bJ] (ts.drop j) ln)/\Hx.MD true (ts.drop j) i false (gs[i].a.depth+1) gs.length ext (ts.drop j')/\
  ∀s:Hx.St,s.af.length=gs.length->Hx.SS (ts.drop j) i (gs[i].a.depth+1:Nat) false s (ts.drop j') i (gs[i].a.depth+1:Nat) false (s.cT ext)
 bad:ok=false->Hx.eo [Hx.bJ] (ts.drop j) (ts[j']'par.lt).line
def NG(n:Nat):Prop:=∀(w:World)(b gt cap tb:Nat)(ts:List Hx.Tok)(j base:Nat)(vt vv vm:Value)(vs:List az)(gs:List MG)(F:Nat->Prop)(ai:Option Nat)(dflt:Bool),
 fJ w b gt cap tb ts j->PT w base tb vt vs gs F vv vm->Links gs->¬F b->¬F gt->(∀a,ai=some a->a<gs.length)->gs.length<=j->ts.length-j<=n->
 Calls Tryz.prog 155 #[.pointer (some ⟨b,0,none⟩),arV (lL gs ai),.bool dflt] w λe w'=>∃ok j' gs' D9,e=.returned (.bool ok)/\ad5 w b gt cap tb ts j base vt vv vs gs F ai dflt ok j' gs' D9 w'
def UI(n:Nat):Prop:=∀(w:World)(b gt cap tb:Nat)(ts:List Hx.Tok)(j base:Nat)(vt vv vm:Value)(vs:List az)(gs:List MG)(F:Nat->Prop)(i:Nat)(hi:i<gs.length),
 fJ w b gt cap tb ts j->PT w base tb vt vs gs F vv vm->Links gs->¬F b->¬F gt->gs.length<=j->ts.length-j<=n->
 Calls Tryz.prog 199 #[.pointer (some ⟨b,0,none⟩),.pointer (some ⟨gs[i].bZ,0,none⟩)] w λe w'=>∃ok j' gs' D9,e=.returned (.bool ok)/\agD w b gt cap tb ts j base vt vv vs gs F i hi ok j' gs' D9 w'
structure arj(w:World)(b gt cap tb:Nat)(ts:List Hx.Tok)(j base:Nat)(vt vv vm:Value)(vs:List az)(gs:List MG)(F:Nat->Prop)(ai:Option Nat)(dflt:Bool)(kf:List MG)(F1:Nat->Prop)(wx:World):Prop where
 par:fJ wx b gt cap tb ts j
 jU:PT wx base tb vt vs kf F1 vv vm
 ark:¬F1 w.heap.size
 sub:∀k,F1 k->fresh F w k
 kept:Kp (tight F w) w wx
 box:wx.heap[w.heap.size]?=some (.cells (gQ dflt (jS gs ai) (aZ ai) w.heap.size (lL gs ai)).box.toArray 171 (0,0))
 a:kf.map (·.a)=gs.map (·.a)
 bZ:∀(i:Nat)(m:MG),gs[i]?=some m->∃m':MG,kf[i]?=some m'/\m'.bZ=m.bZ
 kt:Links (kf++[gQ dflt (jS gs ai) (aZ ai) w.heap.size (lL gs ai)])
structure arl(w:World)(b gt cap tb:Nat)(ts:List Hx.Tok)(j base:Nat)(vt vv:Value)(vs:List az)(gs:List MG)(F:Nat->Prop)(ai:Option Nat)(dflt:Bool)(kf:List MG)(D9:Value)(wx:World):Prop where
 par:fJ wx b gt cap tb ts j
 jU:PT wx base tb vt vs (kf++[gQ dflt (jS gs ai) (aZ ai) w.heap.size (lL gs ai)]) (fresh F w) vv D9
 kept:Kp F w wx
 a:kf.map (·.a)=gs.map (·.a)
 bZ:∀(i:Nat)(m:MG),gs[i]?=some m->∃m':MG,kf[i]?=some m'/\m'.bZ=m.bZ
 kt:Links (kf++[gQ dflt (jS gs ai) (aZ ai) w.heap.size (lL gs ai)])
theorem Tryz.infoPtrA:(Tryz.prog.info? 164).map (λi=>(i.zero,i.size,i.bytes))=some (some (.pointer none),1,8):=by kernel_rfl
theorem PT.tight{gs:List MG}(h:PT w base tb vt vs gs F vv vm):PT w base tb vt vs gs (tight F w) vv vm:=
 ⟨h.mem,λk hk=>⟨h.vF k hk,by obtain⟨i,r,hr,e⟩:=hk;exact(h.mem.lt hr e).2⟩,h.low⟩
theorem dr.Nx{L:List Rw}(h:dr w base L){b:Nat}(hr:L[i]?=some (Rw.box e b xs)):w.heap[b]?=some (.cells xs.toArray e (0,0)):=by
 obtain⟨hl,ho⟩:=h.own i _ hr;rcases ho with⟨h0,_⟩|⟨g,cap,cur,he,hb,hg,h1,h2,h3,h4⟩
 ·cases h0
 ·cases he
  rw[hg];have:cur=xs.toArray:=by
   apply Array.toList_inj.1;have h5:cur.toList.length=xs.length:=by simpa[Rw.box]using h3
   have h6:=by simpa[Rw.box]using h4
   rw[<-h5,List.take_length]at h6;simpa using h6
  rw[this];rfl
theorem PX(n:Nat)(IH:UI n):NG (n+1):=by
 intro w b gt cap tb ts j base vt vv vm vs gs F ai dflt h hT hL PQ pQ hai hgj hn;have HIH:=ae IH;have HP:=ae h;have HT:=ae hT;have tj:=ae hT.tight;have HL:=ae hL;have eS:=h.own;have ck:=h.lies;have iP:=h.lt;have wA:=h.ok.oM;have htb:Hid (∀k,tight F w k->k<w.heap.size):=ae (λk h=>h.2);have hnb:¬tight F w b:=λh=>PQ h.1
 have hng:¬tight F w gt:=λh=>pQ h.1
 have aN:∀i (hi:i<ts.length),Hid (Hx.Good ts[i]):=λi hi=>ae (h.ok.good _ (List.getElem_mem hi))
 clear IH hT hL;obtain⟨pa,hpa⟩:∃pa,arV (lL gs ai)=.pointer pa:=by cases lL gs ai<;>exact⟨_,rfl⟩
 rw[hpa];have LA:=ae hpa;clear hpa;go_enter Tryz.func155,Tryz.ntmps155;go_upto_if 13 with(fail)
 go_cut []from 8 to 74 (λwx=>∃kf F1,arj w b gt cap tb ts j base vt vv vm vs gs F ai dflt kf F1 wx)
 case first=>
  cases ai with
  |none=>
   obtain rfl:=by have:=LA.out;simpa[lL,arV]using this.symm
   go_wp2_with fail;go_meet
   case rel=>
    refine⟨gs,tight F w,HP.out.below ((Below.refl _ _).alloc (Nat.le_refl _) _),tj.out.below ((Below.refl _ _).alloc (Nat.le_refl _) _),λh=>by have:=h.2;omega,λk h=>.inl h.1,(Kp.refl _ _).alloc _,heap_alloc_new _ _,rfl,λi m h=>⟨m,h,rfl⟩,?_⟩;unfold Links;rw[List.map_append];exact Me HL.out w.heap.size
  |some a=>
   have ha:=hai a rfl;have tX:lL gs (some a)=some gs[a].bZ:=by simp[lL,ha]
   obtain rfl:=by have:=LA.out;rw[tX]at this;simpa[arV,dz]using this.symm
   obtain⟨rI,XG,agE,Pr,hmF⟩:=tj.out.bG ha;have hO:=tj.out.mem.own _ _ (pd ha);have U8:w.ownsRow base 164 1 gs[a].vw gs[a].wi.length (gs[a].wi.map dz):=hO;obtain⟨av,cv,nR,_,_⟩:=aj U8;have m5:w.cell? ⟨gs[a].bZ,5,none⟩=some (.int .i64 gs[a].a.depth):=rI 5 (by omega);have m8:w.cell? ⟨gs[a].bZ,8,none⟩=some (.slice av gs[a].wi.length cv):=by rw[<-nR];exact rI 8 (by omega)
   have XH:(gs.map MG.key)[a]?=some gs[a].key:=by simp[ha]
   have Ng:=HL.out a _ XH;have ud:gs[a].a.depth<=a:=Ng.dep;have FW:gs[a].wi.length<=gs.length:=by
    have h1:gs[a].wi=inside (gs.map MG.key) a:=Ng.wi;rw[h1,inside,List.length_map];exact Nat.le_trans (List.length_filter_le _ _) (by simp)
   have hwp:IntKind.i64.wrap ((gs[a].a.depth)+1)=(gs[a].a.depth)+1:=IntWalk.i64_in _ (by omega);have HO:=ae U8;have Zw:=ae nR;have HKA:=ae XH;have alt:Hid (jS gs (some a)=gs[a].a.depth+1):=ae (by simp[jS,ha]);have J3:=ae tX;have lx:=tj.out.low;clear hO U8 nR XH Ng rI XG tX;obtain⟨i0,dl,eu,dA,eg⟩:=info_parts Tryz.infoPtrA;have hpv:Hid (∀u∈[dz w.heap.size],u.oneCell'=true):=ae (by intro u hu;simp at hu;subst hu;rfl);have hne:gs[a].bZ≠w.heap.size:=by omega
   have ay6:w.heap.size≠gs[a].bZ:=by omega
   have QP:∀o,Below w.heap.size w (w.alloc o):=λo=>(Below.refl _ _).alloc (Nat.le_refl _) o
   have I9:=ae QP;clear QP;go_wp2_with (at_builtin;refine wpList_append_own_at _ rfl _ _ 85 rfl base 164 i0 _ 1 8 Tryz.underlying85 dl eu dA eg rfl (by decide) _ _ _ Zw.out.symm (ah HO.out ((I9.out _).alloc (I9.out _).size _)) ⟨w.heap.size+1,0,none⟩ 1 1 [dz w.heap.size] rfl rfl ?c1 ?c2 ?c3 ?c4 ?c5 ?_)
   case c1=>exact aF _ _ (by simp) [_] _
   case c2=>exact hpv.out
   case c3=>unfold maxLen;omega
   case c4=>omega
   case c5=>simp;omega
   intro v' w7 bE ax _ bu;obtain⟨Ge,Gf,rfl,_,_⟩:=aj bE;have hP1:PT ((w.alloc (.cells (gQ dflt (gs[a].a.depth+1) a w.heap.size (some gs[a].bZ)).box.toArray 171)).alloc (.cells #[dz w.heap.size] 164)) base tb vt vs gs (tight F w) vv vm:=tj.out.below ((I9.out _).alloc (by simp) _);obtain⟨jy,uQ,e5,e6⟩:=PT.Qd hP1 ha ax bE (by simpa using bu);rw[Zw.out]at e5;have jc:=ae jy;have vo:=ae uQ;clear jy uQ bE ax bu hP1;go_wp2_with fail;go_meet
   case rel=>
    have kc:Below w.heap.size w ((w.alloc (.cells (gQ dflt (gs[a].a.depth+1) a w.heap.size (some gs[a].bZ)).box.toArray 171)).alloc (.cells #[dz w.heap.size] 164)):=(I9.out _).alloc (I9.out _).size _;refine⟨gs.set a (gs[a].kY w.heap.size (.slice Ge (gs[a].wi.length+1) Gf)),_,(HP.out.below kc).kp vo.out hnb hng,jc.out,?_,?_,((Kp.refl _ w).below kc).trans vo.out (λ_ h=>.inl h),?_,?_,?_,?_⟩
    ·rintro(h|h)
     ·have:=h.2;omega
     ·simp at h;omega
    ·rintro k (h|h)
     ·exact .inl h.1
     ·simp at h;exact .inr (by omega)
    ·rw[alt.out,J3.out]
     refine(vo.out.block w.heap.size (by simp;omega) (λh=>by have:=h.2;omega)).trans ?_;exact(((Below.refl (w.heap.size+1) (w.alloc (.cells (gQ dflt (gs[a].a.depth+1) a w.heap.size (some gs[a].bZ)).box.toArray 171))).alloc (by simp) _).block w.heap.size (by omega)).trans (heap_alloc_new w _)
    ·simp_all[kZ,MG.kY,List.map_set]
    ·intro i m hm
     rw[List.getElem?_set]
     by_cases e:a=i
     ·subst e
      rw[if_pos rfl,if_pos ha];refine⟨_,rfl,?_⟩;rw[List.getElem?_eq_getElem ha]at hm
      cases hm;rfl
     grind
    ·unfold Links
     rw[List.map_append,List.map_set,alt.out,J3.out];exact Jo HL.out a _ HKA.out w.heap.size
 case rest=>
  obtain⟨kf,F1,hC⟩:=hcut;have hlen:=by have:=congrArg List.length hC.a;simpa using this
  have p2:=jr hC.par.box;have hO:=hC.jU.mem.own 2 _ rfl;have U8:wc.ownsRow base 164 1 vm kf.length (kf.map λm=>dz m.bZ):=hO;obtain⟨av,cv,nR,_,_⟩:=aj U8;obtain⟨_,_,c2,cf,ctb,ctl,cF⟩:=hC.jU.cells;rw[nR]at c2;have c2f:=cf 2;have lx:=hC.jU.low;have hzz:=hC.kept.size;have aby:=hC.par.own;have hBl:=(Array.getElem?_eq_some_iff.1 hC.box).1;have alu:¬F1 b:=λh=>(hC.sub b h).elim PQ (λh=>by omega)
  have arp:¬F1 gt:=λh=>(hC.sub gt h).elim pQ (λh=>by omega)
  have HC:=ae hC;have HO:=ae U8;have Zw:=ae nR;have HML:Hid (kf.length+1<=maxLen):=ae (by grind[maxLen]);have fR:Hid ((kf.length+1)*8<=140737488355328):=ae (by omega);have H1C:Hid (∀u∈[dz w.heap.size],u.oneCell'=true):=ae (by intro u hu;simp at hu;subst hu;rfl);obtain⟨i0,dl,eu,dA,eg⟩:=info_parts Tryz.infoPtrA;have rk:=tj.out.low;have arq:=ae hlen;have ay9:kf.length<=j:=by omega
  clear hC hO U8 nR cf hlen;go_wp2_with fail
  go_cut []from 8 to 74 (λwx=>∃D9,arl w b gt cap tb ts j base vt vv vs gs F ai dflt kf D9 wx)
  case first=>
   go_region_law (refine aD rfl _ _ 85 rfl base 164 i0 _ 1 8 Tryz.underlying85 dl eu dA eg rfl (by decide) _ kf.length (kf.map λm=>dz m.bZ) Zw.out.symm (by exact ah HO.out ⟨rfl,rfl,rfl,by simp,λk hk=>Below.heap_alloc _ _ _ hk⟩) ⟨_,0,none⟩ 1 1 [dz w.heap.size] rfl rfl (aF _ _ (by simp) [dz w.heap.size] _) H1C.out HML.out fR.out (by simp;omega) ?_;intro v' w7 bE ax bu;obtain⟨Ge,Gf,rfl,_,_⟩:=aj bE;have p7:=ax.cell (a:=⟨b,2,none⟩) (by exact(((Below.refl _ _).alloc (Nat.le_refl _) _).cell aby).trans p2) (λe=>alu (HC.out.jU.vF b ⟨2,_,rfl,e.symm⟩));obtain⟨jy,uQ,e5,e6⟩:=PT.bT (dflt:=dflt) (depth:=jS gs ai) (outer:=aZ ai) (ar:=lL gs ai) (HC.out.jU.below (by exact⟨rfl,rfl,rfl,by simp,λk hk=>Below.heap_alloc _ _ _ hk⟩)) ax bE bu (by exact(Below.heap_alloc _ _ _ hBl).trans HC.out.box) rk HC.out.ark;rw[Zw.out]at e5;have jc:=ae jy;have vo:=ae uQ;clear jy uQ bE ax bu)
   all_goals
    have qg:Below wc.heap.size wc (wc.drew.alloc (.cells [dz w.heap.size].toArray 164)):=⟨rfl,rfl,rfl,by simp,λk hk=>Below.heap_alloc _ _ _ hk⟩;have UN:=(HC.out.par.below qg).kp vo.out alu arp;have NM:=((HC.out.kept.mono (G:=F) (λ_ _ h=>h.1)).below qg).trans vo.out (λk h=>HC.out.sub k h);have uC:=jc.out.mono (G:=fresh F w) (λk h=>h.elim (λh=>h.elim (HC.out.sub k) (λh=>.inr (by have:(wc.drew.alloc (.cells [dz w.heap.size].toArray 164)).heap.size<=k:=h;simp at this;omega))) (λe=>.inr (by omega)));have HE:=ae (And.intro UN (And.intro uC NM));clear UN NM uC jc vo e5 e6 qg p7;go_wp2_with fail;go_meet
    case rel=>exact⟨_,HE.out.1,HE.out.2.1,HE.out.2.2,HC.out.a,HC.out.bZ,HC.out.kt⟩
  case rest=>
   obtain⟨vm6,h6⟩:=hcut;have yh:¬fresh F w b:=λh=>h.elim PQ (λh=>by omega)
   have tU:¬fresh F w gt:=λh=>h.elim pQ (λh=>by omega)
   have k8:w.heap.size≠b:=by omega
   have my:w.heap.size≠gt:=by omega
   obtain⟨nm,nU⟩:∃nm,nm=gQ dflt (jS gs ai) (aZ ai) w.heap.size (lL gs ai):=⟨_,rfl⟩;have H6a:=ae h6.a;have H6b:=ae h6.bZ;have hlk:=h6.kt;have ic:=h6.jU;rw[<-nU]at hlk ic;have Rc:=ae hlk;have HTB:=ae ic;have HPI:=ae h6.par;have vo:=ae h6.kept;have zh:=ae nU;clear h6 hlk ic nU p2 c2 c2f ctb ctl cF HC HO Zw HML fR H1C dl eu dA eg aby;go_wp2_with fail;refine(cY Hx.cS _ b gt cap tb ts j _ rfl HPI.out).mono ?_;rintro e w1 ⟨rfl,rD,fL⟩;have vE:=HTB.out.kept fL (λk hF e=>yh (e▸hF));have mU:=ae vE;have jW:=ae ((vo.out.mono (G:=λk=>k=b\/F k) (λ_ _ h=>.inr h)).trans fL (λ_ e=>.inl (.inl e)));have vy:Hx.aA Hx.e9 (ts[j]'h.lt)=some [Hx.cS,Hx.cB,Hx.Dz,Hx.dU]:=rfl;have rH:=ae vy;clear vE fL vy
   cases hm:aq (ts[j]'h.lt) Hx.cS with
   |false=>
    rw[hm]at rD;have HM:=ae hm;have lc:=ae rD;clear rD hm;go_wp2_with fail;go_ret;refine⟨false,j,_,_,rfl,lc.out,mU.out,jW.out,(λe=>by cases e),λ_=>?_⟩;rw[ak h.lt];exact Hx.eo.aU rH.out (Hx.jO (aN _ h.lt).out _ (.inl (by decide)) _ HM.out).cons
   |true=>
    rw[hm]at rD;have yO:fJ w1 b gt cap tb ts (j+1):=rD;have HM:=ae hm;have lc:=ae yO;clear rD yO hm;have DR:kf.length<(kf++[nm]).length:=by simp
    have uG:(kf++[nm])[kf.length]'DR=nm:=by simp
    have zF:=mU.out.mem.Nx (oU DR);rw[uG]at zF;have tX:nm.bZ=w.heap.size:=by rw[zh.out];rfl
    rw[tX]at zF;have fM:=ae zF;clear zF;have hse:∀x,(kf++[nm]).set kf.length x=kf++[x]:=λx=>by simp
    have arr:∀y x,(kf++[y]).set kf.length x=kf++[x]:=λy x=>by simp
    have ars:∀x:MG,x.key=nm.key->Hid (Links (kf++[x])):=λx hx=>ae (by have:=Rc.out;grind[Links])
    go_wp2_with fail;refine(iL w1 b gt cap tb ts (j+1) w.heap.size 0 _ _ 1 lc.out fM.out (by simp[MG.box,lz]) k8 my (by decide)).mono ?_;intro e w2 hr;obtain rfl:=hr.ret;obtain⟨ta,hta⟩:∃ta,ta=ts[j+1]'lc.out.lt:=⟨_,rfl⟩;have wS:=ae hta;rw[<-hta]at hr|-;have hGk:∀k,fresh F w k->(k=b\/k=w.heap.size)->k=((kf++[nm])[kf.length]'DR).bZ:=λk hF e=>by grind
    have iG:=ae (jW.out.trans hr.kept (λ_ e=>e.elim (λe=>.inl (.inl e)) (λe=>.inr (by omega))))
    cases n1:(ao ta.k==1)with
    |false=>
     rw[n1]at hr;have om:=mU.out.name (t:=nm.a.name) DR hr.kept hGk (by rw[uG,tX];exact hr.box);have rP:=ae om;have HR:=ae hr;have N1:=ae n1;clear hr om n1 hta;go_wp2_with fail;go_ret;refine⟨false,j+1,_,_,rfl,HR.out.par,rP.out,iG.out,(λe=>by cases e),λ_=>?_⟩;have hb:=(Hx.cE (aN _ h.lt).out _ (.inl (by decide)) (ts.drop (j+1)) HM.out).dM (by rw[ak lc.out.lt,<-wS.out];exact(Hx.sC (by rw[wS.out];exact(aN _ lc.out.lt).out) _ N1.out).cons:Hx.eo [Hx.cB,Hx.Dz,Hx.dU] (ts.drop (j+1)) ta.line);rw[wS.out]at hb;rw[ak h.lt];exact Hx.eo.aU rH.out hb
    |true=>
     rw[n1]at hr;have om:=mU.out.name DR hr.kept hGk (by rw[uG,tX];exact hr.box);rw[uG,hse]at om;have nD:fJ w2 b gt cap tb ts (j+2):=hr.par;have rP:=ae om;have fQ:=ae nD;have N1:=ae n1
     have lu:Hid (Hx.Ok [Hx.cS,Hx.cB] (ts.drop j) (ts.drop (j+2))):=ae (by
      rw[ak h.lt];refine(Hx.cE (aN _ h.lt).out _ (.inl (by decide)) _ HM.out).cons ?_
      rw[ak lc.out.lt,<-wS.out];exact Hx.pF (by rw[wS.out];exact(aN _ lc.out.lt).out) _ n1)
     clear hr om nD n1 hta;go_wp2_with fail;refine(cY Hx.Dz w2 b gt cap tb ts (j+2) _ rfl fQ.out).mono ?_;rintro e w3 ⟨rfl,pS,jq⟩;have Rf:=rP.out.kept jq (λk hF e=>yh (e▸hF));have nL:=ae Rf;have kj:=ae (iG.out.trans jq (λ_ e=>.inl (.inl e)));clear Rf jq
     cases n2:aq (ts[j+2]'fQ.out.lt) Hx.Dz with
     |false=>
      rw[n2]at pS;have nT:=ae pS;have N2:=ae n2;clear pS n2;go_wp2_with fail;go_ret;refine⟨false,j+2,_,_,rfl,nT.out,nL.out,kj.out,(λe=>by cases e),λ_=>?_⟩;have hb:=lu.out.bad (b:=[Hx.Dz,Hx.dU]) (by rw[ak fQ.out.lt];exact(Hx.jO (aN _ fQ.out.lt).out _ (.inr (by decide)) _ N2.out).cons);rw[ak h.lt]at hb|-;exact Hx.eo.aU rH.out hb
     |true=>
      rw[n2]at pS;have sY:fJ w3 b gt cap tb ts (j+3):=pS;have nT:=ae sY;have mH:Hid (Hx.Ok [Hx.cS,Hx.cB,Hx.Dz] (ts.drop j) (ts.drop (j+3))):=ae (lu.out.app (by rw[ak fQ.out.lt];exact Hx.cE (aN _ fQ.out.lt).out _ (.inr (by decide)) _ n2));have oS:=kj.out.size;have N2:=ae n2;clear pS sY n2;have hi3:kf.length<(kf++[nm.named ta]).length:=by simp
      have U9:(kf++[nm.named ta])[kf.length]'hi3=nm.named ta:=by simp
      have TR:=FE w3 b gt cap tb ts (j+3) base vt vv vm6 vs (kf++[nm.named ta]) (fresh F w) kf.length hi3 nT.out nL.out yh tU (by rw[U9,zh.out];rfl);rw[show((kf++[nm.named ta])[kf.length]'hi3).bZ=w.heap.size by rw[U9];exact tX]at TR;have HTR:=ae TR;clear TR;go_wp2_with fail;refine HTR.out.mono ?_;rintro e w4 ⟨ok,j4,rs,v4,rfl,hR⟩;have Re:=hR.jU;rw[U9,arr]at Re;have PS:=ae Re;have HR:=ae hR;have pT:=ae (kj.out.trans hR.kept (λk e=>e.elim (λe=>.inl (.inl e)) (λe=>e.elim (λe=>.inl (.inr e)) .inr)));have aei:∀k,fresh (fresh F w) w3 k->fresh F w k:=λk h=>h.elim id (λh=>.inr (Nat.le_trans oS h))
      clear hR Re
      cases ok with
      |false=>
       go_wp2_with fail;go_ret;refine⟨false,j4,_,_,rfl,HR.out.par,PS.out.mono aei,pT.out,(λe=>by cases e),λ_=>?_⟩;have hb:=mH.out.bad (HR.out.bad rfl);rw[ak h.lt]at hb|-;exact Hx.eo.aU rH.out hb
      |true=>
       have azd:=HR.out.le rfl;have hi4:kf.length<(kf++[(nm.named ta).ce rs v4]).length:=by simp
       have Va:(kf++[(nm.named ta).ce rs v4])[kf.length]'hi4=(nm.named ta).ce rs v4:=by simp
       have TM:=HIH.out w4 b gt cap tb ts j4 base vt vv vm6 vs (kf++[(nm.named ta).ce rs v4]) (fresh F w) kf.length hi4 HR.out.par (PS.out.mono aei) (ars ((nm.named ta).ce rs v4) rfl).out yh tU (by simp;omega) (by omega);rw[show((kf++[(nm.named ta).ce rs v4])[kf.length]'hi4).bZ=w.heap.size by rw[Va];exact tX]at TM;have HTM:=ae TM;clear TM;go_wp2_with fail;refine HTM.out.mono ?_;rintro e w5 ⟨ok,j5,gs5,vm5,rfl,hR5⟩;have HR5:=ae hR5;have zm:=ae (pT.out.trans hR5.kept (λk e=>e.elim (λe=>.inl (.inl e)) (λe=>e.elim (λe=>.inl (.inr e)) .inr)));have hs4:=pT.out.size;have aej:∀k,fresh (fresh F w) w4 k->fresh F w k:=λk h=>h.elim id (λh=>.inr (Nat.le_trans hs4 h))
       clear hR5
       cases ok with
       |false=>
        go_wp2_with fail;go_ret;refine⟨false,j5,_,_,rfl,HR5.out.par,HR5.out.jU.mono aej,zm.out,(λe=>by cases e),λ_=>?_⟩;have hb:=mH.out.bad (HR.out.Ki rfl _ (HR5.out.bad rfl));rw[ak h.lt]at hb|-;exact Hx.eo.aU rH.out hb
       |true=>
        go_wp2_with fail;refine(cY Hx.M3 w5 b gt cap tb ts j5 _ rfl HR5.out.par).mono ?_;rintro e w6 ⟨rfl,hp6,DU⟩;have HP6:=ae hp6;have Gb:=ae DU;clear hp6 DU;go_wp2_with fail;go_ret;obtain⟨ext,mK,azg,hl5,ho5,art,agG,aru⟩:=HR5.out.good rfl;have tA:=HR5.out.par.lt;have agH:nm.a=⟨k7,dflt,jS gs ai,aZ ai,[]⟩:=by rw[zh.out];rfl
        have hlen:=arq.out;refine⟨_,_,gs5,vm5,rfl,HP6.out,(HR5.out.jU.mono aej).kept Gb.out (λk hF e=>yh (e▸hF)),zm.out.trans Gb.out (λ_ e=>.inl (.inl e)),λe=>⟨⟨ta,dflt,jS gs ai,aZ ai,rs⟩::ext,⟨?_,?_,mK.kt⟩,?_,?_,?_,?_,?_⟩,λe=>?_⟩
        ·rw[mK.a,List.map_append,H6a.out]
         grind[MG.named,MG.ce]
        ·intro q m hm
         obtain⟨m',F4,zj⟩:=H6b.out q m hm;have hql:=(List.getElem?_eq_some_iff.1 F4).1;obtain⟨m2,Ra,aT⟩:=mK.bZ q m' (by grind)
         grind
        ·grind
        ·grind
        ·rw[e,if_pos rfl]
         have ho:=mH.out.app (HR.out.okr rfl _ (ho5 _ (by rw[ak tA];exact Hx.cE (aN _ tA).out _ (.inr (by decide)) _ e)));rw[ak h.lt]at ho|-;exact Hx.Ok.aU rH.out ho
        ·rw[e,if_pos rfl,ak h.lt,ak lc.out.lt,ak fQ.out.lt,<-wS.out]
         obtain⟨Rg,hdw⟩:=HR.out.vj rfl;have hdd:((nm.named ta).ce rs v4).a.depth=jS gs ai:=by simp[MG.named,MG.ce,agH]
         rw[Va,hdd,List.length_append,hlen,ak tA]at agG;rw[ak HR.out.par.lt]at Rg agG;exact .mode HM.out (Hx.uq (by rw[wS.out];exact(aN _ lc.out.lt).out) N1.out) N2.out Rg hdw agG e
        ·intro s hs
         rw[e,if_pos rfl,ak h.lt,ak lc.out.lt,ak fQ.out.lt,<-wS.out];refine Hx.SS.whole (Hx.nu (aN _ h.lt).out (by decide) HM.out) (Hx.abx (aN _ tA).out (by decide) e) rfl (HR.out.ss rfl) (λs' J2=>?_) (ak tA)
         grind[jS,MG.named,MG.ce]
        ·have hl:∀k (hk:k<ts.length),k=j5->Hx.eo [Hx.e9] (ts.drop j) (ts[k]).line:=by
          rintro k hk rfl;have hb:=mH.out.bad (HR.out.Ki rfl _ (art _ (by rw[ak tA];exact Hx.jO (aN _ tA).out _ (.inr (by decide)) _ e)));rw[ak h.lt]at hb|-;exact Hx.eo.aU rH.out hb
         grind
