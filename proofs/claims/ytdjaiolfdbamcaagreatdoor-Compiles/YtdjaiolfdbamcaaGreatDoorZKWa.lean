/- The walks of Answer and Cuts. -/
import Derived.Test.YtdjaiolfdbamcaaGreatDoorZWCF8
set_option maxRecDepth 20000
set_option maxHeartbeats 400000
namespace Go.Proofs.YtdjaiolfdbamcaaGreatDoor
variable {m:Nat}{vs:List az}{gs:List MG}{cs:List (List Int)}
section
open Go.RowKit
theorem DM(w:World)(o:Obj):(w.alloc o).heap.size=w.heap.size+1:=by simp
theorem sy(w:World)(o:Obj):w.heap.size<=(w.alloc o).heap.size:=by simp
theorem mB(w:World)(o p:Obj):Below w.heap.size w ((w.alloc o).alloc p):=((Below.refl _ _).alloc (Nat.le_refl _) _).alloc (sy w o) _
theorem SV{w:World}(q:Cx.Q)(hw:q.which<m):
  Hm m w (.func (.func 227) #[qV q.which q.same q.num q.bF] #[]) q.answer:=by
 obtain⟨wh,same,num,bF⟩:=q;simp only at hw;refine⟨_,_,_,rfl,enters_of Tryz.func227 (by kernel_rfl) rfl,λW s l hW hs=>?_⟩;obtain⟨hm,g,cap,rfl,hg,hc⟩:=hs;have FW:wh<l.length:=by omega
 have Z4:(wh:Int)<l.length:=by omega
 have Ku:(0:Int)<=wh:=by omega
 have x0:=hc wh FW;have zi:l.getD wh 0=l[wh]:=by simp[FW]
 clear hc;show Calls Tryz.prog _ #[qV wh same num bF,.slice (some ⟨g,0,none⟩) l.length cap] W λe w'=>e=.returned (.bool (Cx.Q.answer ⟨wh,same,num,bF⟩ l))/\Below W.heap.size W w'
 simp only [Cx.Q.answer,zi];clear zi;generalize l[wh]=n at*;unfold qV;go_enter Tryz.func227,Tryz.ntmps227
 cases same with
 |true=>
  go_wp2_with fail;go_ret;exact⟨rfl,(Below.refl _ _).alloc (Nat.le_refl _) _⟩
 |false=>
  go_wp2_with fail;go_ret;exact⟨rfl,(Below.refl _ _).alloc (Nat.le_refl _) _⟩
theorem SW(w:World)(q:Cx.Q)(hn:-100000<=q.num/\q.num<=100000):
  Calls Tryz.prog 226 #[qV q.which q.same q.num q.bF] w λe w'=>∃g,e=.returned (.slice (some ⟨g,0,none⟩) q.jh.length q.jh.length)/\w'.ownsRow w.heap.size 3 1 (.slice (some ⟨g,0,none⟩) q.jh.length q.jh.length) q.jh.length (q.jh.map (.int .i64))/\Below w.heap.size w w':=by
 obtain⟨wh,same,num,bF⟩:=q;obtain⟨Ex,QT⟩:=hn;simp only at Ex QT;simp only [Cx.Q.jh];unfold qV;go_enter Tryz.func226,Tryz.ntmps226
 cases same with
 |true=>
  go_wp2_with fail;go_ret;refine⟨w.heap.size+1,rfl,?_,mB w _ _⟩;have h:=World.ownsRow_lit (size:=1) (e:=3) (w.alloc (.cells #[.int .i64 wh,.bool true,.int .i64 num,.bool bF] 314)) #[.int .i64 num,.int .i64 (num+1)] 2 (sy w _) (by decide) rfl
  simp_all
 |false=>
  go_wp2_with fail;go_ret;refine⟨w.heap.size+1,rfl,?_,mB w _ _⟩;have h:=World.ownsRow_lit (size:=1) (e:=3) (w.alloc (.cells #[.int .i64 wh,.bool false,.int .i64 num,.bool bF] 314)) #[.int .i64 num] 1 (sy w _) (by decide) rfl
  simp_all
end
section
namespace Cx
open Hx
def eval(vs:List az):G->List Int->Bool
 | .or l r=>λxs=>eval vs l xs||eval vs r xs
 | .and l r=>λxs=>eval vs l xs&&eval vs r xs
 | .not g=>λxs=>!eval vs g xs
 | .group _ g=>eval vs g
 | .gZ=>λ_=>true
 | .atom w nm op num _=>(nQ vs w.isSome nm op num).answer
def atoms(vs:List az):G->List Q
 | .or l r=>atoms vs l++atoms vs r
 | .and l r=>atoms vs l++atoms vs r
 | .not g=>atoms vs g
 | .group _ g=>atoms vs g
 | .gZ=>[]
 | .atom w nm op num _=>[nQ vs w.isSome nm op num]
def bh(ms:List MA):List bD:=ms.flatMap (·.rows)
def guards(vs:List az)(ms:List MA):List (List Int->Bool):=(bh ms).map λr=>eval vs r.g
def fH(qs:List Q)(i:Nat):List Int:=(qs.filter λq=>q.which==i).flatMap Q.jh
def bS(vs:List az)(ms:List MA):List Q:=(bh ms).flatMap λr=>atoms vs r.g
def fj(vs:List az)(i:Nat):Int:=match vs[i]? with|some v=>v.first.n|none=>0
def fT(vs:List az)(i:Nat):Int:=match vs[i]? with|some v=>v.last.n|none=>0
def choice(vs:List az)(qs:List Q)(i:Nat):List Int:=bz (fj vs (i%vs.length)) (fT vs (i%vs.length)) (fH qs i)
def bU(vs:List az)(ms:List MA):List (List Int):=(List.range (2*vs.length)).map (choice vs (bS vs ms))
def longer(ls:List (List Int))(c:List Int):List (List Int):=ls.flatMap λl=>c.map λn=>l++[n]
def combine(cs:List (List Int)):List (List Int):=cs.foldl longer [[]]
def fk(vs:List az)(ms:List MA):List (List Int×Int):=(combine (bU vs ms)).map λl=>(l,dy (guards vs ms) l (guards vs ms).length)
def cD(ms:List MA):List ByteArray:=ms.flatMap λm=>m.rows.map λ_=>m.name.s
def uk:Nat->Int
 |0=>1
 |k+1=>uk k*2%4294967296
def nI(ns:List ByteArray):Nat->ByteArray->Int
 |0,_=>0
 |k+1,x=>if ns[k]?=some x then bits .or .u32 (nI ns k x) (uk k)else nI ns k x
def setOf(ms:List MA)(x:ByteArray):Int:=nI (cD ms) (cD ms).length x
def placeOf(ms:List MA)(i:Nat):ByteArray×List Int:=(nameOf ms i,(path ms i).map λj=>setOf ms (nameOf ms j))
def places(ms:List MA):List (ByteArray×List Int):=(leaves ms).map (placeOf ms)
def eL(code:Int)(p:ByteArray×List Int)(s:List Int×Int):Option (ByteArray×List Int):=if eA p.2 s.2=code then some (p.1,s.1)else none
def dL(code:Int)(ps:List (ByteArray×List Int))(ss:List (List Int×Int)):Option (ByteArray×List Int):=ps.findSome? λp=>ss.findSome? λs=>eL code p s
def find(vs:List az)(ms:List MA):Option (Int×ByteArray×List Int):=
 match dL 6 (places ms) (fk vs ms)with
 |some x=>some (6,x)
 |none=>(dL 7 (places ms) (fk vs ms)).map λx=>(7,x)
theorem fG(cs:List (List Int))(c:List Int):combine (cs++[c])=longer (combine cs) c:=by simp[combine]
theorem K8{ls:List (List Int)}{c:List Int}(h:∀l∈ls,l.length=m):∀l∈longer ls c,l.length=m+1:=by
 intro l hl;simp only [longer,List.mem_flatMap,List.mem_map]at hl
 grind
theorem gK(ls:List (List Int))(c:List Int):(longer ls c).length=ls.length*c.length:=by
 induction ls with
 |nil=>simp[longer]
 |cons a t ih=>grind[Nat.succ_mul,longer,List.length_append,List.length_map,List.length_cons]
theorem kB(cs:List (List Int)):∀i,i<=cs.length->∀l∈combine (cs.take i),l.length=i:=by
 intro i
 induction i with
 |zero=>grind[combine]
 |succ k ih=>
  intro hk l hl;rw[List.take_add_one,List.getElem?_eq_getElem (by omega)]at hl;simp only [Option.toList]at hl;rw[fG]at hl;exact K8 (ih (by omega)) l hl
theorem qy{α β:Type}(f:α->Option β)(l:List α)(k:Nat)(h:k<l.length)(hf:f l[k]=none):(l.drop k).findSome? f=(l.drop (k+1)).findSome? f:=by
 rw[List.drop_eq_getElem_cons h,List.findSome?_cons,hf]
theorem uX{α β:Type}(f:α->Option β)(l:List α)(k:Nat)(h:k<l.length){x:β}(hf:f l[k]=some x):(l.drop k).findSome? f=some x:=by
 rw[List.drop_eq_getElem_cons h,List.findSome?_cons,hf]
end Cx
theorem cU{s:CS}{b:Bool}{c l:Int}(hc:c≠0)(h:(s.ref b c l).cl.1=0):s.cl.1=0/\b=false:=by
 unfold CS.ref gJ at h
 grind
def CS.has(s:CS)(k:AK):Prop:=s.atoms.any (λa=>a.same k)=true
theorem AK.OL(k:AK):k.same k=true:=by simp[AK.same]
theorem Z5(s:CS)(k:AK):(s.addAtom k).has k:=by
 grind[AK.OL,CS.addAtom,CS.has]
theorem OM{s:CS}{k k':AK}(h:s.has k'):(s.addAtom k).has k':=by
 unfold CS.has at*;unfold CS.addAtom
 grind
theorem SX(s:CS)(k:AK):(s.addAtom k).rows=s.rows:=by grind[CS.addAtom]
theorem afi(s:CS)(k:AK):(s.addAtom k).cl=s.cl:=by grind[CS.addAtom]
def dZ(vs:List az)(s:CS):Hx.G->Prop
 | .or l r=>dZ vs s l/\dZ vs s r
 | .and l r=>dZ vs s l/\dZ vs s r
 | .not g=>dZ vs s g
 | .group _ g=>dZ vs s g
 | .gZ=>True
 | .atom w n o i _=>vs.any (bK n.s)=true/\iA i.n=false/\s.has (dm w n o i)
theorem dZ.mono{s s':CS}(h:∀k,s.has k->s'.has k):∀{g:Hx.G},dZ vs s g->dZ vs s' g
 | .or _ _,hg=>⟨dZ.mono h hg.1,dZ.mono h hg.2⟩
 | .and _ _,hg=>⟨dZ.mono h hg.1,dZ.mono h hg.2⟩
 | .not g,hg=>dZ.mono (g:=g) h hg
 | .group _ g,hg=>dZ.mono (g:=g) h hg
 | .gZ,_=>trivial
 | .atom _ _ _ _ _,hg=>⟨hg.1,hg.2.1,h _ hg.2.2⟩
theorem dZ.ok{s:CS}:∀{g:Hx.G},dZ vs s g->Ke vs g
 | .or _ _,hg=>⟨dZ.ok hg.1,dZ.ok hg.2⟩
 | .and _ _,hg=>⟨dZ.ok hg.1,dZ.ok hg.2⟩
 | .not g,hg=>dZ.ok (g:=g) hg
 | .group _ g,hg=>dZ.ok (g:=g) hg
 | .gZ,_=>trivial
 | .atom _ _ _ _ _,hg=>hg.1
structure uY(s s':CS):Prop where
 clean:s'.cl.1=0->s.cl.1=0
 keeps:∀k,s.has k->s'.has k
 oM:s'.cl.1=0->s.atoms.length<=8->s'.atoms.length<=8
theorem uY.refl(s:CS):uY s s:=⟨id,λ_=>id,λ_=>id⟩
theorem uY.trans{a b c:CS}(h:uY a b)(k:uY b c):uY a c:=⟨λe=>h.clean (k.clean e),λq e=>k.keeps q (h.keeps q e),λe f=>k.oM e (h.oM (k.clean e) f)⟩
theorem jH(s:CS)(b:Bool)(c l:Int)(hc:c≠0):uY s (s.ref b c l):=⟨λe=>(cU hc e).1,λ_ h=>h,λ_ h=>h⟩
theorem K9(vs:List az)(s:CS)(k:AK)(nl:Int)(num:Hx.Tok):uY s (dJ vs s k nl num)/\(dJ vs s k nl num).has k/\((dJ vs s k nl num).cl.1=0->vs.any (bK k.name)=true/\iA num.n=false):=by
 unfold dJ;simp only;refine⟨⟨λe=>?_,λq h=>OM h,λe _=>?_⟩,Z5 s k,λe=>?_⟩
 ·grind[afi,cU]
 ·have:=(cU (by decide) (cU (by decide) (cU (by decide) e).1).1).2
  show(s.addAtom k).atoms.length<=8
  grind
 ·have h1:=cU (by decide) e
  have h2:=cU (by decide) h1.1
  grind
theorem wL(vs:List az)(g:Hx.G):∀(d:Nat)(s:CS),uY s (m6 vs g d s)/\(m6 vs g d s).rows=s.rows/\((m6 vs g d s).cl.1=0->dZ vs (m6 vs g d s) g):=by
 induction g with
 |or l r qi qj=>
  intro d s;obtain⟨a1,a2,a3⟩:=qi d s;obtain⟨b1,b2,b3⟩:=qj d (m6 vs l d s);exact⟨a1.trans b1,b2.trans a2,λe=>⟨(a3 (b1.clean e)).mono b1.keeps,b3 e⟩⟩
 |and l r qi qj=>
  intro d s;obtain⟨a1,a2,a3⟩:=qi d s;obtain⟨b1,b2,b3⟩:=qj d (m6 vs l d s);exact⟨a1.trans b1,b2.trans a2,λe=>⟨(a3 (b1.clean e)).mono b1.keeps,b3 e⟩⟩
 |not g ih=>intro d s;exact ih d s
 |group t g ih=>
  intro d s;obtain⟨a1,a2,a3⟩:=ih (d+1) (s.ref (decide (6<=d)) 1 t.line);exact⟨(jH s _ 1 _ (by decide)).trans a1,a2,a3⟩
 |gZ=>intro d s;exact⟨uY.refl s,rfl,λ_=>trivial⟩
 |atom w n o i ok=>
  intro d s;obtain⟨a1,a2,a3⟩:=K9 vs s (dm w n o i) n.line i;exact⟨a1,by show((s.addAtom _)).rows=s.rows;exact SX _ _,λe=>⟨(a3 e).1,(a3 e).2,a2⟩⟩
theorem OO(vs:List az)(s:CS)(r:Hx.bD):uY s (eJ vs s r)/\(eJ vs s r).rows=s.rows+1/\((eJ vs s r).cl.1=0->s.rows+1<=24/\dZ vs (eJ vs s r) r.g):=by
 unfold eJ;obtain⟨a1,a2,a3⟩:=wL vs r.g 0 ({s with rows:=s.rows+1}.ref (decide (24<s.rows+1)) 1 r.wh.line);have h0:uY s ({s with rows:=s.rows+1}.ref (decide (24<s.rows+1)) 1 r.wh.line):=⟨λe=>(cU (by decide) e).1,λ_ h=>h,λ_ h=>h⟩;refine⟨h0.trans a1,a2,λe=>⟨?_,a3 e⟩⟩;have:=(cU (by decide) (a1.clean e)).2
 grind
theorem xV(vs:List az)(rs:List Hx.bD):∀s,uY s (rs.foldl (eJ vs) s)/\(rs.foldl (eJ vs) s).rows=s.rows+rs.length/\((rs.foldl (eJ vs) s).cl.1=0->(0<rs.length->s.rows+rs.length<=24)/\∀r∈rs,dZ vs (rs.foldl (eJ vs) s) r.g):=by
 induction rs with
 |nil=>intro s;exact⟨uY.refl s,rfl,λ_=>⟨λh=>by simp at h,λr hr=>by simp at hr⟩⟩
 |cons r t ih=>
  intro s;obtain⟨a1,a2,a3⟩:=OO vs s r;obtain⟨b1,b2,b3⟩:=ih (eJ vs s r);simp only [List.foldl_cons,List.length_cons];refine⟨a1.trans b1,by rw[b2,a2];omega,λe=>?_⟩;have c1:=a3 (b1.clean e);have c2:=b3 e;refine⟨λ_=>?_,λq hq=>?_⟩
  ·by_cases ht:0<t.length
   ·have:=c2.1 ht;rw[a2]at this;omega
   ·have:=c1.1;omega
  ·rcases List.mem_cons.1 hq with rfl|hq
   ·exact c1.2.mono b1.keeps
   ·exact c2.2 q hq
theorem La(vs:List az)(gs:List MG)(i:Nat)(m:MG)(s:CS):uY s (dK vs gs i m s)/\(dK vs gs i m s).rows=s.rows+m.a.rows.length/\((dK vs gs i m s).cl.1=0->i<12/\(gs.take i).any (dV m.a.name.s)=false/\(0<m.a.rows.length->s.rows+m.a.rows.length<=24)/\∀r∈m.a.rows,dZ vs (dK vs gs i m s) r.g):=by
 unfold dK;obtain⟨a1,a2,a3⟩:=xV vs m.a.rows ((s.ref (decide (12<=i)||decide (6<=m.a.depth)) 1 m.a.name.line).ref ((gs.take i).any (dV m.a.name.s)) 3 m.a.name.line);refine⟨((jH s _ 1 _ (by decide)).trans (jH _ _ 3 _ (by decide))).trans a1,a2,λe=>?_⟩;have h1:=cU (by decide) (a1.clean e);have h2:=cU (by decide) h1.1;refine⟨?_,h1.2,(a3 e).1,(a3 e).2⟩
 grind
theorem oQ(vs:List az)(gs:List MG)(l:List MG):∀(i:Nat)(s:CS),uY s (cK vs gs i l s)/\((cK vs gs i l s).cl.1=0->s.rows<=24->(s.rows+(l.flatMap (·.a.rows)).length<=24)/\∀j (hj:j<l.length),i+j<12/\(gs.take (i+j)).any (dV l[j].a.name.s)=false/\∀r∈l[j].a.rows,dZ vs (cK vs gs i l s) r.g):=by
 induction l with
 |nil=>intro i s;exact⟨uY.refl s,λ_ h=>⟨by grind,λj hj=>by simp at hj⟩⟩
 |cons m t ih=>
  intro i s;obtain⟨a1,a2,a3⟩:=La vs gs i m s;obtain⟨b1,b3⟩:=ih (i+1) (dK vs gs i m s);simp only [cK];refine⟨a1.trans b1,λe hs=>?_⟩;obtain⟨c1,c2,c3,c4⟩:=a3 (b1.clean e);have hr:(dK vs gs i m s).rows<=24:=by
   rw[a2]
   by_cases h0:0<m.a.rows.length
   ·omega
   ·omega
  obtain⟨d1,d2⟩:=b3 e hr;refine⟨by grind,λj hj=>?_⟩
  cases j with
  |zero=>exact⟨c1,c2,λr hr=>(c4 r hr).mono b1.keeps⟩
  |succ j=>
   grind
theorem xW(vs:List az)(l:List az):∀(i:Nat)(s:CS),uY s (de vs i l s)/\(de vs i l s).rows=s.rows/\(de vs i l s).atoms=s.atoms/\((de vs i l s).cl.1=0->∀j (hj:j<l.length),i+j<3/\(vs.take (i+j)).any (bK l[j].name.s)=false/\iA l[j].first.n=false/\iA l[j].last.n=false/\l[j].first.n<=l[j].last.n):=by
 induction l with
 |nil=>intro i s;exact⟨uY.refl s,rfl,rfl,λ_ j hj=>by simp at hj⟩
 |cons v t ih=>
  intro i s;obtain⟨b1,b2,b3,b4⟩:=ih (i+1) (oL vs i v s);have a1:uY s (oL vs i v s):=((((jH s _ 1 _ (by decide)).trans (jH _ _ 3 _ (by decide))).trans (jH _ _ 4 _ (by decide))).trans (jH _ _ 4 _ (by decide))).trans (jH _ _ 4 _ (by decide));simp only [de];refine⟨a1.trans b1,b2.trans rfl,b3.trans rfl,λe j hj=>?_⟩
  cases j with
  |zero=>
   have e1:=b1.clean e;unfold oL at e1;have h1:=cU (by decide) e1;have h2:=cU (by decide) h1.1;have h3:=cU (by decide) h2.1;have h4:=cU (by decide) h3.1;have h5:=cU (by decide) h4.1
   grind
  |succ j=>
   grind
theorem Hn(gs:List MG)(rs:List Hx.bD):∀s,uY s (rs.foldl (λs r=>s.ref (cg gs r) 3 (da r)) s)/\(rs.foldl (λs r=>s.ref (cg gs r) 3 (da r)) s).atoms=s.atoms/\((rs.foldl (λs r=>s.ref (cg gs r) 3 (da r)) s).cl.1=0->∀r∈rs,cg gs r=false):=by
 induction rs with
 |nil=>intro s;exact⟨uY.refl s,rfl,λ_ r hr=>by simp at hr⟩
 |cons r t ih=>
  intro s;obtain⟨b1,b2,b3⟩:=ih (s.ref (cg gs r) 3 (da r));simp only [List.foldl_cons];refine⟨(jH s _ 3 _ (by decide)).trans b1,b2,λe q hq=>?_⟩;rcases List.mem_cons.1 hq with rfl|hq
  ·exact(cU (by decide) (b1.clean e)).2
  ·exact b3 e q hq
theorem lX(gs:List MG)(l:List MG):∀s,uY s (dT gs l s)/\(dT gs l s).atoms=s.atoms/\((dT gs l s).cl.1=0->∀m∈l,∀r∈m.a.rows,cg gs r=false):=by
 induction l with
 |nil=>intro s;exact⟨uY.refl s,rfl,λ_ m hm=>by simp at hm⟩
 |cons m t ih=>
  intro s;obtain⟨a1,a2,a3⟩:=Hn gs m.a.rows s;obtain⟨b1,b2,b3⟩:=ih (m.a.rows.foldl (λs r=>s.ref (cg gs r) 3 (da r)) s);refine⟨a1.trans b1,b2.trans a2,λe q hq=>?_⟩;rcases List.mem_cons.1 hq with rfl|hq
  ·exact a3 (b1.clean e)
  ·exact b3 e q hq
theorem ri(gs:List MG)(l:List MG):∀(i:Nat)(s:CS),uY s (iX gs i l s)/\(iX gs i l s).atoms=s.atoms/\((iX gs i l s).cl.1=0->∀j,j<l.length->0<(inner gs (i+j)).length->nF gs (i+j)=1):=by
 induction l with
 |nil=>intro i s;exact⟨uY.refl s,rfl,λ_ j hj=>by simp at hj⟩
 |cons m t ih=>
  intro i s;obtain⟨b1,b2,b3⟩:=ih (i+1) (s.ref (decide (0<(inner gs i).length)&&(decide (nF gs i≠1))) 5 m.a.name.line);simp only [iX];refine⟨(jH s _ 5 _ (by decide)).trans b1,b2,λe j hj h0=>?_⟩
  cases j with
  |zero=>
   have:=(cU (by decide) (b1.clean e)).2
   grind
  |succ j=>
   grind
structure un(vs:List az)(gs:List MG):Prop where
 vars:vs.length<=3
 af:gs.length<=12
 rows:(gs.flatMap (·.a.rows)).length<=24
 var:∀j (hj:j<vs.length),(vs.take j).any (bK vs[j].name.s)=false/\iA vs[j].first.n=false/\iA vs[j].last.n=false/\vs[j].first.n<=vs[j].last.n
 mode:∀j (hj:j<gs.length),(gs.take j).any (dV gs[j].a.name.s)=false
 row:∃s:CS,s.atoms.length<=8/\∀m∈gs,∀r∈m.a.rows,dZ vs s r.g/\cg gs r=false
 tree:∀j,j<gs.length->0<(inner gs j).length->nF gs j=1
theorem OP(h:(jl vs gs).cl.1=0):(cK vs gs 0 gs (de vs 0 vs ⟨0,[],(0,0)⟩)).atoms.length<=8/\∀m∈gs,∀r∈m.a.rows,dZ vs (cK vs gs 0 gs (de vs 0 vs ⟨0,[],(0,0)⟩)) r.g:=by
 unfold jl at h;obtain⟨v1,v2,v3,v4⟩:=xW vs vs 0 ⟨0,[],(0,0)⟩;have e2:=(lX gs gs _).1.clean ((ri gs gs 0 _).1.clean h);obtain⟨m1,m2⟩:=oQ vs gs gs 0 (de vs 0 vs ⟨0,[],(0,0)⟩);refine⟨m1.oM e2 (by grind),λm hm r hr=>?_⟩;obtain⟨j,hj,rfl⟩:=List.getElem_of_mem hm
 grind
theorem Z6(h:(jl vs gs).cl.1=0):un vs gs:=by
 unfold jl at h;obtain⟨v1,v2,v3,v4⟩:=xW vs vs 0 ⟨0,[],(0,0)⟩;obtain⟨m1,m2⟩:=oQ vs gs gs 0 (de vs 0 vs ⟨0,[],(0,0)⟩);obtain⟨t1,t2,t3⟩:=lX gs gs (cK vs gs 0 gs (de vs 0 vs ⟨0,[],(0,0)⟩));obtain⟨r1,r2,r3⟩:=ri gs gs 0 (dT gs gs (cK vs gs 0 gs (de vs 0 vs ⟨0,[],(0,0)⟩)));have e1:=r1.clean h;have e2:=t1.clean e1;have e3:=m1.clean e2;obtain⟨f1,f2⟩:=m2 e2 (by grind);have g1:=v4 e3;refine⟨?_,?_,?_,?_,?_,⟨_,m1.oM e2 (by grind),?_⟩,?_⟩
 ·grind
 ·grind
 ·omega
 ·grind
 ·grind
 ·intro m hm r hr
  obtain⟨j,hj,rfl⟩:=List.getElem_of_mem hm
  grind
 grind
theorem Ho{i k:Nat}(hk:k<gs.length):k∈Cx.bp (gs.map (·.a)) i↔gs[k].a.outer=(i:Int):=by
 unfold Cx.bp;rw[List.mem_map];constructor
 ·rintro⟨⟨m,j⟩,hp,e⟩
  obtain⟨h1,h2⟩:=List.mem_filter.1 hp;have hz:=List.mem_zipIdx h1;simp at hz h2 e;subst e;rw[<-hz.2];exact h2
 ·intro h
  refine⟨((gs.map (·.a))[k]'(by rw[List.length_map];exact hk),k),List.mem_filter.2 ⟨?_,by simpa using h⟩,rfl⟩;exact List.mk_mem_zipIdx_iff_getElem?.2 (List.getElem?_eq_getElem (by rw[List.length_map];exact hk))
theorem Z7(hF:un vs gs):ju (gs.map (·.a)):=by
 intro i hi hl;rw[List.length_map]at hi;have hne:Cx.bp (gs.map (·.a)) i≠[]:=by
  intro e;unfold Cx.eW at hl;rw[e]at hl
  cases hl
 obtain⟨k,hk⟩:=List.exists_mem_of_ne_nil _ hne;have Ng:k<gs.length:=by
  unfold Cx.bp at hk;obtain⟨⟨m,j⟩,hp,e⟩:=List.mem_map.1 hk;have hz:=List.mem_zipIdx (List.mem_filter.1 hp).1;simp at hz e;omega
 have tQ:gs[k]∈inner gs i:=List.mem_filter.2 ⟨List.getElem_mem Ng,by grind[Ho]⟩;have hd:=hF.tree i hi (List.length_pos_of_mem tQ);unfold nF at hd;have kM:0<((inner gs i).filter λg=>g.a.dflt).length:=by omega
 obtain⟨g,hg⟩:=List.exists_mem_of_length_pos kM;obtain⟨h1,h2⟩:=List.mem_filter.1 hg;obtain⟨h3,h4⟩:=List.mem_filter.1 h1;obtain⟨j,hj,e⟩:=List.getElem_of_mem h3;refine⟨j,(Ho hj).2 (by grind),?_⟩
 grind[List.getElem?_eq_getElem,Cx.j7]
theorem SL(hL:Links gs)(hF:un vs gs)(h0:0<gs.length):sg vs gs:=⟨hL,hF.vars,hF.af,h0,Z7 hF⟩
theorem adq(hF:un vs gs):SY vs gs:=by
 obtain⟨s,_,kA⟩:=hF.row;intro m hm;refine⟨?_,λr hr=>⟨(kA m hm r hr).1.ok,λa ha=>?_⟩⟩
 ·obtain⟨a,b,e⟩:=List.append_of_mem hm
  have h:=hF.rows
  grind
 grind[cg]
namespace Cx
theorem Lb(d:Array Int)(hs:∀i j,i<=j->j<d.size->d[i]!<=d[j]!):∀m,m<=d.size->(Lib.compactUpTo d m).Pairwise (· <·)/\(∀x∈Lib.compactUpTo d m,∃j,j<m/\d[j]! =x)/\∀j,j<m->d[j]!∈Lib.compactUpTo d m:=by
 intro m
 induction m with
 |zero=>simp_all[Lib.compactUpTo]
 |succ m ih=>
  intro hm;obtain⟨h1,h2,h3⟩:=ih (by omega);rw[Lib.compactUpTo_succ]
  by_cases hk:Lib.keeps d m=true
  ·rw[if_pos hk]
   refine⟨List.pairwise_append.2 ⟨h1,by simp,λx hx y hy=>?_⟩,λx hx=>?_,λj hj=>?_⟩
   ·simp at hy
    subst hy;obtain⟨j,hj,rfl⟩:=h2 x hx;have hm0:0<m:=by omega
    have hne:d[m]!≠d[m-1]!:=by
     unfold Lib.keeps at hk;simp at hk;rcases hk with h|h
     ·omega
     ·omega
    have a1:=hs j (m-1) (by omega) (by omega);have a2:=hs (m-1) m (by omega) (by omega);omega
   all_goals grind
  ·rw[if_neg hk,List.append_nil]
   have hm0:0<m:=by
    rcases Nat.eq_zero_or_pos m with rfl|h
    ·grind[absurd,Lib.keeps_lt_one]
    ·exact h
   grind[absurd,Lib.keeps_pos]
theorem Lc{zs:List Int}(hs:zs.Pairwise (λa b=>decide (a<=b)=true)):(Lib.compact zs).Pairwise (· <·)/\∀x,x∈Lib.compact zs↔x∈zs:=by
 have hd:∀i j,i<=j->j<zs.toArray.size->zs.toArray[i]!<=zs.toArray[j]!:=by
  intro i j Kd hj;have hj':=by simpa using hj
  have qe:i<zs.length:=by omega
  rw[getElem!_pos zs.toArray i (by omega),getElem!_pos zs.toArray j (by omega)];simp only [List.getElem_toArray]
  by_cases e:i=j
  ·grind
  ·grind[List.pairwise_iff_getElem]
 obtain⟨h1,h2,h3⟩:=Lb zs.toArray hd zs.length (by simp);refine⟨h1,λx=>⟨λhx=>?_,λhx=>?_⟩⟩
 ·obtain⟨j,hj,rfl⟩:=h2 x hx
  grind
 ·obtain⟨j,hj,rfl⟩:=List.getElem_of_mem hx
  have:=h3 j hj;rw[getElem!_pos zs.toArray j (by omega)]at this;show zs[j]∈Lib.compactUpTo zs.toArray zs.length
  grind
theorem OQ(l:List Int):(l.mergeSort λx y=>decide (x<=y)).Pairwise (λa b=>decide (a<=b)=true):=
 List.pairwise_mergeSort (λa b c h1 h2=>by grind) (λa b=>by grind) l
theorem kR(a b:Int)(cs:List Int):(bz a b cs).Pairwise (· <·)/\∀x,x∈bz a b cs↔x=a\/(x∈cs/\a<x/\x<=b):=by
 obtain⟨h1,h2⟩:=Lc (OQ (a::jw a b cs));refine⟨h1,λx=>(h2 x).trans ?_⟩
 grind[jw,List.mem_mergeSort]
theorem OR(a b:Int)(cs:List Int):0<(bz a b cs).length:=List.length_pos_of_mem ((kR a b cs).2 a|>.2 (.inl rfl))
theorem least_le{a b:Int}{cs L:List Int}(h:∀x∈cs,x∈L):(bz a b cs).length<=L.length+1:=by
 obtain⟨h1,h2⟩:=kR a b cs;have hn:(bz a b cs).Nodup:=h1.imp (λh=>by omega)
 have:=hn.length_le_of_subset (l₂:=a::L) (λx hx=>by
  grind)
 omega
def qK(vs:List az)(k:AK):Q:=
 ⟨dY vs k.name+(if k.was then 0 else vs.length),fx k.op [61,61]||fx k.op [33,61],(if fx k.op [60,61]||fx k.op [62]then k.num+1 else k.num),fx k.op [33,61]||fx k.op [62,61]||fx k.op [62]⟩
theorem ajK(vs:List az)(w:Option Hx.Tok)(n o i:Hx.Tok):nQ vs w.isSome n o i=qK vs (dm w n o i):=rfl
theorem Z8{a k:AK}(h:a.same k=true):qK vs a=qK vs k:=by
 unfold AK.same at h;simp only [Bool.and_eq_true,beq_iff_eq]at h;obtain⟨⟨⟨h1,h2⟩,h3⟩,h4⟩:=h;have e1:dY vs a.name=dY vs k.name:=by
  unfold dY;congr 1;funext v;simp[bK,h2]
 grind[qK,fx]
theorem kS{s:CS}:∀{g:Hx.G},dZ vs s g->∀q∈atoms vs g,q∈s.atoms.map (qK vs)
 | .or l r,hg,q,hq=>by
  rcases List.mem_append.1 hq with h|h
  ·exact kS hg.1 q h
  ·exact kS hg.2 q h
 | .and l r,hg,q,hq=>by
  rcases List.mem_append.1 hq with h|h
  ·exact kS hg.1 q h
  ·exact kS hg.2 q h
 | .not g,hg,q,hq=>kS (g:=g) hg q hq
 | .group _ g,hg,q,hq=>kS (g:=g) hg q hq
 | .gZ,_,q,hq=>by simp[atoms]at hq
 | .atom w n o i ok,hg,q,hq=>by
  have he:=by simpa[atoms]using hq
  obtain⟨a,ha,hs⟩:=List.any_eq_true.1 hg.2.2;rw[he,ajK,<-Z8 hs]
  grind
theorem afj{s:CS}(h:∀m∈gs,∀r∈m.a.rows,dZ vs s r.g):∀q∈bS vs (gs.map (·.a)),q∈s.atoms.map (qK vs):=by
 intro q hq;unfold bS bh at hq;rw[List.mem_flatMap]at hq;obtain⟨r,hr,hq⟩:=hq;rw[List.mem_flatMap]at hr;obtain⟨a,ha,hr⟩:=hr;obtain⟨m,hm,rfl⟩:=List.mem_map.1 ha
 grind[kS]
theorem OS{qs L:List Q}(h:∀q∈qs,q∈L)(hL:L.length<=8)(i:Nat):(choice vs qs i).length<=17:=by
 have h1:∀x∈fH qs i,x∈L.flatMap Q.jh:=by
  intro x hx;unfold fH at hx;rw[List.mem_flatMap]at hx|-;obtain⟨q,hq,hx⟩:=hx;exact⟨q,h q (List.mem_filter.1 hq).1,hx⟩
 have h2:(L.flatMap Q.jh).length<=2*L.length:=by
  clear h h1 hL
  induction L with
  |nil=>simp
  |cons q t ih=>
   grind[List.length_append,List.length_cons,Q.jh]
 have h3:=least_le (a:=fj vs (i%vs.length)) (b:=fT vs (i%vs.length)) h1
 grind[choice]
theorem xX(h:∀c∈cs,c.length<=17):∀i,(combine (cs.take i)).length<=17^(min i cs.length):=by
 intro i
 induction i with
 |zero=>simp[combine]
 |succ i ih=>
  by_cases hi:i<cs.length
  ·rw[List.take_add_one,List.getElem?_eq_getElem hi]
   simp only [Option.toList];rw[fG,gK,show min (i+1) cs.length=min i cs.length+1 by omega,Nat.pow_succ]
   simp_all[Nat.mul_le_mul,List.getElem_mem]
  grind[List.take_of_length_le,min]
theorem Hp(h:∀c∈cs,0<c.length):0<(combine cs).length:=by
 have key:∀i,0<(combine (cs.take i)).length:=by
  intro i
  induction i with
  |zero=>simp[combine]
  |succ i ih=>
   grind[List.take_of_length_le,List.take_add_one,List.getElem?_eq_getElem,Option.toList,fG,gK,Nat.mul_pos,List.getElem_mem]
 have:=key cs.length
 grind
end Cx
end
section
open Hx
namespace Cx
theorem Nh(a b:Nat)(ha:a<4294967296)(hb:b<4294967296):bits .or .u32 (a:Int) (b:Int)=((a|||b:Nat):Int):=by
 have e1:(BitVec.ofInt 32 (a)).toNat=a:=by rw[BitVec.ofInt_natCast,BitVec.toNat_ofNat];exact Nat.mod_eq_of_lt (by omega)
 have e2:(BitVec.ofInt 32 (b)).toNat=b:=by rw[BitVec.ofInt_natCast,BitVec.toNat_ofNat];exact Nat.mod_eq_of_lt (by omega)
 have e3:a|||b<4294967296:=Nat.or_lt_two_pow (n:=32) ha hb;show IntKind.u32.wrap ((BitVec.ofInt 32 (a:Int)|||BitVec.ofInt 32 (b:Int)).toNat:Int)=_
 grind[BitVec.toNat_or,IntKind.wrap_u32]
theorem SZ(a b:Nat)(ha:a<4294967296)(hb:b<4294967296):bits .and .u32 (a:Int) (b:Int)=((a&&&b:Nat):Int):=by
 have e1:(BitVec.ofInt 32 (a)).toNat=a:=by rw[BitVec.ofInt_natCast,BitVec.toNat_ofNat];exact Nat.mod_eq_of_lt (by omega)
 have e2:(BitVec.ofInt 32 (b)).toNat=b:=by rw[BitVec.ofInt_natCast,BitVec.toNat_ofNat];exact Nat.mod_eq_of_lt (by omega)
 have e3:a&&&b<4294967296:=Nat.and_lt_two_pow (n:=32) a hb;show IntKind.u32.wrap ((BitVec.ofInt 32 (a:Int)&&&BitVec.ofInt 32 (b:Int)).toNat:Int)=_
 grind[BitVec.toNat_and,IntKind.wrap_u32]
def dN(p:Nat->Bool):Nat->Nat
 |0=>0
 |n+1=>if p n then dN p n|||2^n else dN p n
theorem rj(p:Nat->Bool)(k:Nat):∀n,(dN p n).testBit k=(decide (k<n)&&p k)
 |0=>by simp[dN]
 |n+1=>by
  unfold dN;have ih:=rj p k n
  grind
theorem mC(p:Nat->Bool):∀n,n<=32->dN p n<4294967296
 |0,_=>by simp[dN]
 |n+1,h=>by
  unfold dN;have h1:(2)^n<2^32:=Nat.pow_lt_pow_right (by omega) (by omega);split
  ·exact Nat.or_lt_two_pow (n:=32) (mC p n (by omega)) h1
  ·exact mC p n (by omega)
theorem ajL(n:Nat)(h:n<32):(2:Int)^min n 32%4294967296=((2^n:Nat):Int):=by
 have h1:(2)^n<2^32:=Nat.pow_lt_pow_right (by omega) (by omega)
 grind
theorem uZ(ps:List (List Int->Bool))(l:List Int):∀n,n<=32->dy ps l n=(dN (λk=>(ps.getD k (λ_=>false)) l) n:Int)
 |0,_=>rfl
 |n+1,h=>by
  unfold dy dN;have ih:=uZ ps l n (by omega);split
  ·rw[ih,ajL n (by omega),Nh _ _ (mC _ n (by omega)) (Nat.pow_lt_pow_right (a:=2) (n:=32) (by omega) (by omega))]
  ·exact ih
theorem Hq:∀n,n<32->uk n=((2^n:Nat):Int)
 |0,_=>rfl
 |n+1,h=>by
  unfold uk;rw[Hq n (by omega)];have h1:(2)^(n+1)<2^32:=Nat.pow_lt_pow_right (by omega) (by omega)
  grind
theorem xY(ns:List ByteArray)(x:ByteArray):∀n,n<=32->nI ns n x=(dN (λk=>decide (ns[k]?=some x)) n:Int)
 |0,_=>rfl
 |n+1,h=>by
  unfold nI dN;have ih:=xY ns x n (by omega)
  by_cases e:ns[n]?=some x
  ·rw[if_pos e,if_pos (by grind),ih,Hq n (by omega),Nh _ _ (mC _ n (by omega)) (Nat.pow_lt_pow_right (a:=2) (n:=32) (by omega) (by omega))]
  grind
theorem Hr:∀f x,Lib.popAux f x=((List.range f).filter (λk=>x.testBit k)).length
 |0,x=>rfl
 |f+1,x=>by
  show x%2+Lib.popAux f (x/2)=_;rw[Hr f (x/2),List.range_succ_eq_map,List.filter_cons,List.filter_map];have e:(λk=>x.testBit k)∘Nat.succ=λk=>(x/2).testBit k:=by
   funext k;simp[Nat.testBit_succ]
  grind
theorem sA{α:Type}(p:α->Bool):∀(L:List α)(f:Nat),L.length<=f->((List.range f).filter (λk=>(L[k]?).any p)).length=(L.filter p).length
 |[],f,_=>by
  simp
 |a::L,0,h=>by simp at h
 |a::L,f+1,h=>by
  rw[List.range_succ_eq_map,List.filter_cons,List.filter_map];have e:(λk=>((a::L)[k]?).any p)∘Nat.succ=λk=>(L[k]?).any p:=by funext k;simp[]
  rw[e];have ih:=sA p L f (by grind)
  grind
def dD(ms:List MA):List (ByteArray×bD):=ms.flatMap λm=>m.rows.map λr=>(m.name.s,r)
def xS(vs:List az)(ms:List MA)(x:ByteArray)(l:List Int):Nat:=((dD ms).filter λp=>decide (p.1=x)&&eval vs p.2.g l).length
theorem vd(ms:List MA):cD ms=(dD ms).map (·.1):=by
 grind[Function.comp_def,List.map_flatMap,cD,dD]
theorem sB(vs:List az)(ms:List MA):guards vs ms=(dD ms).map (λp=>eval vs p.2.g):=by
 grind[Function.comp_def,List.map_flatMap,guards,bh,dD]
theorem Z9(vs:List az)(ms:List MA)(x:ByteArray)(l:List Int)(h:(dD ms).length<=32):Lib.popAux 32 (bits .and .u32 (setOf ms x) (dy (guards vs ms) l (guards vs ms).length)).toNat=xS vs ms x l:=by
 have h1:(cD ms).length=(dD ms).length:=by rw[vd];simp
 have h2:(guards vs ms).length=(dD ms).length:=by rw[sB];simp
 unfold setOf;rw[h1,h2,xY _ _ _ h,uZ _ _ _ h,SZ _ _ (mC _ _ h) (mC _ _ h),Int.toNat_natCast,Hr];unfold xS;rw[<-sA (λp:ByteArray×bD=>decide (p.1=x)&&eval vs p.2.g l) (dD ms) 32 h];congr 2;funext k;rw[Nat.testBit_and,rj,rj,vd,sB]
 by_cases hk:k<(dD ms).length
 ·simp[hk]
 grind
theorem K6(vs:List az)(ms:List MA)(x:ByteArray)(l:List Int)(rs:List Int)(h:(dD ms).length<=32):eA (setOf ms x::rs) (dy (guards vs ms) l (guards vs ms).length)=if xS vs ms x l=0 then eA rs (dy (guards vs ms) l (guards vs ms).length)else if xS vs ms x l=1 then 0 else 6:=by
 show(if Lib.popAux 32 (bits .and .u32 (setOf ms x) (dy (guards vs ms) l (guards vs ms).length)).toNat=0 then eA rs (dy (guards vs ms) l (guards vs ms).length)else if Lib.popAux 32 (bits .and .u32 (setOf ms x) (dy (guards vs ms) l (guards vs ms).length)).toNat=1 then 0 else 6)=_
 grind[Z9]
