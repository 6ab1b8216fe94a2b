/- The document's table and the program's: guards' tokens, atoms, modes; nothing of the program is asked here. -/
import Derived.Test.YtdjaiolfdbamcaaGreatDoorZWCG2
import Derived.Test.YtdjaiolfdbamcaaGreatDoorZWRJd
set_option maxRecDepth 20000
set_option maxHeartbeats 4000000
namespace Go.Proofs.YtdjaiolfdbamcaaGreatDoor
variable {vs:List az}{base bx d gt n:Nat}{ms:List Hx.MA}{ts:List Hx.Tok}{w0:World}{vt:Value}{s:Hx.St}{F:Nat->Prop}
section
open Hx
theorem Jz(n:Int):iy n∉Cx.uj:=by
 have hm:∀m∈Cx.uj,∃c∈m,bq c=false/\c≠45:=by decide
 intro h;obtain⟨c,hc,h1,h2⟩:=hm _ h;unfold iy at hc;split at hc
 ·rcases List.mem_cons.1 hc with rfl|hc
  ·grind
  grind[Hv]
 grind[Hv]
theorem Mp{t:Tok}(h:ao t.k=3):Cx.xU t:=λm _=>by
 grind[aq,ao]
theorem abZ{t:Tok}{m:List UInt8}(h:aq t m=true):ao t.k=3:=by
 simp_all[Bool.and_eq_true,aq]
def zZ(vs:List az)(t:Tok):Prop:=Cx.xU t/\(t.k=110->Cx.dY vs t.s<vs.length)
theorem yW{t:Tok}(h:ao t.k=3):zZ vs t:=⟨Mp h,λe=>by grind[ao]⟩
theorem NU{w:Option Tok}{n o i:Tok}(ok:jZ w n o i)(h:vs.any (bK n.s)=true):zZ vs n/\zZ vs o/\zZ vs i:=by
 refine⟨⟨λm _=>?_,λ_=>?_⟩,yW (by rw[ok.op];rfl),λm hm=>?_,λe=>by rw[ok.num]at e;omega⟩
 ·unfold aq;rw[ok.nm];simp[ao]
 ·rw[List.any_eq_true]at h
  exact List.findIdx_lt_length_of_exists h
 ·have hne:¬i.s.toList=m:=λe=>by
   have:=(ok.QX.2 ok.num).1
   grind[Jz]
  grind[beq_eq_false_iff_ne,aq]
theorem Vv{l l':List Tok}{g:G}(h:jG d l g l'):Ke vs g->∃p,l=p++l'/\∀t∈p,zZ vs t:=by
 have one:∀{t:Tok}{p r:List Tok}{m:List UInt8},aq t m=true->(∀u∈p,zZ vs u)->∀u∈t::p,zZ vs u:=λht hp u hu=>by
  rcases List.mem_cons.1 hu with rfl|hu
  all_goals grind[yW,abZ]
 have two:∀{p q:List Tok}{a:Tok}{m:List UInt8},aq a m=true->(∀u∈p,zZ vs u)->(∀u∈q,zZ vs u)->∀u∈p++a::q,zZ vs u:=λha hp hq u hu=>by
  rcases List.mem_append.1 hu with hu|hu
  ·grind
  ·exact one (r:=[]) ha hq u hu
 induction h with
 |@gZ t r h=>intro _;exact⟨[t],rfl,one (r:=[]) h (by simp)⟩
 |@not t r r' g h d ih=>intro hg;obtain⟨p,rfl,hp⟩:=ih hg;exact⟨t::p,rfl,one (r:=[]) h hp⟩
 |@group t p r r' g h d hp ih=>intro hg;obtain⟨q,rfl,hq⟩:=ih hg;exact⟨t::(q++[p]),by simp,one (r:=[]) h (two hp hq (by simp))⟩
 |@uV n o i r ok=>intro hg;obtain⟨a,b,c⟩:=NU ok hg;exact⟨[n,o,i],rfl,by grind⟩
 |@uW w n o i r ok=>intro hg;obtain⟨a,b,c⟩:=NU ok hg;exact⟨[w,n,o,i],rfl,by simp[a,b,c,yW (vs:=vs) (show ao w.k=3 by rw[(ok.was w rfl).1];rfl)]⟩
 |c0 d ih=>exact ih
 |@c1 l m l' a g h d ha e Kf wK=>intro hg;obtain⟨p,rfl,hp⟩:=Kf hg.1;obtain⟨q,rfl,hq⟩:=wK hg.2;grind
 |c2 d ha ih=>exact ih
 |g0 d ih=>exact ih
 |@g1 l m l' a g h d ha e Kf wK=>intro hg;obtain⟨p,rfl,hp⟩:=Kf hg.1;obtain⟨q,rfl,hq⟩:=wK hg.2;grind
 |g2 d ha ih=>exact ih
theorem Mq{l l':List Tok}{r:bD}(h:EU l r l')(hg:Ke vs r.g):(∀xs,Cx.Jx vs xs .any r.gd (Cx.eval vs r.g xs) [])/\∀t∈r.gd,t.k=110->Cx.dY vs t.s<vs.length:=by
 obtain⟨l1,l2,rfl,_,hd,_,he⟩:=h;obtain⟨p,rfl,hp⟩:=Vv hd hg;have e:r.gd=p:=by rw[he];simp
 rw[e];exact⟨λxs=>Cx.OJ vs xs hd (λt ht=>(hp t ht).1),λt ht=>(hp t ht).2⟩
theorem ab0{b:Bool}{l l':List Tok}{o:Int}{df:Bool}{ext:List MA}(h:MD b l o df d n ext l'):∀m∈ext,∀r∈m.rows,∃k k',EU k r k':=by
 have rows:∀{l l':List Tok}{rs:List bD},oP l rs l'->∀r∈rs,∃k k',EU k r k':=by
  intro l l' rs h
  induction h with
  |nil=>simp
  |snoc h k ih=>
   grind
 induction h<;>grind
theorem Mr(ms:List MA):∀s:St,(s.cT ms).vars=s.vars:=by
 have hr:∀(rs:List bD)(q:Nat)(s:St),(s.jn q rs).vars=s.vars:=by
  intro rs q
  induction rs with
  |nil=>intro s;rfl
  |cons r rs ih=>grind[G8,St.jn]
 induction ms<;>simp_all[St.cT,List.foldl_cons,St.mode,St.bT,St.bR]
def fU(vs:List az)(q:AQ):Cx.PK:=(q.w.isSome,Cx.dY vs q.n.s,q.i.n)
theorem ab1{ms:List MA}{c:CS}{L:List AQ}(hc:c.atoms=L.map AQ.key)(h:∀m∈ms,∀r∈m.rows,dZ vs c r.g):Cx.KeysOf vs ms (L.map (fU vs)):=by
 have hg:∀g:G,dZ vs c g->∀q∈Cx.atoms vs g,∃was nm op num,q=Cx.nQ vs was nm op num/\Cx.dY vs nm.s<vs.length/\(was,Cx.dY vs nm.s,num.n)∈L.map (fU vs):=by
  intro g
  induction g with
  |or l r qi qj=>intro h q hq;exact(List.mem_append.1 hq).elim (qi h.1 q) (qj h.2 q)
  |and l r qi qj=>intro h q hq;exact(List.mem_append.1 hq).elim (qi h.1 q) (qj h.2 q)
  |not g ih=>exact ih
  |group _ g ih=>exact ih
  |gZ=>grind[Cx.atoms]
  |atom w n o i ok=>
   intro h q hq;simp only [Cx.atoms,List.mem_singleton]at hq;obtain⟨h1,_,h3⟩:=h;refine⟨w.isSome,n,o,i,hq,List.findIdx_lt_length_of_exists (List.any_eq_true.1 h1),?_⟩;unfold CS.has at h3;rw[hc,List.any_map,List.any_eq_true]at h3;obtain⟨a,ha,he⟩:=h3;simp only [Function.comp,AQ.key,dm,AK.same,Bool.and_eq_true,beq_iff_eq]at he;refine List.mem_map.2 ⟨a,ha,?_⟩;have hv:Cx.dY vs a.n.s=Cx.dY vs n.s:=by
    unfold Cx.dY;congr 1;funext v;unfold bK;rw[he.1.1.2]
   grind[fU]
 intro q hq;obtain⟨r,hr,hq⟩:=List.mem_flatMap.1 hq;obtain⟨m,hm,hr⟩:=List.mem_flatMap.1 hr
 grind
theorem Qt(s:St):(fi s).af=s.af/\(fi s).vars=s.vars/\(fi s).atoms=s.atoms:=by
 have h1:∀(l:List vV)(s0 s:St),(l.foldl (λs r=>s.aS (!(r.to.toList==[])&& !(s0.dx r.to)) 3 r.line) s).af=s.af/\(l.foldl (λs r=>s.aS (!(r.to.toList==[])&& !(s0.dx r.to)) 3 r.line) s).vars=s.vars/\(l.foldl (λs r=>s.aS (!(r.to.toList==[])&& !(s0.dx r.to)) 3 r.line) s).atoms=s.atoms:=by
  intro l s0
  induction l with
  |nil=>intro s;exact⟨rfl,rfl,rfl⟩
  |cons r l ih=>intro s;simp only [List.foldl_cons];obtain⟨a,b,c⟩:=ih (s.aS (!(r.to.toList==[])&& !(s0.dx r.to)) 3 r.line);rw[a,b,c,St.bw,St.bR,St.bN];exact⟨rfl,rfl,rfl⟩
 have h2:∀(l:List fX)(s0 s:St),(l.foldl (eR s0) s).af=s.af/\(l.foldl (eR s0) s).vars=s.vars/\(l.foldl (eR s0) s).atoms=s.atoms:=by
  intro l s0
  induction l with
  |nil=>intro s;exact⟨rfl,rfl,rfl⟩
  |cons m l ih=>intro s;simp only [List.foldl_cons];obtain⟨a,b,c⟩:=ih (eR s0 s m);obtain⟨d,e,f⟩:=h1 m.rows s0 s;exact⟨a.trans d,b.trans e,c.trans f⟩
 have h3:∀(l:List fX)(i:Nat)(s0 s:St),(kQ s0 i l s).af=s.af/\(kQ s0 i l s).vars=s.vars/\(kQ s0 i l s).atoms=s.atoms:=by
  intro l
  induction l with
  |nil=>intro i s0 s;exact⟨rfl,rfl,rfl⟩
  |cons m l ih=>intro i s0 s;simp only [kQ];obtain⟨a,b,c⟩:=ih (i+1) s0 (oK s0 s i m);rw[a,b,c];unfold oK;rw[St.bw,St.bR,St.bN];exact⟨rfl,rfl,rfl⟩
 obtain⟨a,b,c⟩:=h3 s.af 0 s (s.af.foldl (eR s) s);obtain⟨d,e,f⟩:=h2 s.af s s;exact⟨a.trans d,b.trans e,c.trans f⟩
theorem Np{ts:List Tok}{m:Nat}{S S':St}(h:dk n ts (-1) 0 false St.zero=some S)(h':dk m ts (-1) 0 false St.zero=some S'):S=S':=by
 have a:=ur n _ _ _ _ _ _ h m;have b:=ur m _ _ _ _ _ _ h' n
 grind
end
section
open Go.RowKit
section
variable (vs:List az) (xs:List Int) (s:Hx.St) (ms:List Hx.MA) (leaf:Int)
def toP(r:Hx.bD):Int:=match r.dest with|none=>leaf|some t=>rA s s.af.length (Cx.fE ms t.s:Int)
def jd(p:Nat×Int)(r:Hx.bD):Nat×Int:=if Cx.eval vs r.g xs then(p.1+1,toP s ms leaf r)else p
def tC(p:Int×Nat)(q:Nat×Int):Int×Nat:=if p.2=7 then if 1<q.1 then(leaf,6)else if q.1=1 then(q.2,0)else(leaf,7)else p
def jA:Nat->Int->Int×Nat
 |0,_=>(leaf,7)
 |f+1,k=>if k<0 then(leaf,7)else tC leaf (jA f (Cx.aZ ms k.toNat)) ((Cx.rowsOf ms k.toNat).foldl (jd vs xs s ms leaf) (0,(jA f (Cx.aZ ms k.toNat)).1))
end
structure ACx(ts:List Hx.Tok)(s:Hx.St)(vs:List az)(ms:List Hx.MA):Prop where
 af:s.af=ms.map Hx.MA.p
 agX:ms.length<=12
 arF:∀m∈ms,m.rows.length<=24
 out:∀i (hi:i<ms.length),ms[i].outer<i
 len:ts.length<=3001
 row:∀m∈ms,∀r∈m.rows,(∀xs,Cx.Jx vs xs .any r.gd (Cx.eval vs r.g xs) [])/\(∀t∈r.gd,t.k=110->Cx.dY vs t.s<vs.length)/\∀t,r.dest=some t->Cx.fE ms t.s<ms.length
theorem Ms(vs:List az)(xs:List Int)(s:Hx.St)(ms:List Hx.MA)(leaf:Int)(l:List Hx.bD)(i:Nat)(h:i<l.length)(p:Nat×Int):(l.take (i+1)).foldl (jd vs xs s ms leaf) p=jd vs xs s ms leaf ((l.take i).foldl (jd vs xs s ms leaf) p) l[i]:=by
 rw[List.take_add_one,List.getElem?_eq_getElem h,List.foldl_append];rfl
theorem Vw(hT:db w0 base bx vt gt ts s F)(hA:ACx ts s vs ms){q:Nat}(hq:q<ms.length):
  ∃gm cv ar cr,w0.cell? ⟨bx,2,none⟩=some (.slice (some ⟨gm,0,none⟩) ms.length cv)/\w0.cell? ⟨gm,q*5+2,none⟩=some (.int .i64 ms[q].outer)/\w0.cell? ⟨gm,q*5+4,none⟩=some (.slice ar ms[q].rows.length cr)/\
   ∀j (hj:j<ms[q].rows.length),∃gr off n c,ar=some ⟨gr,0,none⟩/\w0.cell? ⟨gr,j*3,none⟩=some (.slice (some ⟨gt,off*4,none⟩) n c)/\w0.cell? ⟨gr,j*3+1,none⟩=some (.string ms[q].rows[j].p.to)/\w0.cell? ⟨gr,j*3+2,none⟩=some (.int .i64 ms[q].rows[j].p.line)/\off+n<=ts.length/\ms[q].rows[j].gd=gR ts off n:=by
 have h:=hT.mode;rw[hA.af]at h;obtain⟨av,cv,c2,hc⟩:=h;obtain⟨gm,ar,cr,rfl,_,_,e2,_,e4,hr⟩:=hc q (by grind);simp only [List.getElem_map,List.length_map,Hx.MA.p]at c2 e2 e4 hr;refine⟨gm,cv,ar,cr,c2,e2,e4,λj hj=>?_⟩;obtain⟨gr,off,n,c,h1,h2,h3,h4,h5,h6⟩:=hr j hj;refine⟨gr,off,n,c,h1,h2,h3,h4,h5,?_⟩;rw[show ms[q].rows[j].gd=ms[q].rows[j].p.gd by grind[Hx.bD.p]];exact h6
theorem Qu{ab an:Option Addr}{bs ns:List Int}(hC:JCx w0 base bx vt gt ts s F vs ab an bs ns)(hA:ACx ts s vs ms)(leaf:Int)(cb cn:Nat):∀(f:Nat)(k:Int),k<f->k<ms.length->∀w,Below w0.heap.size w0 w->
  Calls Tryz.prog 96 #[.pointer (some ⟨bx,0,none⟩),.int .i64 k,.int .i64 leaf,.slice ab bs.length cb,.slice an ns.length cn] w λe w'=>e=.returned (.tuple #[.int .i64 (jA vs (bs++ns) s ms leaf f k).1,.int .i64 (jA vs (bs++ns) s ms leaf f k).2])/\Below w.heap.size w w':=by
 intro f
 induction f with
 |zero=>
  intro k hk hkm w hp;have jf:k<0:=by omega
  clear hp hC hA;go_enter Tryz.func96,Tryz.ntmps96;go_wp2_with fail
  go_ret2
  exact⟨rfl,Below.refl _ _⟩
 |succ f ih=>
  intro k hk hkm w hp
  by_cases jf:k<0
  ·have HE:Hid (jA vs (bs++ns) s ms leaf (f+1) k=(leaf,7)):=ae (by unfold jA;grind)
   rw[HE.out];clear hp hC hA ih HE;go_enter Tryz.func96,Tryz.ntmps96;go_wp2_with fail
   go_ret2
   exact⟨rfl,Below.refl _ _⟩
  ·obtain⟨q,rfl⟩:∃q:Nat,k=(q):=⟨k.toNat,by omega⟩
   have hqm:q<ms.length:=by omega
   obtain⟨gm,cv,ar,cr,c2,e2,e4,kA⟩:=Vw hC.jU hA hqm;have ho:=hA.out q hqm;have y2:=(hp.cell (World.block_lt_of_cell? w0 ⟨bx,2,none⟩ c2)).trans c2;have z2:=(hp.cell (World.block_lt_of_cell? w0 ⟨gm,q*5+2,none⟩ e2)).trans e2;have hoo:Cx.aZ ms q=ms[q].outer:=by simp[Cx.aZ,hqm]
   have G6:Cx.rowsOf ms q=ms[q].rows:=by simp[Cx.rowsOf,hqm]
   have hE:jA vs (bs++ns) s ms leaf (f+1) q=tC leaf (jA vs (bs++ns) s ms leaf f ms[q].outer) (ms[q].rows.foldl (jd vs (bs++ns) s ms leaf) (0,(jA vs (bs++ns) s ms leaf f ms[q].outer).1)):=by
    show(if(q:Int)<0 then _ else _)=_;rw[if_neg jf,Int.toNat_natCast,hoo,G6]
   have HIH:=ae (ih ms[q].outer (by omega) (by omega) w hp);have hrf:=hA.arF ms[q] (List.getElem_mem hqm);have HRW:=ae (hA.row ms[q] (List.getElem_mem hqm));rw[hE];generalize jA vs (bs++ns) s ms leaf f ms[q].outer=pp at*;generalize ms[q].rows=rs at*;generalize ms[q].outer=oq at*;obtain⟨pt,pe⟩:=pp;have hqi:(q:Int)<ms.length:=by omega
   have azE:=jf;have HR:=ae kA;have HC:=ae hC;have HA:=ae hA;have HP:=ae hp;have C2:=ae c2;have E4:=ae e4;clear kA hC hA hp c2 e2 e4 ih hE hoo G6 jf;go_enter Tryz.func96,Tryz.ntmps96;go_wp2_with fail;refine HIH.out.mono ?_;rintro e w1 ⟨rfl,bH⟩;simp only;have b6:=ae bH;clear bH HIH y2 z2
   by_cases h7:pe=7
   ·subst h7
    go_wp2_with fail
    go_loopg [12,14,15] rs.length (λm v12 v14 v15 wr=>∃(i nn:Nat)(tt:Int),i+m=rs.length/\v12=.int .i64 tt/\v14=.int .i64 nn/\v15=.int .i64 i/\Below w.heap.size w wr/\nn<=i/\(nn,tt)=(rs.take i).foldl (jd vs (bs++ns) s ms leaf) (0,pt))
    case atStart=>exact⟨0,0,pt,by omega,rfl,rfl,rfl,b6.out,Nat.le_refl _,rfl⟩
    case round=>
     obtain⟨i,nn,tt,RM,rfl,rfl,rfl,eS,hni,hst⟩:=hrel;have XI:=HP.out.trans (eS.mono HP.out.size);have y2:=(XI.cell (World.block_lt_of_cell? w0 ⟨bx,2,none⟩ C2.out)).trans C2.out;have y4:=(XI.cell (World.block_lt_of_cell? w0 ⟨gm,q*5+4,none⟩ E4.out)).trans E4.out
     by_cases hlt:i<rs.length
     ·have mQ:(i:Int)<rs.length:=by omega
      have dl:(0:Int)<=i:=by omega
      obtain⟨gr,off,n,c,rfl,r0,r1,r2,Rk,zi⟩:=HR.out i hlt;obtain⟨hjx,hvx,hmx⟩:=HRW.out rs[i] (List.getElem_mem hlt);have hST:=Ms vs (bs++ns) s ms leaf rs i hlt (0,pt);rw[<-hst]at hST;generalize rs[i]=r at*;obtain⟨X,hX⟩:∃X,X=(wr.alloc (.cells #[.slice (some ⟨gt,off*4,none⟩) n c,.string r.p.to,.int .i64 r.p.line] 253)).alloc (.cells #[.pointer (some ⟨bx,0,none⟩),.slice (some ⟨gt,off*4,none⟩) n c,.int .i64 0,.slice ab bs.length cb,.slice an ns.length cn] 257):=⟨_,rfl⟩;have qN:Below wr.heap.size wr X:=by rw[hX];exact(ag _ _).trans ((ag _ _).mono (by simp))
      have hPX:=XI.trans (qN.mono XI.size);have agY:=hjx (bs++ns);rw[zi]at agY hvx;have hsz:=XI.size;have hsw:=eS.size;have HRX:Hid (X.heap[wr.heap.size]?=some (.cells #[.slice (some ⟨gt,off*4,none⟩) n c,.string r.p.to,.int .i64 r.p.line] 253 (0,0))):=ae (by rw[hX];exact((ag _ _).block wr.heap.size (by simp)).trans (heap_alloc_new _ _));have hJX:Eg X (wr.heap.size+1) bx gt off n c 0 (.slice ab bs.length cb) (.slice an ns.length cn):=⟨by rw[hX];have:=heap_alloc_new (wr.alloc (.cells #[.slice (some ⟨gt,off*4,none⟩) n c,.string r.p.to,.int .i64 r.p.line] 253)) (.cells #[.pointer (some ⟨bx,0,none⟩),.slice (some ⟨gt,off*4,none⟩) n c,.int .i64 0,.slice ab bs.length cb,.slice an ns.length cn] 257);simpa using this⟩;have HJA:=ae (Mn HC.out (wr.heap.size+1) off n c cb cn (by omega) Rk (by have:=HA.out.len;omega) hvx _ agY X hJX hPX);have fM:=ae (eS.trans (qN.mono eS.size));have HPX:=ae hPX;have lj:=ae hST;have HMX:=ae hmx;have s0:=(XI.cell (World.block_lt_of_cell? w0 ⟨gr,i*3,none⟩ r0)).trans r0;have s1:=(XI.cell (World.block_lt_of_cell? w0 ⟨gr,i*3+1,none⟩ r1)).trans r1;have s2:=(XI.cell (World.block_lt_of_cell? w0 ⟨gr,i*3+2,none⟩ r2)).trans r2;clear zi agY hjx hvx hJX hPX qN hst hST XI eS hmx r0 r1 r2 Rk;go_upto_region 12 with(fail);rw[<-hX];clear hX;go_wp2_with fail;refine HJA.out.mono ?_;rintro e w2 ⟨rfl,fW⟩;have hP2:=HPX.out.trans (fW.toBelow (λk e=>by omega) HPX.out.size);have dH:=ae (fM.out.trans (fW.toBelow (λk e=>by omega) fM.out.size));have t1:=(fW.cell (Array.getElem?_eq_some_iff.1 HRX.out).1 (by omega)).trans (Lib.cell_of_heap HRX.out 1);have rP:=ae (HC.out.jU.below hP2);have Nk:nn+1<=1000:=by omega
      clear fW HJA HRX HPX hP2 y2 y4 s0 s1 s2
      cases hev:Cx.eval vs r.g (bs++ns)with
      |false=>
       have HS:Hid ((nn,tt)=(rs.take (i+1)).foldl (jd vs (bs++ns) s ms leaf) (0,pt)):=ae (by rw[lj.out];simp[jd,hev]);clear hev t1;go_wp2_with fail
       go_roundg (rs.length-(i+1))
       case measure=>omega
       case rel=>exact⟨i+1,nn,tt,by omega,rfl,rfl,by go_num,dH.out,by omega,HS.out⟩
      |true=>
       have HS:Hid ((nn+1,toP s ms leaf r)=(rs.take (i+1)).foldl (jd vs (bs++ns) s ms leaf) (0,pt)):=ae (by rw[lj.out];simp[jd,hev])
       cases hd:r.dest with
       |none=>
        have hpt:r.p.to=⟨#[]⟩:=by simp[Hx.bD.p,hd]
        have nX:toP s ms leaf r=leaf:=by simp[toP,hd]
        rw[nX]at HS;rw[hpt]at t1;clear hev hd hpt nX;go_wp2_with fail
        go_roundg (rs.length-(i+1))
        case measure=>omega
        case rel=>exact⟨i+1,nn+1,leaf,by omega,rfl,by go_num,by go_num,dH.out,by omega,HS.out⟩
       |some a=>
        have hpt:r.p.to=a.s:=by simp[Hx.bD.p,hd]
        have hne:(a.s.toList==[])=false:=by simpa using r.ok a hd
        have hmx:=HMX.out a hd;have nX:toP s ms leaf r=rA s s.af.length (Cx.fE ms a.s):=by simp[toP,hd]
        have iq:s.af.length=ms.length:=by rw[HA.out.af,List.length_map]
        have azG:=HA.out.agX;have HMO:=yM w2 base bx vt gt ts s F a.s rP.out (by omega);rw[HA.out.af,Mm ms a.s hmx]at HMO;have HMO:=ae HMO
        have Oh:=ae (Mt w2 base bx vt gt ts s F rP.out (by omega) (λj hj=>by
         have:=HA.out.out j (by omega)
         simpa[HA.out.af,Hx.MA.p]using this) s.af.length (Cx.fE ms a.s) (by omega))
        rw[nX]at HS;rw[hpt]at t1;generalize rA s s.af.length (Cx.fE ms a.s:Int)=en at*;clear hev hd hpt nX hmx iq;go_wp2_with fail;refine HMO.out.mono ?_;rintro e w3 ⟨rfl,zq⟩;rw[zq];clear zq w3;go_wp2_with fail;refine Oh.out.mono ?_;rintro e w3 ⟨rfl,zq⟩;rw[zq];clear zq w3;go_wp2_with fail
        go_roundg (rs.length-(i+1))
        case measure=>omega
        case rel=>exact⟨i+1,nn+1,en,by omega,rfl,by go_num,by go_num,dH.out,by omega,HS.out⟩
     ·have mQ:¬(i:Int)<rs.length:=by omega
      have hie:i=rs.length:=by omega
      have HS:Hid (rs.foldl (jd vs (bs++ns) s ms leaf) (0,pt)=(nn,tt)):=ae (by rw[hst,hie,List.take_length]);have HBL:=ae eS;clear hst hie eS XI
      by_cases QT:1<nn
      ·have HE:Hid (tC leaf (pt,7) (rs.foldl (jd vs (bs++ns) s ms leaf) (0,pt))=(leaf,6)):=ae (by rw[HS.out];simp[tC,QT])
       have arI:(1:Int)<nn:=by omega
       go_wp2_with fail
       go_ret2
       exact⟨by rw[HE.out];rfl,HBL.out⟩
      ·have arI:¬(1:Int)<nn:=by omega
       by_cases MW:nn=1
       ·have HE:Hid (tC leaf (pt,7) (rs.foldl (jd vs (bs++ns) s ms leaf) (0,pt))=(tt,0)):=ae (by rw[HS.out];simp[tC,MW])
        have ajn:((nn:Int)==1)=true:=by simp;omega
        clear MW;go_wp2_with fail
        go_ret2
        exact⟨by rw[HE.out];rfl,HBL.out⟩
       ·have HE:Hid (tC leaf (pt,7) (rs.foldl (jd vs (bs++ns) s ms leaf) (0,pt))=(leaf,7)):=ae (by rw[HS.out];simp[tC,QT,MW])
        have ajn:((nn:Int)==1)=false:=by simp;omega
        clear MW;go_wp2_with fail
        go_ret2
        exact⟨by rw[HE.out];rfl,HBL.out⟩
   ·have HE:Hid (tC leaf (pt,pe) (rs.foldl (jd vs (bs++ns) s ms leaf) (0,pt))=(pt,pe)):=ae (by unfold tC;grind)
    have h7':((pe:Int) !=7)=true:=by simp;omega
    go_wp2_with fail
    go_ret2
    exact⟨by rw[HE.out];rfl,b6.out⟩
end
section
open Go.RowKit
attribute [local go_sem↓] Go.wp_at_zero Go.wp_at_succ
theorem Vx{w:World}{L:List AQ}(h:db w base bx vt gt ts s F)(hm:br w gt ts)(hs:s.atoms=L.map AQ.gy):
  ∃av cv,w.cell? ⟨bx,3,none⟩=some (.slice av L.length cv)/\∀i (hi:i<L.length),∃gv off c,av=some ⟨gv,0,none⟩/\w.cell? ⟨gv,i,none⟩=some (.slice (some ⟨gt,off*4,none⟩) (if L[i].w.isSome then 4 else 3) c)/\w.cell? ⟨gt,off*4+(if L[i].w.isSome then 4 else 0)+1,none⟩=some (.string L[i].n.s)/\w.cell? ⟨gt,off*4+(if L[i].w.isSome then 12 else 8)+2,none⟩=some (.int .i64 L[i].i.n):=by
 obtain⟨⟨vv,vm,va,ms,ats⟩,h,_⟩:=h;have bu:=h.atoms;simp only at bu;have QO:=by have:=congrArg List.length (bu.trans hs);simpa using this
 have ho:=h.mem.own 3 _ rfl;obtain⟨av,cv,hv,_,_⟩:=dv ho;simp only at hv;refine⟨av,cv,by rw[<-QO,<-hv];exact h.cellAt.2.2.2.1,λi hi=>?_⟩;obtain⟨gv,cap,he,_,_,_,_,hc⟩:=aR ho (by grind);simp only [hv,Value.slice.injEq]at he;have qe:i<ats.length:=by omega
 have vS:=hc i (by grind);simp only [List.getElem?_map,List.getElem?_eq_getElem qe,Option.map_some]at vS;obtain⟨off,c,e1,e2,e3,_,_⟩:=h.slices ats[i] (List.getElem_mem qe);have e4:ats[i].2=L[i].gy:=by
  have h1:(ats.map (·.2))[i]?=(L.map AQ.gy)[i]?:=by rw[bu,hs]
  simpa[hi,qe]using h1
 rw[e4]at e1 e2 e3;have g:∀k,k<L[i].gy.length->ts[off+k]?=L[i].gy[k]?:=λk hk=>by
  grind
 have tk:∀k t,L[i].gy[k]?=some t->w.cell? ⟨gt,off*4+k*4+1,none⟩=some (.string t.s)/\w.cell? ⟨gt,off*4+k*4+2,none⟩=some (.int .i64 t.n):=λk t hk=>by
  have Ng:=(List.getElem?_eq_some_iff.1 hk).1;have hl:off+k<ts.length:=by omega
  obtain⟨_,h1,h2,_⟩:=hm.shift off k hl
  grind
 rw[e1]at vS;refine⟨gv,off,c,he.1,?_⟩
 cases hw:L[i].w with
 |none=>
  have ht:L[i].gy=[L[i].n,L[i].o,L[i].i]:=by simp[AQ.gy,iW,hw]
  rw[ht]at vS tk;exact⟨vS,(tk 0 _ rfl).1,(tk 2 _ rfl).2⟩
 |some t=>
  have ht:L[i].gy=[t,L[i].n,L[i].o,L[i].i]:=by simp[AQ.gy,iW,hw]
  rw[ht]at vS tk;exact⟨vS,(tk 1 _ rfl).1,(tk 3 _ rfl).2⟩
theorem agZ(hN:∀j (hj:j<vs.length),(vs.take j).any (bK vs[j].name.s)=false){v:Nat}(hv:v<vs.length)(n:ByteArray):(Cx.dY vs n==v)=(n.toList==vs[v].name.s.toList):=by
 have key:Cx.dY vs n=v↔n.toList=vs[v].name.s.toList:=by
  unfold Cx.dY;constructor
  ·rintro rfl
   have:=List.findIdx_getElem (w:=hv);exact(beq_iff_eq.1 this).symm
  ·intro e
   rw[List.findIdx_eq hv];refine⟨by simp[bK,e],λj hj=>?_⟩;have h1:=hN v hv;rw[List.any_eq_false]at h1;have h2:=h1 (vs[j]'(by omega)) (by grind[List.mem_iff_getElem])
   grind[bK]
 grind
namespace Cx
def pm(lo:Int)(K:List PK)(v:Nat)(was:Bool)(d:Nat):List Int:=((List.range d).map λ(d:Nat)=>lo+(d:Int)).filter (EL lo K v was)
theorem Mu(lo:Int)(K:List PK)(v:Nat)(was:Bool)(d:Nat):pm lo K v was (d+1)=if EL lo K v was (lo+d)then pm lo K v was d++[lo+d]else pm lo K v was d:=by
 grind[List.range_succ,pm]
theorem Vy(lo:Int)(K:List PK)(v:Nat)(was:Bool)(d:Nat):(pm lo K v was d).length<=d:=by
 grind[Nat.le_trans,List.length_filter_le,pm]
def Mv(v:Nat)(was:Bool)(n:Int)(k:PK):Bool:=k.1==was&&k.2.1==v&&(n==k.2.2||n==k.2.2+1)
end Cx
theorem Mw(w:World)(base bx:Nat)(vt:Value)(gt:Nat)(ts:List Hx.Tok)(s:Hx.St)(F:Nat->Prop)(vs:List az)(L:List AQ)(h:db w base bx vt gt ts s F)(hm:br w gt ts)(hs:s.atoms=L.map AQ.gy)(hvs:s.vars=vs.map az.p)(hl:L.length<=8)
  (hN:∀j (hj:j<vs.length),(vs.take j).any (bK vs[j].name.s)=false) (hbd:∀j (hj:j<vs.length),-1000<=vs[j].first.n/\vs[j].last.n<=1000) (v:Nat) (hv:v<vs.length) (was:Bool):
  Calls Tryz.prog 145 #[.pointer (some ⟨bx,0,none⟩),.int .i64 v,.bool was] w λe w'=>∃u,e=.returned u/\w'.ownsRow w.heap.size 3 1 u (Cx.EM vs (L.map (fU vs)) v was).length ((Cx.EM vs (L.map (fU vs)) v was).map (.int .i64))/\Below w.heap.size w w':=by
 obtain⟨av,cv,c1,hcv⟩:=h.var;obtain⟨aa,ca,c3,hca⟩:=Vx h hm hs;have D3:s.vars.length=vs.length:=by rw[hvs,List.length_map]
 obtain⟨gv,rfl,n0,n1,n2⟩:=hcv v (by omega);have Xj:s.vars[v]'(by omega)=vs[v].p:=by simp[hvs]
 rw[Xj]at n0 n1 n2;have hpn:(az.p vs[v]).name=vs[v].name.s:=rfl;have tS:(az.p vs[v]).lo=vs[v].first.n:=rfl;have hph:(az.p vs[v]).hi=vs[v].last.n:=rfl;rw[hpn]at n0;rw[tS]at n1;rw[hph]at n2;rw[D3]at c1;obtain⟨vW,Nd⟩:=hbd v hv
 have IF:Hid (Cx.EM vs (L.map (fU vs)) v was=Cx.pm vs[v].first.n (L.map (fU vs)) v was (vs[v].last.n-vs[v].first.n+1).toNat):=ae (by
  unfold Cx.EM Cx.pm Cx.fj Cx.fT
  grind)
 have HV:=ae (λn=>agZ hN hv n);have l1:bx<w.heap.size:=World.block_lt_of_cell? w ⟨bx,1,none⟩ c1;have l2:gv<w.heap.size:=World.block_lt_of_cell? w ⟨gv,v*3,none⟩ n0;rw[IF.out];generalize vs[v].first.n=lo at*;generalize vs[v].last.n=hi at*;generalize vs[v].name.s=nm at*;have HCA:=ae hca;clear hca hcv h hm hs hvs hN hbd D3 Xj hpn tS hph IF;obtain⟨i0,dl,eu,dA,eg⟩:=info_parts Tryz.infoIntT;obtain⟨K,hK⟩:∃K,K=L.map (fU vs):=⟨_,rfl⟩;rw[<-hK];have HK:=ae hK;obtain⟨D,hD⟩:∃D,D=(hi-lo+1).toNat:=⟨_,rfl⟩;rw[<-hD];have HD:=ae hD;clear hD;have hv0:(0:Int)<=v:=by omega
 have hvi:(v:Int)<vs.length:=by omega
 clear hK;go_enter Tryz.func145,Tryz.ntmps145;go_wp2_with fail
 go_loopg [7,8] D (λm v7 v8 wr=>∃d:Nat,d+m=D/\v8=.int .i64 (lo+d)/\wr.ownsRow w.heap.size 3 1 v7 (Cx.pm lo K v was d).length ((Cx.pm lo K v was d).map (.int .i64))/\Below w.heap.size w wr)
 case atStart=>exact⟨0,by omega,by simp,World.ownsRow_nil _ _ _ _,Below.refl _ _⟩
 case round=>
  obtain⟨d,hd,rfl,aJ,eS⟩:=hrel;obtain⟨a7,c7,rfl,_,_⟩:=aj aJ;have y1:=(eS.cell l1).trans c1;have y3:=(eS.cell l1).trans c3;have z0:=(eS.cell l2).trans n0;have z1:=(eS.cell l2).trans n1;have z2:=(eS.cell l2).trans n2;have hln:=Cx.Vy lo K v was d;have lj:=ae (Cx.Mu lo K v was d);have HO:=ae aJ;have HB:=ae eS;have hsz:=eS.size;clear aJ eS
  by_cases hlt:d<D
  ·have hle:lo+(d)<=hi:=by have:=HD.out;omega
   obtain⟨x,hx⟩:∃x,x=lo+(d):=⟨_,rfl⟩;have ep:-1000<=x:=by omega
   have iB:x<=1000:=by omega
   have wx:IntKind.i64.wrap (x+1)=x+1:=IntWalk.i64_in _ (by omega);have Xr:lo+((d+1:Nat))=x+1:=by omega
   rw[<-hx]at hle lj|-;clear hx;generalize Cx.pm lo K v was d=pl at*;go_wp2_with fail
   go_loopg [9,10] L.length (λm v9 v10 wq=>∃(i k:Nat),i+m=L.length/\v10=.int .i64 i/\wq=wr.drewN k/\v9=.bool (x==lo||(K.take i).any (Cx.Mv v was x)))
   case atStart=>exact⟨0,0,by omega,rfl,rfl,by simp⟩
   case round=>
    obtain⟨i,k,qe,rfl,rfl,rfl⟩:=hrel
    by_cases oA:i<L.length
    ·have J6:(i:Int)<L.length:=by omega
     have Ti:(0:Int)<=i:=by omega
     obtain⟨ga,off,c,rfl,e0,e1,e2⟩:=HCA.out i oA;have e0:=(HB.out.cell (World.block_lt_of_cell? w ⟨ga,i,none⟩ e0)).trans e0;have e1:=(HB.out.cell (World.block_lt_of_cell? w _ e1)).trans e1;have e2:=(HB.out.cell (World.block_lt_of_cell? w _ e2)).trans e2;obtain⟨_,J4,J5⟩:=L[i].ok.QX.2 L[i].ok.num
     have qO:Hid ((K.take (i+1)).any (Cx.Mv v was x)=((K.take i).any (Cx.Mv v was x)||((L[i].w.isSome==was)&&(L[i].n.s.toList==nm.toList)&&(x==L[i].i.n||x==L[i].i.n+1)))):=ae (by
      rw[HK.out,List.take_add_one,List.getElem?_eq_getElem (by simpa using oA),List.any_append];simp only [List.getElem_map,Option.toList_some,List.any_cons,List.any_nil,Bool.or_false,Cx.Mv,fU]
      rw[HV.out])
     generalize (K.take i).any (Cx.Mv v was x)=bb at*;generalize aT:(K.take (i+1)).any (Cx.Mv v was x)=b2 at*;have dH:=ae aT;clear aT;generalize L[i].w.isSome=qs at*;generalize L[i].n.s=qn at*;generalize L[i].i.n=qc at*;have wq:IntKind.i64.wrap (qc+1)=qc+1:=IntWalk.i64_in _ (by omega);have hcs:((qs==was)=false/\Hid (b2=bb))\/((qs==was)=true/\(qn.toList==nm.toList)=false/\Hid (b2=bb))\/((qs==was)=true/\(qn.toList==nm.toList)=true/\(x==qc)=true/\Hid (b2=true))\/
       ((qs==was)=true/\(qn.toList==nm.toList)=true/\(x==qc)=false/\(x==qc+1)=true/\Hid (b2=true))\/((qs==was)=true/\(qn.toList==nm.toList)=true/\(x==qc)=false/\(x==qc+1)=false/\Hid (b2=bb)):=by
      rw[qO.out]
      cases (qs==was)<;>cases (qn.toList==nm.toList)<;>cases (x==qc)<;>cases (x==qc+1)<;>simp[Hid]
     clear qO
     cases qs
     all_goals
      cases was
      all_goals
       simp only [if_true,Bool.false_eq_true,if_false]at e0 e1 e2;go_upto_region 11 with(fail);rcases hcs with⟨p1,ht⟩|⟨p1,p2,ht⟩|⟨p1,p2,p3,ht⟩|⟨p1,p2,p3,p4,ht⟩|⟨p1,p2,p3,p4,ht⟩
       all_goals first
        |(exact absurd p1 (by decide))
        |(clear p1
          go_quiet (fail)
          go_wp2_with fail
          go_roundg (L.length-(i+1))
          case measure=>omega
          case rel=>exact⟨i+1,_,by omega,by go_num,rfl,by rw[dH.out,ht.out];(try simp)⟩)
    ·have azH:¬(i:Int)<L.length:=by omega
     have uC:(x==lo||(K.take i).any (Cx.Mv v was x))=Cx.EL lo K v was x:=by
      have:K.length<=i:=by rw[HK.out,List.length_map];omega
      rw[List.take_of_length_le this];rfl
     rw[uC];generalize Cx.EL lo K v was x=pt at*;have pf:Hid ((wr.drewN k).ownsRow w.heap.size 3 1 (.slice a7 pl.length c7) pl.length (pl.map (.int .i64))):=ae (ah HO.out (below_drewN (Below.refl _ _) _));have J3:=ae (below_drewN HB.out k);have y3:(wr.drewN k).cell? ⟨bx,3,none⟩=_:=y3;generalize wr.drewN k=wk at*;clear uC
     cases pt with
     |false=>
      rw[if_neg (by decide)]at lj;go_wp2_with fail
      go_roundg (D-(d+1))
      case measure=>omega
      case rel=>exact⟨d+1,by omega,by rw[Xr],by rw[lj.out];exact pf.out,J3.out⟩
     |true=>
      rw[if_pos rfl]at lj;go_wp2_with (at_builtin;refine wpList_append_own_at _ rfl _ _ 32 rfl w.heap.size 3 i0 _ 1 8 Tryz.underlying32 dl eu dA eg rfl (by decide) _ pl.length _ rfl (ah pf.out (ag _ _)) ⟨_,0,none⟩ 1 1 [.int .i64 x] rfl rfl (aF _ _ (by omega) [_] _) (eI rfl) ?c3 ?c4 ?c5 ?_)
      case c3=>unfold maxLen;omega
      case c4=>omega
      case c5=>have:=J3.out.size;omega
      intro v9 w9 aJ ax _ _;have kh:=ae (bQ (J3.out.trans ((ag _ _).mono J3.out.size)) (ah pf.out (ag _ _)) ax (by have:=J3.out.size;simp;omega));have lq:Hid (w9.ownsRow w.heap.size 3 1 v9 (pl.length+1) ((pl++[x]).map (.int .i64))):=ae (by rw[List.map_append];exact aJ);clear aJ ax;go_wp2_with fail
      go_roundg (D-(d+1))
      case measure=>omega
      case rel=>exact⟨d+1,by omega,by rw[Xr],by rw[lj.out,List.length_append];exact lq.out,kh.out⟩
  ·have hle:¬lo+(d)<=hi:=by have:=HD.out;omega
   obtain rfl:d=D:=by omega
   go_wp2_with fail;go_ret;exact⟨_,rfl,HO.out,HB.out⟩
