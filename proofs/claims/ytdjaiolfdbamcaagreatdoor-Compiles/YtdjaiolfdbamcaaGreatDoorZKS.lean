/- A few samples stand for all: each number is brought down to the greatest one that is asked; nothing of the program is asked here. -/
import Derived.Test.YtdjaiolfdbamcaaGreatDoorZKWa
namespace Go.Proofs.YtdjaiolfdbamcaaGreatDoor
variable {x:ByteArray×List Int}{vs:List az}{xs ys:List Int}{m:List UInt8}{L M N l l' r rest:List Hx.Tok}{R:Bool×List Hx.Tok}{t:Hx.Tok}{d:Nat}{b c:Bool}
section
open Hx
namespace Cx
theorem SN:∀(l:List Int),l≠[]->∃m∈l,∀a∈l,a<=m
 |[],h=>absurd rfl h
 |[a],_=>⟨a,by simp,by simp⟩
 |a::b::l,_=>by
  obtain⟨m,hm,h⟩:=SN (b::l) (by simp)
  grind
theorem OG{lo hi x:Int}{P jh:List Int}(vW:lo∈P)(hc:∀c∈jh,lo<c->c<=hi->c∈P)(h1:lo<=x)(h2:x<=hi):∃y∈P,∀c∈jh,(c<=x↔c<=y):=by
 have hm:lo∈P.filter (λp=>decide (p<=x)):=List.mem_filter.2 ⟨vW,by grind⟩;obtain⟨y,hy,axm⟩:=SN (P.filter λp=>decide (p<=x)) (λe=>by grind)
 grind
theorem Hf(q:Q)(xs ys:List Int)(h:∀c∈q.jh,(c<=xs.getD q.which 0↔c<=ys.getD q.which 0)):q.answer xs=q.answer ys:=by
 obtain⟨wh,sm,num,tn⟩:=q;unfold Q.answer;unfold Q.jh at h
 cases sm with
 |true=>
  simp only [if_true]at h|-;have a:=h num (by simp);have b:=h (num+1) (by simp);have e:(xs.getD wh 0==num)=(ys.getD wh 0==num):=by
   rw[Bool.eq_iff_iff,beq_iff_eq,beq_iff_eq];constructor<;>intro<;>omega
  grind
 |false=>
  simp only [Bool.false_eq_true,if_false]at h|-;have a:=h num (by simp)
  grind
theorem jt(vs:List az)(xs ys:List Int):∀g:G,(∀q∈atoms vs g,q.answer xs=q.answer ys)->eval vs g xs=eval vs g ys
 | .or l r,h=>by
  simp only [eval];rw[jt vs xs ys l (λq hq=>h q (List.mem_append_left _ hq)),jt vs xs ys r (λq hq=>h q (List.mem_append_right _ hq))]
 | .and l r,h=>by
  simp only [eval];rw[jt vs xs ys l (λq hq=>h q (List.mem_append_left _ hq)),jt vs xs ys r (λq hq=>h q (List.mem_append_right _ hq))]
 | .not g,h=>by simp only [eval];rw[jt vs xs ys g h]
 | .group _ g,h=>jt vs xs ys g h
 | .gZ,_=>rfl
 | .atom w nm op num _,h=>h _ (by simp[atoms])
def xP(vs:List az)(ms:List MA)(xs ys:List Int):Prop:=∀m∈ms,∀r∈m.rows,eval vs r.g xs=eval vs r.g ys
theorem xP.rows{ms:List MA}(h:xP vs ms xs ys):∀n,dy (guards vs ms) xs n=dy (guards vs ms) ys n
 |0=>rfl
 |n+1=>by
  have e:((guards vs ms).getD n (λ_=>false)) xs=((guards vs ms).getD n (λ_=>false)) ys:=by
   unfold guards
   by_cases hn:n<(bh ms).length
   ·have hr:(bh ms)[n]∈bh ms:=List.getElem_mem hn
    obtain⟨m,hm,hr⟩:=List.mem_flatMap.1 hr;have:=h m hm _ hr;simpa[List.getD_eq_getElem?_getD,hn]using this
   ·simp[List.getD_eq_getElem?_getD,hn]
  unfold dy;rw[e,xP.rows h n]
theorem lI:∀(n:Nat)(cs:List (List Int)),cs.length=n->∀l:List Int,l.length=n->(∀i (h:i<l.length) (h':i<cs.length),l[i]∈cs[i])->l∈combine cs
 |0,cs,hc,l,hl,_=>by
  grind[combine,List.length_eq_zero_iff]
 |n+1,cs,hc,l,hl,h=>by
  obtain⟨SO,c,rfl⟩:∃SO c,cs=SO++[c]:=by
   rcases List.eq_nil_or_concat cs with rfl|⟨a,b,e⟩
   all_goals grind
  obtain⟨l',x,rfl⟩:∃l' x,l=l'++[x]:=by
   rcases List.eq_nil_or_concat l with rfl|⟨a,b,e⟩
   all_goals grind
  simp only [List.length_append,List.length_cons,List.length_nil]at hc hl
  have ih:=lI n SO (by omega) l' (by omega) (λi h1 h2=>by
   have:=h i (by grind) (by grind)
   grind)
  have hx:=by
   have:=h n (by grind) (by grind);rw[List.getElem_append_right (by omega),List.getElem_append_right (by omega)]at this;simpa[]using this
  rw[fG];exact List.mem_flatMap.2 ⟨l',ih,List.mem_map.2 ⟨x,hx,rfl⟩⟩
structure Z3(vs:List az)(xs:List Int):Prop where
 len:xs.length=2*vs.length
 lo:∀i,i<2*vs.length->fj vs (i%vs.length)<=xs.getD i 0
 hi:∀i,i<2*vs.length->xs.getD i 0<=fT vs (i%vs.length)
theorem DL(vs:List az)(ms:List MA)(P:Nat->List Int)(vW:∀i,i<2*vs.length->fj vs (i%vs.length)∈P i)
  (hc:∀i,i<2*vs.length->∀c∈fH (bS vs ms) i,fj vs (i%vs.length)<c->c<=fT vs (i%vs.length)->c∈P i) (xs:List Int) (hx:Z3 vs xs) (hw:∀q∈bS vs ms,q.which<2*vs.length):
  ∃ys:List Int,ys.length=2*vs.length/\(∀i (h:i<ys.length),ys[i]∈P i)/\xP vs ms xs ys:=by
 classical
 have key:∀i,∃y,i<2*vs.length->y∈P i/\∀c∈fH (bS vs ms) i,(c<=xs.getD i 0↔c<=y):=by
  intro i
  by_cases hi:i<2*vs.length
  ·obtain⟨y,h1,h2⟩:=OG (vW i hi) (hc i hi) (hx.lo i hi) (hx.hi i hi)
   grind
  ·grind
 let f:Nat->Int:=λi=>Classical.choose (key i)
 have hf:∀i,i<2*vs.length->f i∈P i/\∀c∈fH (bS vs ms) i,(c<=xs.getD i 0↔c<=f i):=λi hi=>Classical.choose_spec (key i) hi
 refine⟨(List.range (2*vs.length)).map f,by simp,λi h=>?_,λm hm r hr=>?_⟩
 ·grind
 ·refine jt vs xs _ r.g (λq hq=>?_)
  have hqa:q∈bS vs ms:=List.mem_flatMap.2 ⟨r,List.mem_flatMap.2 ⟨m,hm,hr⟩,hq⟩
  grind[fH,bS,Hf]
theorem Hg(vs:List az)(ms:List MA)(xs:List Int)(hx:Z3 vs xs)(hw:∀q∈bS vs ms,q.which<2*vs.length):∃ys∈combine (bU vs ms),xP vs ms xs ys:=by
 obtain⟨ys,h1,h2,h3⟩:=DL vs ms (λi=>choice vs (bS vs ms) i) (λi _=>((kR _ _ _).2 _).2 (.inl rfl)) (λi _ c hcc h4 h5=>((kR _ _ _).2 _).2 (.inr ⟨hcc,h4,h5⟩)) xs hx hw;refine⟨ys,lI (2*vs.length) _ (by simp[bU]) ys h1 (λi h h'=>?_),h3⟩
 grind[bU]
end Cx
namespace Cx
def gB(vs:List az)(ms:List MA)(i:Nat)(xs:List Int):Int:=eA (placeOf ms i).2 (dy (guards vs ms) xs (guards vs ms).length)
theorem uU:∀(l:List Int)(x:Int),eA l x=0\/eA l x=6\/eA l x=7
 |[],_=>.inr (.inr rfl)
 |r::l,x=>by
  unfold eA;split
  ·exact uU l x
  omega
theorem jN:∀(n:Nat)(cs:List (List Int)),cs.length=n->∀l∈combine cs,l.length=n/\∀i (h:i<l.length) (h':i<cs.length),l[i]∈cs[i]
 |0,cs,hc,l,hl=>by
  rw[List.length_eq_zero_iff]at hc;subst hc;simp[combine]at hl;subst hl;exact⟨rfl,λi h=>by simp at h⟩
 |n+1,cs,hc,l,hl=>by
  obtain⟨SO,c,rfl⟩:∃SO c,cs=SO++[c]:=by
   rcases List.eq_nil_or_concat cs with rfl|⟨a,b,e⟩
   ·simp at hc
   ·exact⟨a,b,by simpa using e⟩
  rw[fG]at hl;obtain⟨l',hl',hx⟩:=List.mem_flatMap.1 hl;obtain⟨x,hx,rfl⟩:=List.mem_map.1 hx;simp only [List.length_append,List.length_cons,List.length_nil]at hc;obtain⟨h1,h2⟩:=jN n SO (by omega) l' hl';refine⟨by simp[h1],λi h h'=>?_⟩
  by_cases hi:i<l'.length
  ·rw[List.getElem_append_left hi,List.getElem_append_left (by omega)]
   exact h2 i hi (by omega)
  ·have tQ:i=n:=by simp at h;omega
   subst tQ;rw[List.getElem_append_right (by omega),List.getElem_append_right (by omega)];simpa[show i-l'.length=0 by omega,show i-SO.length=0 by omega]using hx
theorem Hh(vs:List az)(ms:List MA)(hv:∀i,i<vs.length->fj vs i<=fT vs i)(l:List Int)(hl:l∈combine (bU vs ms)):Z3 vs l:=by
 obtain⟨h1,h2⟩:=jN (2*vs.length) (bU vs ms) (by simp[bU]) l hl;have key:∀i,i<2*vs.length->fj vs (i%vs.length)<=l.getD i 0/\l.getD i 0<=fT vs (i%vs.length):=by
  intro i hi;have hm:=h2 i (by omega) (by grind[bU]);have e:(bU vs ms)[i]'(by grind)=choice vs (bS vs ms) i:=by simp[bU]
  rw[e]at hm;have hp:0<vs.length:=by omega
  have hlh:=hv (i%vs.length) (Nat.mod_lt _ hp);have e2:l.getD i 0=l[i]'(by omega):=by simp[show i<l.length by omega]
  rw[e2];rcases((kR _ _ _).2 _).1 hm with q|⟨_,q1,q2⟩
  ·omega
  ·omega
 exact⟨h1,λi hi=>(key i hi).1,λi hi=>(key i hi).2⟩
section
variable {vs:List az} {ms:List MA} (hv:∀i,i<vs.length->fj vs i<=fT vs i) (hw:∀q∈bS vs ms,q.which<2*vs.length)
theorem ug(h:xP vs ms xs ys)(i:Nat):gB vs ms i xs=gB vs ms i ys:=by
 unfold gB;rw[h.rows]
theorem xQ{code:Int}(h:dL code (places ms) (fk vs ms)=none):∀i∈leaves ms,∀l∈combine (bU vs ms),gB vs ms i l≠code:=by
 intro i hi l hl e;unfold dL at h;rw[List.findSome?_eq_none_iff]at h;have h1:=h _ (List.mem_map.2 ⟨i,hi,rfl⟩);rw[List.findSome?_eq_none_iff]at h1;have h2:=h1 _ (List.mem_map.2 ⟨l,hl,rfl⟩)
 simp_all[gB,eL]
theorem Hj{code:Int}(h:dL code (places ms) (fk vs ms)=some x):∃i∈leaves ms,x.1=nameOf ms i/\x.2∈combine (bU vs ms)/\gB vs ms i x.2=code:=by
 unfold dL at h;obtain⟨p,hp,h1⟩:=List.exists_of_findSome?_eq_some h;obtain⟨i,hi,rfl⟩:=List.mem_map.1 hp;obtain⟨s,hs,h2⟩:=List.exists_of_findSome?_eq_some h1;obtain⟨l,hl,rfl⟩:=List.mem_map.1 hs;unfold eL at h2;split at h2
 ·rename_i hj
  cases h2
  exact⟨i,hi,rfl,hl,hj⟩
 ·cases h2
include hw in
theorem zy(h:find vs ms=none):∀i∈leaves ms,∀xs,Z3 vs xs->gB vs ms i xs=0:=by
 intro i hi xs hx;unfold find at h;have h6:dL 6 (places ms) (fk vs ms)=none:=by
  cases hf:dL 6 (places ms) (fk vs ms)with
  |none=>rfl
  |some x=>grind
 rw[h6]at h;have h7:dL 7 (places ms) (fk vs ms)=none:=by
  cases hf:dL 7 (places ms) (fk vs ms)with
  |none=>rfl
  |some x=>grind
 obtain⟨ys,hy,hs⟩:=Hg vs ms xs hx hw;rw[ug hs i];have a:=xQ h6 i hi ys hy;have b:=xQ h7 i hi ys hy;rcases uU (placeOf ms i).2 (dy (guards vs ms) ys (guards vs ms).length)with q|q|q
 ·exact q
 ·exact absurd q a
 ·exact absurd q b
include hv hw in
theorem qx{code:Int}(h:find vs ms=some (code,x)):(code=6\/code=7)/\(∃i∈leaves ms,x.1=nameOf ms i/\Z3 vs x.2/\gB vs ms i x.2=code)/\(code=7->∀i∈leaves ms,∀xs,Z3 vs xs->gB vs ms i xs≠6):=by
 unfold find at h
 cases hf:dL 6 (places ms) (fk vs ms)with
 |some y=>
  rw[hf]at h;simp only [Option.some.injEq,Prod.mk.injEq]at h;obtain⟨rfl,rfl⟩:=h;obtain⟨i,hi,h1,h2,h3⟩:=Hj hf;exact⟨.inl rfl,⟨i,hi,h1,Hh vs ms hv _ h2,h3⟩,λe=>by omega⟩
 |none=>
  rw[hf]at h;simp only [Option.map_eq_some_iff]at h;obtain⟨y,hy,e⟩:=h;simp only [Prod.mk.injEq]at e;obtain⟨rfl,rfl⟩:=e;obtain⟨i,hi,h1,h2,h3⟩:=Hj hy;refine⟨.inr rfl,⟨i,hi,h1,Hh vs ms hv _ h2,h3⟩,λ_ i' qe xs hx e=>?_⟩;obtain⟨ys,hys,hs⟩:=Hg vs ms xs hx hw;rw[ug hs i']at e
  grind[xQ]
end
def j8:List Nat->Int
 |[]=>7
 |n::l=>if n=0 then j8 l else if n=1 then 0 else 6
def nk(vs:List az)(ms:List MA)(j:Nat)(xs:List Int):Nat:=((rowsOf ms j).filter (λr=>eval vs r.g xs)).length
theorem xR(vs:List az)(ms:List MA)(xs:List Int)(h:(dD ms).length<=32):∀p:List Nat,eA (p.map λj=>setOf ms (nameOf ms j)) (dy (guards vs ms) xs (guards vs ms).length)=j8 (p.map λj=>xS vs ms (nameOf ms j) xs)
 |[]=>rfl
 |j::p=>by
  rw[List.map_cons,K6 vs ms _ xs _ h,xR vs ms xs h p];rfl
theorem Hk(vs:List az)(xs:List Int):∀(ms:List MA),(ms.map (·.name.s)).Nodup->∀j,j<ms.length->xS vs ms (nameOf ms j) xs=nk vs ms j xs
 |[],_,j,hj=>by simp at hj
 |m::ms,hn,j,hj=>by
  rw[List.map_cons,List.nodup_cons]at hn;have SP:∀x,xS vs (m::ms) x xs=((m.rows.filter λr=>decide (m.name.s=x)&&eval vs r.g xs)).length+xS vs ms x xs:=by
   intro x;unfold xS;have e:dD (m::ms)=(m.rows.map λr=>(m.name.s,r))++dD ms:=by simp[dD]
   rw[e,List.filter_append,List.length_append,List.filter_map,List.length_map];rfl
  have hzero:∀x,x∉ms.map (·.name.s)->xS vs ms x xs=0:=by
   intro x hx;unfold xS;rw[List.length_eq_zero_iff,List.filter_eq_nil_iff];intro p hp;obtain⟨m',F4,hp⟩:=List.mem_flatMap.1 hp;obtain⟨r,_,rfl⟩:=List.mem_map.1 hp;have:¬m'.name.s=x:=λe=>hx (List.mem_map.2 ⟨m',F4,e⟩)
   simp[this]
  cases j with
  |zero=>
   have e:nameOf (m::ms) 0=m.name.s:=rfl;rw[e,SP,hzero _ hn.1];unfold nk rowsOf;simp
  |succ j=>
   have hj':j<ms.length:=by simpa using hj
   have e:nameOf (m::ms) (j+1)=nameOf ms j:=by simp[nameOf]
   have ht:nk vs (m::ms) (j+1) xs=nk vs ms j xs:=by simp[nk,rowsOf]
   have hm:nameOf ms j∈ms.map (·.name.s):=by
    unfold nameOf;rw[List.getElem?_eq_getElem hj'];exact List.mem_map.2 ⟨_,List.getElem_mem hj',rfl⟩
   have hne:¬m.name.s=nameOf ms j:=λq=>hn.1 (by rw[q];exact hm)
   rw[e,SP,ht,Hk vs xs ms hn.2 j hj'];simp[hne]
theorem xT(vs:List az)(ms:List MA)(h:(dD ms).length<=32)(hn:(ms.map (·.name.s)).Nodup)(i:Nat)(hp:∀j∈path ms i,j<ms.length)(xs:List Int):gB vs ms i xs=j8 ((path ms i).map λj=>nk vs ms j xs):=by
 grind[List.map_congr_left,Hk,xR,gB,placeOf]
end Cx
end
section
open Hx
namespace Cx
abbrev PK:=Bool×Nat×Int
def EL(lo:Int)(K:List PK)(v:Nat)(was:Bool)(n:Int):Bool:=n==lo||K.any λk=>k.1==was&&k.2.1==v&&(n==k.2.2||n==k.2.2+1)
def EM(vs:List az)(K:List PK)(v:Nat)(was:Bool):List Int:=((List.range (fT vs v-fj vs v+1).toNat).map λ(d:Nat)=>fj vs v+(d:Int)).filter (EL (fj vs v) K v was)
theorem su{K:List PK}{v:Nat}{was:Bool}{n:Int}:n∈EM vs K v was↔(fj vs v<=n/\n<=fT vs v)/\EL (fj vs v) K v was n=true:=by
 unfold EM;rw[List.mem_filter,List.mem_map];constructor
 ·grind
 ·rintro⟨⟨h1,h2⟩,h⟩
  exact⟨⟨(n-fj vs v).toNat,List.mem_range.2 (by omega),by omega⟩,h⟩
def bM(vs:List az)(K:List PK)(was:Bool):List (List Int):=combine ((List.range vs.length).map λv=>EM vs K v was)
def mA(vs:List az)(K:List PK):List (List Int):=(bM vs K true).flatMap λl=>(bM vs K false).map λm=>l++m
def Nc(vs:List az)(ms:List MA)(K:List PK):Int:=
 if(leaves ms).any (λi=>(mA vs K).any λl=>decide (gB vs ms i l=6))then 6
 else if(leaves ms).any (λi=>(mA vs K).any λl=>decide (gB vs ms i l=7))then 7 else 0
theorem afh(vs:List az)(was:Bool)(nm op num:Hx.Tok):∀c∈(nQ vs was nm op num).jh,c=num.n\/c=num.n+1:=by
 intro c hc;unfold Q.jh nQ at hc;simp only at hc
 by_cases h1:(fx op.s [61,61]||fx op.s [33,61])=true
 ·rw[if_pos h1]at hc
  have h2:¬(fx op.s [60,61]||fx op.s [62])=true:=by
   simp only [fx,Bool.or_eq_true,beq_iff_eq]at h1|-;rintro(q|q)<;>rcases h1 with p|p<;>rw[q]at p<;>simp at p
  grind
 grind
def KeysOf(vs:List az)(ms:List MA)(K:List PK):Prop:=∀q∈bS vs ms,∃was nm op num,q=nQ vs was nm op num/\dY vs nm.s<vs.length/\(was,dY vs nm.s,num.n)∈K
theorem SQ(vs:List az)(K:List PK)(l:List Int)(h:l∈mA vs K):Z3 vs l:=by
 obtain⟨a,ha,h⟩:=List.mem_flatMap.1 h;obtain⟨b,hb,rfl⟩:=List.mem_map.1 h;obtain⟨a1,a2⟩:=jN vs.length _ (by simp) a ha;obtain⟨b1,b2⟩:=jN vs.length _ (by simp) b hb;have key:∀i,i<2*vs.length->fj vs (i%vs.length)<=(a++b).getD i 0/\(a++b).getD i 0<=fT vs (i%vs.length):=by
  intro i hi
  by_cases h1:i<vs.length
  ·grind[su,Nat.mod_eq_of_lt,List.getElem?_append_left]
  ·grind[su,Nat.mod_eq_sub_mod,Nat.mod_eq_of_lt,List.getElem?_append_right]
 exact⟨by grind,λi hi=>(key i hi).1,λi hi=>(key i hi).2⟩
theorem SU{ms:List MA}{K:List PK}(hK:KeysOf vs ms K)(xs:List Int)(hx:Z3 vs xs):∃ys∈mA vs K,xP vs ms xs ys:=by
 have hw:∀q∈bS vs ms,q.which<2*vs.length:=by
  intro q hq;obtain⟨was,nm,op,num,rfl,h1,_⟩:=hK q hq;simp only [nQ];split<;>omega
 obtain⟨ys,h1,h2,h3⟩:=DL vs ms (λi=>EM vs K (i%vs.length) (decide (i<vs.length))) (λi hi=>su.2 ⟨⟨Int.le_refl _,Int.le_trans (hx.lo i hi) (hx.hi i hi)⟩,by simp[EL]⟩) (λi hi c hc vW Nd=>by
  refine su.2 ⟨by omega,?_⟩;obtain⟨q,hq,hcq⟩:=List.mem_flatMap.1 hc;obtain⟨hqa,hqw⟩:=List.mem_filter.1 hq;obtain⟨was,nm,op,num,rfl,kz,hk⟩:=hK q hqa;have Z4:=by simpa[nQ]using hqw
  have hcc:=afh vs was nm op num c hcq;unfold EL;rw[Bool.or_eq_true]
  grind[dY,Nat.mod_eq_of_lt,decide_eq_true,Nat.add_mod_right,decide_eq_false,List.any_eq_true]) xs hx hw
 refine⟨ys,?_,h3⟩;have e:ys=ys.take vs.length++ys.drop vs.length:=(List.take_append_drop _ _).symm;rw[e];refine List.mem_flatMap.2 ⟨_,lI vs.length _ (by simp) _ (by grind) (λi h h'=>?_),List.mem_map.2 ⟨_,lI vs.length _ (by simp) _ (by grind) (λi h h'=>?_),rfl⟩⟩
 ·have hi:=by simpa using h'
  have:=h2 i (by omega)
  grind[Nat.mod_eq_of_lt,decide_eq_true]
 ·have hi:=by simpa using h'
  have:=h2 (vs.length+i) (by omega);rw[Nat.add_mod_left,Nat.mod_eq_of_lt hi,decide_eq_false (by omega)]at this
  grind
theorem OH{ms:List MA}{K:List PK}(hv:∀i,i<vs.length->fj vs i<=fT vs i)(hK:KeysOf vs ms K):Nc vs ms K=match find vs ms with|none=>0|some x=>x.1:=by
 have hw:∀q∈bS vs ms,q.which<2*vs.length:=by
  intro q hq;obtain⟨was,nm,op,num,rfl,h1,_⟩:=hK q hq;simp only [nQ];split<;>omega
 have EO:∀code:Int,((leaves ms).any (λi=>(mA vs K).any λl=>decide (gB vs ms i l=code))=true)↔∃i∈leaves ms,∃xs,Z3 vs xs/\gB vs ms i xs=code:=by
  intro code;rw[List.any_eq_true];constructor
  ·rintro⟨i,hi,h⟩
   obtain⟨l,hl,h⟩:=List.any_eq_true.1 h;exact⟨i,hi,l,SQ vs K l hl,of_decide_eq_true h⟩
  ·grind[List.any_eq_true,decide_eq_true,ug,SU]
 unfold Nc
 cases hf:find vs ms with
 |none=>
  have h0:=zy hw hf
  simp_all[if_neg]
 |some cx=>
  obtain⟨code,x⟩:=cx;obtain⟨hc,⟨i,hi,_,h2,h3⟩,h4⟩:=qx hv hw hf;rcases hc with rfl|rfl
  ·rw[if_pos ((EO 6).2 ⟨i,hi,x.2,h2,h3⟩)]
  ·rw[if_neg (λh=>by obtain⟨i,hi,xs,hx,e⟩:=(EO 6).1 h;grind),if_pos ((EO 7).2 ⟨i,hi,x.2,h2,h3⟩)]
end Cx
namespace Cx
def fc(L:List Hx.Tok)(m:List UInt8):Option (List Hx.Tok):=match L with
 |t::r=>if(t.s.toList==m)&& !(t.k==110)then some r else none
 |[]=>none
def EP(vs:List az)(xs:List Int)(was:Bool)(nm op num:Hx.Tok):Bool:=
 let n:=xs.getD (dY vs nm.s+(if was then 0 else vs.length)) 0
 if fx op.s [60]then decide (n<num.n)else if fx op.s [60,61]then decide (n<=num.n)else if fx op.s [61,61]then n==num.n
 else if fx op.s [33,61]then n !=num.n else if fx op.s [62,61]then decide (num.n<=n)else decide (num.n<n)
def atJ(vs:List az)(xs:List Int)(was:Bool):List Hx.Tok->Option (Bool×List Hx.Tok)
 |n::o::i::r=>if n.k=110 then some (EP vs xs was n o i,r)else none
 |_=>none
inductive JM where
 |one
 |all
 |uh (b:Bool)
 |any
 |ui (b:Bool)
def jx(vs:List az)(xs:List Int):Nat->JM->List Hx.Tok->Option (Bool×List Hx.Tok)
 |0,_,_=>none
 |f+1,.one,L=>match fc L eK with
  |some r=>(jx vs xs f .one r).map λp=>(!p.1,p.2)
  |none=>match fc L dQ with
   |some r=>some (true,r)
   |none=>match fc L jY with
    |some r=>(jx vs xs f .any r).map λp=>(p.1,(fc p.2 qU).getD p.2)
    |none=>match fc L ew with
     |some l=>atJ vs xs true l
     |none=>atJ vs xs false L
 |f+1,.all,L=>(jx vs xs f .one L).bind λp=>jx vs xs f (.uh p.1) p.2
 |f+1,.uh b,L=>match fc L gY with
  |some r=>(jx vs xs f .one r).bind λp=>jx vs xs f (.uh (b&&p.1)) p.2
  |none=>some (b,L)
 |f+1,.any,L=>(jx vs xs f .all L).bind λp=>jx vs xs f (.ui p.1) p.2
 |f+1,.ui b,L=>match fc L qh with
  |some r=>(jx vs xs f .all r).bind λp=>jx vs xs f (.ui (b||p.1)) p.2
  |none=>some (b,L)
theorem i6(vs:List az)(xs:List Int):∀f m L R,jx vs xs f m L=some R->jx vs xs (f+1) m L=some R
 |0,_,_,_,h=>by simp[jx]at h
 |f+1,.one,L,R,h=>by
  unfold jx at h|-;split at h
  ·rw[Option.map_eq_some_iff]at h|-
   obtain⟨p,hp,e⟩:=h;exact⟨p,i6 vs xs f _ _ _ hp,e⟩
  ·split at h
   ·exact h
   ·split at h
    ·rw[Option.map_eq_some_iff]at h|-
     obtain⟨p,hp,e⟩:=h;exact⟨p,i6 vs xs f _ _ _ hp,e⟩
    ·exact h
 |f+1,.all,L,R,h=>by
  unfold jx at h|-;rw[Option.bind_eq_some_iff]at h|-;obtain⟨p,hp,e⟩:=h;exact⟨p,i6 vs xs f _ _ _ hp,i6 vs xs f _ _ _ e⟩
 |f+1,.uh b,L,R,h=>by
  unfold jx at h|-;split at h
  ·rw[Option.bind_eq_some_iff]at h|-
   obtain⟨p,hp,e⟩:=h;exact⟨p,i6 vs xs f _ _ _ hp,i6 vs xs f _ _ _ e⟩
  ·exact h
 |f+1,.any,L,R,h=>by
  unfold jx at h|-;rw[Option.bind_eq_some_iff]at h|-;obtain⟨p,hp,e⟩:=h;exact⟨p,i6 vs xs f _ _ _ hp,i6 vs xs f _ _ _ e⟩
 |f+1,.ui b,L,R,h=>by
  unfold jx at h|-;split at h
  ·rw[Option.bind_eq_some_iff]at h|-
   obtain⟨p,hp,e⟩:=h;exact⟨p,i6 vs xs f _ _ _ hp,i6 vs xs f _ _ _ e⟩
  ·exact h
theorem sw(vs:List az)(xs:List Int){f:Nat}{m:JM}(h:jx vs xs f m L=some R):∀k,jx vs xs (f+k) m L=some R
 |0=>h
 |k+1=>i6 vs xs _ _ _ _ (sw vs xs h k)
def Jx(vs:List az)(xs:List Int)(m:JM)(L:List Hx.Tok)(b:Bool)(L':List Hx.Tok):Prop:=∃f,jx vs xs f m L=some (b,L')
theorem Hl(vs:List az)(xs:List Int)(was:Bool)(nm op num:Hx.Tok)(h:op.s.toList∈rT):EP vs xs was nm op num=(nQ vs was nm op num).answer xs:=by
 unfold EP nQ Q.answer fx;simp only;generalize xs.getD (dY vs nm.s+if was=true then 0 else vs.length) 0=n;generalize num.n=c;generalize op.s.toList=o at h;simp only [rT,List.mem_cons,List.not_mem_nil,or_false]at h;rcases h with rfl|rfl|rfl|rfl|rfl|rfl
 ·simp
 ·simp;omega
 all_goals grind
def uj:List (List UInt8):=[eK,dQ,jY,qU,ew,gY,qh]
def xU(t:Hx.Tok):Prop:=∀m∈uj,((t.s.toList==m)&& !(t.k==110))=aq t m
theorem np(h:xU t)(hm:m∈uj)(e:aq t m=true):fc (t::r) m=some r:=by
 show(if((t.s.toList==m)&& !(t.k==110))=true then some r else none)=_;rw[h m hm,e];rfl
theorem rh(h:xU t)(hm:m∈uj)(e:aq t m=false):fc (t::r) m=none:=by
 show(if((t.s.toList==m)&& !(t.k==110))=true then some r else none)=_;rw[h m hm,e];rfl
theorem sx(h:t.k=110):fc (t::r) m=none:=by
 grind[fc]
theorem dE{m':List UInt8}(h:aq t m=true)(hne:m≠m'):aq t m'=false:=by
 simp_all[Bool.and_eq_true,aq]
theorem gD{g:G}(h:jG d l g l'):∃p,l=p++l':=by
 induction h with
 |@gZ t r h=>exact⟨[t],rfl⟩
 |@not t r r' g h d ih=>grind
 |@group t p r r' g h d hp ih=>obtain⟨q,rfl⟩:=ih;exact⟨t::(q++[p]),by simp⟩
 |@uV n o i r ok=>exact⟨[n,o,i],rfl⟩
 |@uW w n o i r ok=>exact⟨[w,n,o,i],rfl⟩
 |c0 d ih=>exact ih
 |@c1 l m l' a g h d ha e Kf wK=>grind
 |c2 d ha ih=>exact ih
 |g0 d ih=>exact ih
 |@g1 l m l' a g h d ha e Kf wK=>grind
 |g2 d ha ih=>exact ih
theorem Jx.all(h:Jx vs xs .one L b M)(k:∃f,jx vs xs f (.uh b) M=some R):∃f,jx vs xs f .all L=some R:=by
 obtain⟨f,h⟩:=h;obtain⟨e,k⟩:=k;refine⟨f+e+1,?_⟩;unfold jx;rw[sw vs xs h e];rw[Nat.add_comm f e];exact sw vs xs k f
theorem Jx.uh(hm:fc L gY=some M)(h:Jx vs xs .one M c N)(k:∃f,jx vs xs f (.uh (b&&c)) N=some R):∃f,jx vs xs f (.uh b) L=some R:=by
 obtain⟨f,h⟩:=h;obtain⟨e,k⟩:=k;refine⟨f+e+1,?_⟩;unfold jx;rw[hm];simp only;rw[sw vs xs h e,Nat.add_comm f e];exact sw vs xs k f
theorem Jx.any(h:Jx vs xs .all L b M)(k:∃f,jx vs xs f (.ui b) M=some R):∃f,jx vs xs f .any L=some R:=by
 obtain⟨f,h⟩:=h;obtain⟨e,k⟩:=k;refine⟨f+e+1,?_⟩;unfold jx;rw[sw vs xs h e];rw[Nat.add_comm f e];exact sw vs xs k f
theorem Jx.ui(hm:fc L qh=some M)(h:Jx vs xs .all M c N)(k:∃f,jx vs xs f (.ui (b||c)) N=some R):∃f,jx vs xs f (.ui b) L=some R:=by
 obtain⟨f,h⟩:=h;obtain⟨e,k⟩:=k;refine⟨f+e+1,?_⟩;unfold jx;rw[hm];simp only;rw[sw vs xs h e,Nat.add_comm f e];exact sw vs xs k f
def JD(vs:List az)(xs:List Int)(d:Nat)(L:List Hx.Tok)(g:G)(L':List Hx.Tok):Prop:=
 if d=0 then Jx vs xs .one L (eval vs g xs) L'
 else if d=1 then∀R,(∃f,jx vs xs f (.uh (eval vs g xs)) L'=some R)->∃f,jx vs xs f .all L=some R
 else if d=2 then Jx vs xs .all L (eval vs g xs) L'
 else if d=3 then∀R,(∃f,jx vs xs f (.ui (eval vs g xs)) L'=some R)->∃f,jx vs xs f .any L=some R
 else Jx vs xs .any L (eval vs g xs) L'
theorem cancel{L' p:List Hx.Tok}(h:L++rest=p++(L'++rest)):L=p++L':=by
 grind[List.append_cancel_right,List.append_assoc]
theorem Nf{m:List Hx.Tok}{a:Hx.Tok}{k:List UInt8}(hk:k∈uj)(h:L++rest=a::m)(hL:∀t∈L,xU t)(ha:aq a k=false):fc L k=none:=by
 cases L with
 |nil=>rfl
 |cons t L=>
  simp only [List.cons_append,List.cons.injEq]at h;obtain⟨rfl,_⟩:=h;exact rh (hL t (by simp)) hk ha
theorem K7(vs:List az)(xs:List Int){g:G}(h:jG d l g l'):∀rest L L',l=L++rest->l'=L'++rest->(∀t∈L,xU t)->JD vs xs d L g L':=by
 induction h with
 |@gZ t r ht=>
  intro rest L L' e e' hL;have hc:L=[t]++L':=cancel (rest:=rest) (by rw[<-e,e'];rfl);subst hc;have hM:=hL t (by simp);refine⟨1,?_⟩;show jx vs xs 1 .one (t::L')=_;unfold jx;rw[rh hM (by decide) (dE ht (by decide)),np hM (by decide) ht];rfl
 |@not t r r' g ht d ih=>
  intro rest L L' e e' hL;obtain⟨p,hp⟩:=gD d;have hc:L=[t]++(p++L'):=by
   have:=cancel (L:=L) (L':=L') (p:=t::p) (rest:=rest) (by rw[<-e,hp,e'];simp);simpa using this
  subst hc;have hM:=hL t (by simp);obtain⟨f,hf⟩:=ih rest (p++L') L' (by rw[hp,e'];simp) e' (λu hu=>hL u (by simp at hu|-;exact .inr hu));refine⟨f+1,?_⟩;show jx vs xs (f+1) .one (t::(p++L'))=_;unfold jx;rw[np hM (by decide) ht];simp only;rw[hf];rfl
 |@group t q r r' g ht d hq ih=>
  intro rest L L' e e' hL;obtain⟨p,hp⟩:=gD d;have hc:L=[t]++(p++q::L'):=by
   have:=cancel (L:=L) (L':=L') (p:=t::(p++[q])) (rest:=rest) (by rw[<-e,hp,e'];simp);simpa using this
  subst hc;have hM:=hL t (by simp);have hMq:=hL q (by simp);obtain⟨f,hf⟩:=ih rest (p++q::L') (q::L') (by rw[hp,e'];simp) (by rw[e'];rfl) (λu hu=>hL u (by simp at hu|-;exact .inr hu));refine⟨f+1,?_⟩;show jx vs xs (f+1) .one (t::(p++q::L'))=_;unfold jx;rw[rh hM (by decide) (dE ht (by decide)),rh hM (by decide) (dE ht (by decide)),np hM (by decide) ht];simp only;rw[hf];simp only [Option.map_some];rw[np hMq (by decide) hq];rfl
 |@uV n o i r ok=>
  intro rest L L' e e' hL;have hc:L=[n,o,i]++L':=cancel (rest:=rest) (by rw[<-e,e'];rfl);subst hc;refine⟨1,?_⟩;show jx vs xs 1 .one (n::o::i::L')=_;unfold jx;rw[sx ok.nm,sx ok.nm,sx ok.nm,sx ok.nm];simp only [atJ];rw[if_pos ok.nm,Hl vs xs false n o i ok.six];rfl
 |@uW w n o i r ok=>
  intro rest L L' e e' hL;have hc:L=[w,n,o,i]++L':=cancel (rest:=rest) (by rw[<-e,e'];rfl);subst hc;have hM:=hL w (by simp);have hw:aq w ew=true:=by
   obtain⟨a1,a2⟩:=ok.was w rfl;unfold aq;rw[a1,a2];decide
  refine⟨1,?_⟩;show jx vs xs 1 .one (w::n::o::i::L')=_;unfold jx;rw[rh hM (by decide) (dE hw (by decide)),rh hM (by decide) (dE hw (by decide)),rh hM (by decide) (dE hw (by decide)),np hM (by decide) hw];simp only [atJ];rw[if_pos ok.nm,Hl vs xs true n o i ok.six];rfl
 |@c0 l l' g d ih=>
  intro rest L L' e e' hL R hR;exact Jx.all (ih rest L L' e e' hL) hR
 |@c1 l m l' a g h d ha e2 Kf wK=>
  intro rest L L' e e' hL R hR;obtain⟨p,hp⟩:=gD d;obtain⟨q,hq⟩:=gD e2;have hc:L=p++a::(q++L'):=by
   have:=cancel (L:=L) (L':=L') (p:=p++a::q) (rest:=rest) (by rw[<-e,hp,hq,e'];simp);simpa using this
  subst hc;refine Kf rest _ (a::(q++L')) e (by rw[hq,e'];simp) hL R ?_;exact Jx.uh (np (hL a (by simp)) (by decide) ha) (wK rest (q++L') L' (by rw[hq,e'];simp) e' (λu hu=>hL u (by simp at hu|-;exact .inr (.inr hu)))) hR
 |@c2 l m a g d ha ih=>
  intro rest L L' e e' hL;obtain⟨p,hp⟩:=gD d;have hc:L=p++L':=cancel (rest:=rest) (by rw[<-e,hp,e']);refine ih rest L L' e e' hL _ ⟨1,?_⟩;unfold jx;rw[Nf (by decide) e'.symm (λu hu=>hL u (by rw[hc];simp[hu])) ha]
 |@g0 l l' g d ih=>
  intro rest L L' e e' hL R hR;exact Jx.any (ih rest L L' e e' hL) hR
 |@g1 l m l' a g h d ha e2 Kf wK=>
  intro rest L L' e e' hL R hR;obtain⟨p,hp⟩:=gD d;obtain⟨q,hq⟩:=gD e2;have hc:L=p++a::(q++L'):=by
   have:=cancel (L:=L) (L':=L') (p:=p++a::q) (rest:=rest) (by rw[<-e,hp,hq,e'];simp);simpa using this
  subst hc;refine Kf rest _ (a::(q++L')) e (by rw[hq,e'];simp) hL R ?_;exact Jx.ui (np (hL a (by simp)) (by decide) ha) (wK rest (q++L') L' (by rw[hq,e'];simp) e' (λu hu=>hL u (by simp at hu|-;exact .inr (.inr hu)))) hR
 |@g2 l m a g d ha ih=>
  intro rest L L' e e' hL;obtain⟨p,hp⟩:=gD d;have hc:L=p++L':=cancel (rest:=rest) (by rw[<-e,hp,e']);refine ih rest L L' e e' hL _ ⟨1,?_⟩;unfold jx;rw[Nf (by decide) e'.symm (λu hu=>hL u (by rw[hc];simp[hu])) ha]
theorem OJ(vs:List az)(xs:List Int){g:G}(h:jG 4 (L++rest) g rest)(hL:∀t∈L,xU t):Jx vs xs .any L (eval vs g xs) []:=
 K7 vs xs h rest L [] rfl rfl hL
