/- When a program is right: said of the ways through it; the scan from its first byte to its last finds just that; nothing of the program is asked here. -/
import Derived.Test.YtdjaiolfdbamcaaGreatDoorZMRa
namespace Go.Proofs.YtdjaiolfdbamcaaGreatDoor
variable {c i j k n numbers q t:Nat}{l:List Nat}
section
namespace Mx
inductive Cut(p:List UInt8):Nat->List Nat->Prop
 |nil:Cut p p.length []
 |cons {k:Nat} {s:Shape} {l:List Nat} (hk:k<p.length) (hs:shapeOf (p.getD k 0)=some s) (hl:k+1+s.width<=p.length) (h:Cut p (k+1+s.width) l):Cut p k (k::l)
theorem Cut.ge{p:List UInt8}(h:Cut p k l):∀j∈l,k<=j/\j<p.length:=by
 induction h<;>grind
theorem Cut.nodup{p:List UInt8}(h:Cut p k l):l.Nodup:=by
 induction h with
 |nil=>simp
 |cons hk hs hl h ih=>exact List.nodup_cons.2 ⟨λhm=>by have:=h.ge _ hm;omega,ih⟩
theorem Cut.shape{p:List UInt8}(h:Cut p k l):∀j∈l,∃s,shapeOf (p.getD j 0)=some s/\j+1+s.width<=p.length:=by
 induction h<;>grind
inductive Rl(p:List UInt8)(k c:Nat):Nat->Nat->Prop
 |next {s:Shape} (hs:shapeOf (p.getD k 0)=some s) (he:s.ends=false):Rl p k c (k+1+s.width) (c-s.takes+s.qJ)
 |skip {s:Shape} (hs:shapeOf (p.getD k 0)=some s) (h2:p.getD k 0=2):Rl p k c (k+1+s.width+two (p.getD (k+1) 0) (p.getD (k+2) 0)) (c-s.takes+s.qJ)
theorem Rl.lt{p:List UInt8}{k' c':Nat}(h:Rl p k c k' c'):k<k':=by cases h<;>omega
inductive Way(p:List UInt8)(a:Aw):Nat->Nat->Prop
 |base {k c:Nat} (h:a.get k=some c):Way p a k c
 |suc {k c k' c':Nat} (h:Way p a k c) (hs:Rl p k c k' c'):Way p a k' c'
structure May(p:List UInt8)(leaves numbers k c:Nat):Prop where
 shape:∃s,shapeOf (p.getD k 0)=some s/\s.takes<=c/\c-s.takes+s.qJ<=32
 named:named p leaves numbers k=true
structure wW(p:List UInt8)(leaves numbers:Nat)(l:List Nat):Prop where
 cut:Cut p 0 l
 some:l≠[]
 may:∀k c,Way p [(0,0)] k c->k∈l/\May p leaves numbers k c
 one:∀k c c',Way p [(0,0)] k c->Way p [(0,0)] k c'->c=c'
 all:∀k∈l,∃c,Way p [(0,0)] k c
theorem tP{b:UInt8}{s:Shape}(hs:shapeOf b=some s)(he:s.ends=true):s.qJ=0/\b≠2:=by
 unfold shapeOf at hs
 grind
theorem NY{p:List UInt8}{leaves at_ b:Nat}{a a3:Aw}(h:jV p leaves numbers at_ a=some (b,a3))(QL:∀k d,a.get k=some d->d<=32):
  ∃s c,shapeOf (p.getD at_ 0)=some s/\a.get at_=some c/\b=at_+1+s.width/\b<=p.length/\May p leaves numbers at_ c/\(∀k d,k≠at_->a.get k=some d->a3.get k=some d)/\(∀k d,Rl p at_ c k d->a3.get k=some d)/\(∀k d,a3.get k=some d->(a.get k=some d\/Rl p at_ c k d)/\d<=32):=by
 unfold jV at h;split at h
 ·rename_i s c hs hc
  split at h
  ·cases h
  ·rename_i hno
   have aiy:at_+1+s.width<=p.length:=by omega
   have aiz:s.takes<=c:=by omega
   have aiA:named p leaves numbers at_=true:=by
    cases hx:named p leaves numbers at_ with
    |true=>rfl
    |false=>grind
   have aeB:∀k d,(a.del at_).get k=some d->k≠at_/\a.get k=some d:=by
    intro k d hk;rw[Aw.Er]at hk;split at hk
    ·cases hk
    ·grind
   have wX:∀k d,k≠at_->a.get k=some d->(a.del at_).get k=some d:=by
    intro k d hk hd;rw[Aw.Er,if_neg hk];exact hd
   split at h
   ·rename_i he
    cases h
    have aoa:c-s.takes+s.qJ<=32:=by
     have aob:=QL _ _ hc;have:=(tP hs he).1;omega
    refine⟨s,c,hs,hc,rfl,aiy,⟨⟨s,hs,aiz,aoa⟩,aiA⟩,wX,?_,?_⟩
    ·intro k d Km
     exfalso
     cases Km<;>grind[tP]
    grind
   ·rename_i he
    have Zc:=by simpa using he
    split at h
    ·rename_i a2 ha2
     rw[Option.map_eq_some_iff]at h;obtain⟨a4,h4,e4⟩:=h
     cases e4
     obtain⟨g1,g2⟩:=wY h4;obtain⟨g32,g3,_⟩:=po h4;have aeD:∀k d,(a.del at_).get k=some d->a2.get k=some d:=by
      intro k d hk;split at ha2
      ·exact(wY ha2).2 k d hk
      ·grind
     have Rm:∀k d,a2.get k=some d->a.get k=some d\/Rl p at_ c k d:=by
      intro k d hk;split at ha2
      ·rename_i h2
       obtain⟨_,q3,_⟩:=po ha2;rw[q3,Aw.rJ]at hk;split at hk
       ·rename_i e;cases hk;subst e;exact .inr (.skip hs h2)
       grind
      ·grind
     have amG:∀k d,a2.get k=some d->d<=32:=by
      intro k d hk;split at ha2
      ·rename_i h2
       obtain⟨_,q3,_⟩:=po ha2
       grind[Aw.rJ]
      ·grind
     refine⟨s,c,hs,hc,rfl,aiy,⟨⟨s,hs,aiz,g32⟩,aiA⟩,λk d hk hd=>g2 _ _ (aeD _ _ (wX k d hk hd)),?_,?_⟩
     ·intro k d Km
      cases Km with
      |next J2 _=>grind
      |skip J2 h2=>
       rw[hs]at J2;cases J2;rw[if_pos h2]at ha2
       grind[wY]
     ·intro k d hk
      rw[g3,Aw.rJ]at hk;split at hk
      ·rename_i e;cases hk;subst e;exact⟨.inr (.next hs Zc),g32⟩
      grind
    ·cases h
 ·cases h
theorem Rn{p:List UInt8}{a b:Aw}(h:∀k c,b.get k=some c->Way p a k c):∀k c,Way p b k c->Way p a k c:=by
 intro k c hw
 induction hw with
 |base h'=>grind
 |suc _ hs ih=>exact .suc ih hs
theorem Kn(p:List UInt8)(leaves numbers:Nat):∀f at_ (a:Aw),at_<=p.length->(∀k d,a.get k=some d->d<=32)->qL p leaves numbers f at_ a=true->
  ∃V:List (Nat×Nat),Cut p at_ (V.map (·.1))/\(∀k c,a.get k=some c->(k,c)∈V)/\(∀q∈V,May p leaves numbers q.1 q.2/\(∀k c,Rl p q.1 q.2 k c->(k,c)∈V)/\Way p a q.1 q.2):=by
 intro f
 induction f with
 |zero=>intro at_ a _ _ h;cases h
 |succ f ih=>
  intro at_ a hle QL h;simp only [qL]at h;split at h
  ·rename_i hk
   split at h
   ·rename_i b a3 hg
    obtain⟨s,c,hs,hc,rfl,hb,aoc,wX,Km,Rm⟩:=NY hg QL;obtain⟨V,hcut,tQ,hV⟩:=ih _ a3 hb (λk d hd=>(Rm k d hd).2) h;refine⟨(at_,c)::V,.cons hk hs hb hcut,?_,?_⟩
    ·grind
    ·intro q hq
     rcases List.mem_cons.1 hq with rfl|hq
     ·exact⟨aoc,λk d J2=>List.mem_cons_of_mem _ (tQ _ _ (Km k d J2)),.base hc⟩
     ·obtain⟨h1,h2,h3⟩:=hV q hq
      refine⟨h1,λk d J2=>List.mem_cons_of_mem _ (h2 k d J2),Rn (λk d hd=>?_) _ _ h3⟩;rcases(Rm k d hd).1 with e|e
      ·exact .base e
      ·exact .suc (.base hc) e
   ·cases h
  ·rename_i hk
   have he:a=[]:=by simpa using h
   have hp:at_=p.length:=by omega
   subst he;subst hp;exact⟨[],.nil,(λk c hc=>by cases hc),(λq hq=>by cases hq)⟩
theorem De(h:Aw.get [(0,0)] k=some c):k=0/\c=0:=by
 unfold Aw.get at h
 grind
theorem zo{p:List UInt8}{leaves:Nat}(h:isRight p leaves numbers=true):∃l,wW p leaves numbers l:=by
 unfold isRight at h;obtain⟨V,hcut,tQ,hV⟩:=Kn p leaves numbers _ 0 [(0,0)] (by omega) (λk d hd=>by grind[De]) h;have h0:=tQ 0 0 rfl;have iO:∀k c,Way p [(0,0)] k c->(k,c)∈V:=by
  intro k c hw
  induction hw with
  |base hb=>grind
  |suc _ hs ih=>exact(hV _ ih).2.1 _ _ hs
 refine⟨V.map (·.1),hcut,?_,?_,?_,?_⟩
 ·intro e
  simp_all
 ·grind
 ·intro k c c' h1 h2
  have m1:=iO _ _ h1;have m2:=iO _ _ h2;have hn:=hcut.nodup;have key:∀(V:List (Nat×Nat)),(V.map (·.1)).Nodup->(k,c)∈V->(k,c')∈V->c=c':=by
   intro V
   induction V with
   |nil=>simp
   |cons q r ih=>
    grind
  grind
 grind
theorem Cut.len{p:List UInt8}(h:Cut p k l):l.length+k<=p.length:=by
 induction h<;>grind
end Mx
namespace Mx
def qa(p:List UInt8):Nat->Nat->Option (List Nat)
 |0,_=>none
 |f+1,k=>if k<p.length then(match shapeOf (p.getD k 0)with
  |none=>none
  |some s=>if p.length<k+1+s.width then none else(qa p f (k+1+s.width)).map (k::·))else some []
def oa(p:List UInt8):Option (List Nat):=qa p (p.length+1) 0
theorem Gg{p:List UInt8}:∀(f k:Nat)(l:List Nat),k<=p.length->qa p f k=some l->Cut p k l
 |0,_,_,_,h=>by cases h
 |f+1,k,l,hk,h=>by
  simp only [qa]at h;split at h
  ·rename_i hlt
   split at h
   ·cases h
   ·rename_i s hs
    split at h
    ·cases h
    ·rename_i hl
     rw[Option.map_eq_some_iff]at h;obtain⟨l',h',rfl⟩:=h;exact .cons hlt hs (by omega) (Gg f _ l' (by omega) h')
  ·rename_i hlt
   cases h
   have:k=p.length:=by omega
   subst this;exact .nil
theorem Ro{p:List UInt8}(h:Cut p k l):∀f,l.length<f->qa p f k=some l:=by
 induction h with
 |nil=>
  intro f hf;obtain⟨f,rfl⟩:∃g,f=g+1:=⟨f-1,by omega⟩;simp[qa]
 |cons hk hs hl h ih=>
  intro f hf;obtain⟨f,rfl⟩:∃g,f=g+1:=⟨f-1,by omega⟩
  simp_all[if_neg,qa]
abbrev Bs:=List (Option Nat)×List Nat
def mV(l:List Nat)(t:Nat)(st:Bs)(q:Nat):Option Bs:=match l.findIdx? (· ==q)with
 |none=>none
 |some j=>match st.1.getD j none with
  |some d=>if d=t then some st else none
  |none=>some (st.1.set j (some t),st.2++[j])
def uO(p:List UInt8)(k:Nat)(s:Shape):List Nat:=if s.ends=true then []else if p.getD k 0=2 then [k+1+s.width,k+1+s.width+two (p.getD (k+1) 0) (p.getD (k+2) 0)]else [k+1+s.width]
def et(l:List Nat)(t:Nat):List Nat->Bs->Option Bs
 |[],st=>some st
 |q::r,st=>(mV l t st q).bind (et l t r)
def me(p:List UInt8)(leaves numbers:Nat)(l:List Nat)(st:Bs)(n:Nat):Option Bs:=
 match shapeOf (p.getD (l.getD (st.2.getD n 0) 0) 0)with
 |none=>none
 |some s=>if(st.1.getD (st.2.getD n 0) none).getD 0<s.takes\/32<(st.1.getD (st.2.getD n 0) none).getD 0-s.takes+s.qJ\/named p leaves numbers (l.getD (st.2.getD n 0) 0)=false then none
  else et l ((st.1.getD (st.2.getD n 0) none).getD 0-s.takes+s.qJ) (uO p (l.getD (st.2.getD n 0) 0) s) st
def Rp(p:List UInt8)(leaves numbers:Nat)(l:List Nat):Nat->Nat->Bs->Bool
 |0,_,_=>false
 |f+1,n,st=>if n<st.2.length then(match me p leaves numbers l st n with
  |none=>false
  |some rC=>Rp p leaves numbers l f (n+1) rC)else st.2.length==l.length
def mW(p:List UInt8)(leaves numbers:Nat):Bool:=match oa p with
 |none=>false
 |some l=>!l.isEmpty&&Rp p leaves numbers l (l.length+1) 0 ((List.replicate l.length none).set 0 (some 0),[0])
structure BI(p:List UInt8)(l:List Nat)(st:Bs):Prop where
 len:st.1.length=l.length
 nodup:st.2.Nodup
 mem:∀j,j∈st.2↔j<l.length/\∃c,st.1.getD j none=some c
 way:∀j c,st.1.getD j none=some c->Way p [(0,0)] (l.getD j 0) c
theorem eU{α:Type}(l:List (Option α))(j i:Nat)(x:Option α)(h:j<l.length):(l.set j x).getD i none=if i=j then x else l.getD i none:=by
 grind
structure vQ(l:List Nat)(a b:Bs):Prop where
 front:∃r,b.2=a.2++r
 keep:∀j c,a.1.getD j none=some c->b.1.getD j none=some c
theorem vQ.refl(l:List Nat)(a:Bs):vQ l a a:=⟨⟨[],by simp⟩,λ_ _ h=>h⟩
theorem vQ.trans{a b c:Bs}(h:vQ l a b)(h':vQ l b c):vQ l a c:=by
 obtain⟨r,e⟩:=h.front;obtain⟨r',e'⟩:=h'.front;exact⟨⟨r++r',by grind⟩,λj c hc=>h'.keep j c (h.keep j c hc)⟩
theorem Es(h:l.findIdx? (· ==q)=some j):j<l.length/\l.getD j 0=q:=by
 grind[List.getElem?_eq_getElem,List.findIdx?_eq_some_iff_getElem]
theorem NZ(h:l.findIdx? (· ==q)=none):q∉l:=by
 grind
theorem tR{p:List UInt8}{st rC:Bs}(I:BI p l st)(hw:Way p [(0,0)] q t)(h:mV l t st q=some rC):BI p l rC/\vQ l st rC/\∃j,j<l.length/\l.getD j 0=q/\rC.1.getD j none=some t:=by
 unfold mV at h;split at h
 ·cases h
 ·rename_i j hj
  obtain⟨iP,hjq⟩:=Es hj;split at h
  ·rename_i d hd
   split at h
   ·rename_i e
    cases h
    subst e;exact⟨I,.refl l _,j,iP,hjq,hd⟩
   ·cases h
  ·rename_i hn
   cases h
   have hjs:j<st.1.length:=by rw[I.len];exact iP
   have Ko:j∉st.2:=λhm=>by
    obtain⟨_,c,hc⟩:=(I.mem j).1 hm
    grind
   refine⟨⟨?_,?_,?_,?_⟩,⟨⟨[j],rfl⟩,?_⟩,j,iP,hjq,?_⟩
   ·simpa using I.len
   ·rw[List.nodup_append]
    refine⟨I.nodup,by simp,?_⟩
    grind
   ·intro i
    simp only [List.mem_append,List.mem_singleton];rw[eU _ _ _ _ hjs];constructor
    ·rintro(hi|rfl)
     ·obtain⟨h1,c,h2⟩:=(I.mem i).1 hi
      grind
     grind
    ·rintro⟨h1,c,h2⟩
     split at h2
     ·omega
     ·exact .inl ((I.mem i).2 ⟨h1,c,h2⟩)
   ·intro i c hc
    simp only at hc;rw[eU _ _ _ _ hjs]at hc;split at hc
    ·grind
    ·exact I.way i c hc
   all_goals grind
theorem wZ{p:List UInt8}:∀(qs:List Nat)(st rC:Bs),BI p l st->(∀q∈qs,Way p [(0,0)] q t)->et l t qs st=some rC->BI p l rC/\vQ l st rC/\∀q∈qs,∃j,j<l.length/\l.getD j 0=q/\rC.1.getD j none=some t
 |[],st,rC,I,_,h=>by cases h;exact⟨I,.refl l _,λq hq=>by cases hq⟩
 |q::r,st,rC,I,hw,h=>by
  simp only [et]at h;rw[Option.bind_eq_some_iff]at h;obtain⟨s1,h1,h2⟩:=h;obtain⟨I1,M1,j,a1,a2,a3⟩:=tR I (hw q List.mem_cons_self) h1;obtain⟨I2,M2,h3⟩:=wZ r s1 rC I1 (λx hx=>hw x (List.mem_cons_of_mem _ hx)) h2;refine⟨I2,M1.trans M2,λx hx=>?_⟩;rcases List.mem_cons.1 hx with rfl|hx
  ·exact⟨j,a1,a2,M2.keep _ _ a3⟩
  grind
theorem pq{p:List UInt8}{s:Shape}(hs:shapeOf (p.getD k 0)=some s)(q d:Nat):(q∈uO p k s/\d=c-s.takes+s.qJ)↔Rl p k c q d:=by
 unfold uO;constructor
 ·rintro⟨h,rfl⟩
  split at h
  ·cases h
  ·rename_i he
   have Zc:=by simpa using he
   split at h
   ·rename_i h2
    simp at h;rcases h with rfl|rfl
    ·exact .next hs Zc
    ·exact .skip hs h2
   ·simp at h
    subst h;exact .next hs Zc
 ·intro h
  cases h with
  |next J2 he=>
   grind
  |skip J2 h2=>
   rw[hs]at J2;cases J2;have:¬s.ends=true:=λhe=>(tP hs he).2 h2
   grind
end Mx
namespace Mx
theorem Gi:∀(m:Nat)(t:List Nat),t.Nodup->(∀x∈t,x<m)->t.length<=m
 |0,t,_,h=>by
  cases t<;>grind[List.mem_cons_self]
 |m+1,t,hn,h=>by
  have h1:=Gi m (t.erase m) (hn.erase m) (λx hx=>by
   grind)
  grind
theorem Gj:∀(m:Nat)(t:List Nat),(∀x,x<m->x∈t)->m<=t.length
 |0,_,_=>by omega
 |m+1,t,h=>by
  have h1:=Gj m (t.erase m) (λx hx=>(List.mem_erase_of_ne (by omega)).2 (h x (by omega)))
  grind
theorem BI.le{p:List UInt8}{st:Bs}(I:BI p l st):st.2.length<=l.length:=Gi _ _ I.nodup λx hx=>((I.mem x).1 hx).1
def Done(p:List UInt8)(leaves numbers:Nat)(l:List Nat)(st:Bs)(j:Nat):Prop:=∃c,st.1.getD j none=some c/\May p leaves numbers (l.getD j 0) c/\∀q d,Rl p (l.getD j 0) c q d->∃i,i<l.length/\l.getD i 0=q/\st.1.getD i none=some d
theorem Done.more{p:List UInt8}{leaves:Nat}{a b:Bs}(h:Done p leaves numbers l a j)(m:vQ l a b):Done p leaves numbers l b j:=by
 obtain⟨c,h1,h2,h3⟩:=h;refine⟨c,m.keep _ _ h1,h2,λq d hs=>?_⟩;obtain⟨i,a1,a2,a3⟩:=h3 q d hs;exact⟨i,a1,a2,m.keep _ _ a3⟩
theorem vQ.at_{a b:Bs}(m:vQ l a b)(h:i<a.2.length):b.2.getD i 0=a.2.getD i 0:=by
 obtain⟨r,e⟩:=m.front
 grind
theorem oc{t:List Nat}(h:n<t.length):t.getD n 0∈t:=by
 grind
theorem Gk{p:List UInt8}{leaves:Nat}{st rC:Bs}(I:BI p l st)(hn:n<st.2.length)(h:me p leaves numbers l st n=some rC):BI p l rC/\vQ l st rC/\Done p leaves numbers l rC (st.2.getD n 0):=by
 obtain⟨hj,c,hc⟩:=(I.mem _).1 (oc hn);unfold me at h;split at h
 ·cases h
 ·rename_i s hs
  rw[hc]at h;simp only [Option.getD_some]at h;split at h
  ·cases h
  ·rename_i hno
   have hw:=I.way _ _ hc;have nU:named p leaves numbers (l.getD (st.2.getD n 0) 0)=true:=by
    cases hx:named p leaves numbers (l.getD (st.2.getD n 0) 0)with
    |true=>rfl
    |false=>grind
   obtain⟨I',M,iO⟩:=wZ _ st rC I (λq hq=>.suc hw ((pq hs q _).1 ⟨hq,rfl⟩)) h;refine⟨I',M,c,M.keep _ _ hc,⟨⟨s,hs,by omega,by omega⟩,nU⟩,λq d Km=>?_⟩;obtain⟨hq,rfl⟩:=(pq hs q d).2 Km
   grind
theorem aeE{p:List UInt8}{leaves:Nat}{st:Bs}(I:BI p l st)(h0:st.1.getD 0 none=some 0)(QM:l.getD 0 0=0)(hl:0<l.length)(D:∀j∈st.2,Done p leaves numbers l st j):∀k c,Way p [(0,0)] k c->∃j,j<l.length/\l.getD j 0=k/\st.1.getD j none=some c:=by
 intro k c hw
 induction hw with
 |base hb=>
  obtain⟨rfl,rfl⟩:=De hb
  grind
 |suc _ hs ih=>
  obtain⟨j,a1,a2,a3⟩:=ih;obtain⟨c',b1,b2,b3⟩:=D j ((I.mem j).2 ⟨a1,_,a3⟩)
  grind
theorem Gl{p:List UInt8}(QM:l.getD 0 0=0)(hl:0<l.length):BI p l ((List.replicate l.length none).set 0 (some 0),[0]):=by
 have hg:∀j,((List.replicate l.length (none)).set 0 (some 0)).getD j none=if j=0 then some 0 else none:=by
  intro j;rw[eU _ _ _ _ (by grind)];split
  ·rfl
  ·grind
 refine⟨by simp,by simp,λj=>?_,λj c h=>?_⟩
 ·grind
 ·simp only [hg]at h
  split at h
  ·rename_i e;cases h;subst e;rw[QM];exact .base rfl
  ·cases h
theorem xc{p:List UInt8}(h:Cut p k l)(hl:l≠[]):l.getD 0 0=k:=by
 cases h<;>grind
theorem Rq(h:l.Nodup)(hi:i<l.length)(hj:j<l.length)(e:l.getD i 0=l.getD j 0):i=j:=by
 grind[List.getElem_inj,List.getElem?_eq_getElem]
theorem Gm{p:List UInt8}{leaves:Nat}(R:wW p leaves numbers l){st:Bs}(I:BI p l st)(hw:Way p [(0,0)] q t):∃rC,mV l t st q=some rC:=by
 unfold mV
 cases hf:l.findIdx? (· ==q)with
 |none=>exact(NZ hf (R.may q t hw).1).elim
 |some j=>
  simp only
  cases hd:st.1.getD j none with
  |none=>simp
  |some d=>
   simp only;have h1:=I.way j d hd;rw[(Es hf).2]at h1;rw[if_pos (R.one q d t h1 hw)];simp
theorem rK{p:List UInt8}{leaves:Nat}(R:wW p leaves numbers l):∀(qs:List Nat)(st:Bs),BI p l st->(∀q∈qs,Way p [(0,0)] q t)->∃rC,et l t qs st=some rC
 |[],st,_,_=>⟨st,rfl⟩
 |q::r,st,I,hw=>by
  obtain⟨s1,h1⟩:=Gm R I (hw q List.mem_cons_self);obtain⟨I1,_,_⟩:=tR I (hw q List.mem_cons_self) h1;obtain⟨s2,h2⟩:=rK R r s1 I1 (λx hx=>hw x (List.mem_cons_of_mem _ hx))
  grind[et]
theorem Kq{p:List UInt8}{leaves:Nat}(R:wW p leaves numbers l){st:Bs}(I:BI p l st)(hn:n<st.2.length):∃rC,me p leaves numbers l st n=some rC:=by
 obtain⟨hj,c,hc⟩:=(I.mem _).1 (oc hn);have hw:=I.way _ _ hc;obtain⟨_,hm⟩:=R.may _ _ hw;obtain⟨s,hs,h1,h2⟩:=hm.shape;unfold me;rw[hs,hc];simp only [Option.getD_some];rw[if_neg (by rw[hm.named];grind)];exact rK R _ st I (λq hq=>.suc hw ((pq hs q _).1 ⟨hq,rfl⟩))
theorem Rr{p:List UInt8}{leaves:Nat}(R:wW p leaves numbers l):∀(f n:Nat)(st:Bs),BI p l st->st.1.getD 0 none=some 0->(∀i,i<n->Done p leaves numbers l st (st.2.getD i 0))->n<=st.2.length->l.length<f+n->Rp p leaves numbers l f n st=true:=by
 intro f
 induction f with
 |zero=>intro n st I _ _ hle hf;have:=I.le;omega
 |succ f ih=>
  intro n st I h0 hd hle hf;simp only [Rp];split
  ·rename_i hn
   obtain⟨st1,h1⟩:=Kq R I hn;rw[h1];simp only;obtain⟨I1,M1,D1⟩:=Gk I hn h1;obtain⟨r,hr⟩:=M1.front;have hlen:st.2.length<=st1.2.length:=by rw[hr];simp
   refine ih (n+1) st1 I1 (M1.keep _ _ h0) (λi hi=>?_) (by omega) (by omega);rw[M1.at_ (by omega)]
   by_cases e:i=n
   ·grind
   ·exact(hd i (by omega)).more M1
  ·rename_i hn
   have kM:=List.length_pos_iff.2 R.some
   have bu:=aeE I h0 (xc R.cut R.some) kM (λj hj=>by
    obtain⟨i,hi,rfl⟩:=List.getElem_of_mem hj;have:=hd i (by omega)
    rwa [List.getD_eq_getElem?_getD,List.getElem?_eq_getElem hi]at this)
   have h1:=Gj l.length st.2 (λi hi=>by
    obtain⟨c,hw⟩:=R.all (l.getD i 0) (oc hi);obtain⟨j,a1,a2,a3⟩:=bu _ _ hw;have:=Rq R.cut.nodup a1 hi a2;subst this
    exact(I.mem j).2 ⟨a1,c,a3⟩)
   have h2:=I.le
   grind
theorem N0{p:List UInt8}{leaves:Nat}(h:isRight p leaves numbers=true):mW p leaves numbers=true:=by
 obtain⟨l,R⟩:=zo h;have hc:oa p=some l:=Ro R.cut _ (by have:=R.cut.len;omega);have kM:=List.length_pos_iff.2 R.some;unfold mW;rw[hc];simp only;rw[Bool.and_eq_true];refine⟨by grind,Rr R _ 0 _ (Gl (xc R.cut R.some) kM) ?_ (λi hi=>by omega) (by simp) (by omega)⟩
 grind
end Mx
namespace Mx
def bt(s:List UInt8)(k:Nat):UInt8:=s.getD k 0
def pr(s:List UInt8)(k:Nat):Nat:=two (bt s k) (bt s (k+1))
def uP(s:List UInt8)(n at_:Nat):Option ((List UInt8×List UInt8)×Nat):=
 if n<=at_\/8<(bt s at_).toNat\/n<at_+1+(bt s at_).toNat+2 then none
 else if n<at_+1+(bt s at_).toNat+2+pr s (at_+1+(bt s at_).toNat)then none
 else some (((s.drop (at_+1)).take (bt s at_).toNat,(s.drop (at_+1+(bt s at_).toNat+2)).take (pr s (at_+1+(bt s at_).toNat))),at_+1+(bt s at_).toNat+2+pr s (at_+1+(bt s at_).toNat))
def fA(s:List UInt8)(n leaves numbers:Nat):Nat->Nat->Option (List (List UInt8×List UInt8)×Nat)
 |0,at_=>some ([],at_)
 |m+1,at_=>match uP s n at_ with
  |none=>none
  |some (y,e)=>if mW y.2 leaves numbers then(fA s n leaves numbers m e).map λq=>(y::q.1,q.2)else none
def gT(s:List UInt8)(v:Nat):List (Int×Int):=(List.range v).map λi=>(Et (pr s (6+4*i)),Et (pr s (8+4*i)))
def ku(s:List UInt8):Option Zd:=
 if 60000<s.length\/s.length<12\/s.take 5≠hd then none
 else if Cx.fd (s.take (s.length-4))≠s.drop (s.length-4)then none
 else if 3<(bt s 5).toNat\/s.length-4<6+4*(bt s 5).toNat+2 then none
 else if 12<(bt s (6+4*(bt s 5).toNat)).toNat\/(bt s (6+4*(bt s 5).toNat)).toNat<=(bt s (6+4*(bt s 5).toNat+1)).toNat then none
 else match fA s (s.length-4) (bt s (6+4*(bt s 5).toNat)).toNat (2*(bt s 5).toNat) (bt s (6+4*(bt s 5).toNat)).toNat (6+4*(bt s 5).toNat+2)with
  |none=>none
  |some (ls,e)=>if e=s.length-4 then some ⟨gT s (bt s 5).toNat,ls,(bt s (6+4*(bt s 5).toNat+1)).toNat⟩else none
theorem ak(s:List UInt8)(k:Nat)(h:k<s.length):s.drop k=bt s k::s.drop (k+1):=by
 grind[List.getElem?_eq_getElem,bt,List.drop_eq_getElem_cons]
