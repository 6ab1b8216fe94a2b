/- A table's tokens have one table: a parser with fuel finds whatever stands in them; nothing of the program is asked here. -/
import Derived.Test.YtdjaiolfdbamcaaGreatDoorZWBkb
set_option maxRecDepth 20000
set_option maxHeartbeats 1000000
namespace Go.Proofs.YtdjaiolfdbamcaaGreatDoor
variable {m q s:List UInt8}{c cc f f0 k kb l n:Nat}{b:Bool}{vs:List az}{w w':World}{vl:Value}{us:List (Option Addr×Nat×Nat)}{e:Ending}
section
namespace Hx
theorem dE{t:Tok}{m':List UInt8}(h:aq t m=true)(hn:m≠m'):aq t m'=false:=by
 simp_all[Bool.and_eq_true,beq_iff_eq,aq]
theorem Pb{t:Tok}(h:ao t.k≠3):aq t m=false:=by
 grind[beq_eq_false_iff_ne,aq]
instance (t:Tok):Decidable (Txt t):=decidable_of_iff ((t.k=110->t.s.data.toList≠[])/\(t.k=105->t.s.data.toList=iy t.n/\-9999<=t.n/\t.n<=9999)) (by unfold Txt;rw[Lib.toList_data])
def afs:Option Tok->Bool
 |none=>true
 |some t=>t.k==119&&t.s.data.toList==ew
theorem Ih(w:Option Tok):afs w=true↔∀t,w=some t->t.k=119/\t.s.toList=ew:=by
 cases w<;>grind[afs,Lib.toList_data]
instance (w:Option Tok) (n o i:Tok):Decidable (jZ w n o i):=decidable_of_iff (afs w=true/\n.k=110/\o.k=115/\i.k=105/\Txt i/\o.s.data.toList∈rT)
 ⟨λh=>⟨(Ih w).1 h.1,h.2.1,h.2.2.1,h.2.2.2.1,h.2.2.2.2.1,by grind[Lib.toList_data]⟩,λh=>⟨(Ih w).2 h.was,h.nm,h.op,h.num,h.QX,by rw[<-Lib.toList_data];exact h.six⟩⟩
def Nm(w:Option Tok)(n o i:Tok)(r:List Tok):Option (G×List Tok):=if h:jZ w n o i then some (.atom w n o i h,r)else none
def pG:Nat->Nat->G->List Tok->Option (G×List Tok)
 |0,_,_,_=>none
 |f+1,0,_,l=>match l with
  |[]=>none
  |t::r=>if aq t dQ=true then some (.gZ,r)
   else if aq t eK=true then(match pG f 0 .gZ r with|some (g,r')=>some (.not g,r')|none=>none)
   else if aq t jY=true then(match pG f 4 .gZ r with|some (g,p::r')=>if aq p qU=true then some (.group t g,r')else none|_=>none)
   else(match r with
    |o::i::r'=>if t.k=110 then Nm none t o i r' else(match r' with|x::r2=>Nm (some t) o i x r2|[]=>none)
    |_=>none)
 |f+1,1,g,l=>match l with
  |[]=>none
  |a::m=>if aq a gY=true then(match pG f 0 .gZ m with|some (h,l')=>pG f 1 (.and g h) l'|none=>none)else some (g,a::m)
 |f+1,2,_,l=>match pG f 0 .gZ l with|some (g,l')=>pG f 1 g l'|none=>none
 |f+1,3,g,l=>match l with
  |[]=>none
  |a::m=>if aq a qh=true then(match pG f 2 .gZ m with|some (h,l')=>pG f 3 (.or g h) l'|none=>none)else some (g,a::m)
 |f+1,_+4,_,l=>match pG f 2 .gZ l with|some (g,l')=>pG f 3 g l'|none=>none
def EvG(lv:Nat)(a:G)(l:List Tok)(R:G×List Tok):Prop:=∃f0,∀f,f0<=f->pG f lv a l=some R
theorem up(h:f0+1<=f):∃k,f=k+1/\f0<=k:=⟨f-1,by omega,by omega⟩
theorem up2{f1:Nat}(h:f0+f1+1<=f):∃k,f=k+1/\f0<=k/\f1<=k:=⟨f-1,by omega,by omega,by omega⟩
def apA(lv:Nat)(l:List Tok)(g:G)(l':List Tok):Prop:=match lv with
 |0=>EvG 0 .gZ l (g,l')
 |1=>∀R,EvG 1 g l' R->EvG 2 .gZ l R
 |2=>EvG 2 .gZ l (g,l')
 |3=>∀R,EvG 3 g l' R->EvG 4 .gZ l R
 |_=>EvG 4 .gZ l (g,l')
theorem afu{lv:Nat}{l l':List Tok}{g:G}(h:jG lv l g l'):apA lv l g l':=by
 induction h with
 |gZ h=>exact⟨1,λf hf=>by obtain⟨k,rfl,_⟩:=up hf;simp only [pG,h,if_true]⟩
 |not h _ ih=>
  obtain⟨f0,e⟩:=ih;refine⟨f0+1,λf hf=>?_⟩;obtain⟨k,rfl,hk⟩:=up hf;have h1:=dE h (m':=dQ) (by decide)
  simp_all[pG,Bool.false_eq_true]
 |group h _ hp ih=>
  obtain⟨f0,e⟩:=ih;refine⟨f0+1,λf hf=>?_⟩;obtain⟨k,rfl,hk⟩:=up hf;have h1:=dE h (m':=dQ) (by decide);have h2:=dE h (m':=eK) (by decide)
  simp_all[pG,Bool.false_eq_true]
 |uV ok=>
  refine⟨1,λf hf=>?_⟩;obtain⟨k,rfl,hk⟩:=up hf;rename_i n0 o0 i0 r0;have jq:ao n0.k≠3:=by rw[ok.nm];decide
  simp only [pG,Pb jq,Bool.false_eq_true,if_false,ok.nm,if_true,Nm]
  grind
 |uW ok=>
  refine⟨1,λf hf=>?_⟩;obtain⟨k,rfl,hk⟩:=up hf;rename_i w0 n0 o0 i0 r0;have hw:=ok.was _ rfl;have hm:∀m,ew≠m->aq w0 m=false:=λm hm=>dE (by unfold aq;rw[hw.1,hw.2];decide) hm
  simp_all[pG,dQ,eK,jY,Bool.false_eq_true,Nm]
 |c0 _ ih=>
  rintro R ⟨f1,e1⟩;obtain⟨f0,e⟩:=ih;refine⟨f0+f1+1,λf hf=>?_⟩;obtain⟨k,rfl,hk,fL⟩:=up2 hf
  grind[pG]
 |c1 _ ha _ ih wK=>
  rintro R ⟨f1,e1⟩;refine ih R ?_;obtain⟨f0,e⟩:=wK;refine⟨f0+f1+1,λf hf=>?_⟩;obtain⟨k,rfl,hk,fL⟩:=up2 hf
  simp_all[pG]
 |c2 _ ha ih=>
  refine ih _ ⟨1,λf hf=>?_⟩;obtain⟨k,rfl,hk⟩:=up hf;simp only [pG,ha,Bool.false_eq_true,if_false]
 |g0 _ ih=>
  rintro R ⟨f1,e1⟩;obtain⟨f0,e⟩:=ih;refine⟨f0+f1+1,λf hf=>?_⟩;obtain⟨k,rfl,hk,fL⟩:=up2 hf
  grind[pG]
 |g1 _ ha _ ih wK=>
  rintro R ⟨f1,e1⟩;refine ih R ?_;obtain⟨f0,e⟩:=wK;refine⟨f0+f1+1,λf hf=>?_⟩;obtain⟨k,rfl,hk,fL⟩:=up2 hf
  simp_all[pG]
 |g2 _ ha ih=>
  refine ih _ ⟨1,λf hf=>?_⟩;obtain⟨k,rfl,hk⟩:=up hf;simp only [pG,ha,Bool.false_eq_true,if_false]
def Ii:Option Tok->Bool
 |none=>true
 |some a=>!a.s.data.toList.isEmpty
theorem Tx{d:Option Tok}(h:Ii d=true):∀a,d=some a->a.s.toList≠[]:=by
 grind[Ii,Lib.toList_data]
theorem Ty{d:Option Tok}(h:∀a,d=some a->a.s.toList≠[]):Ii d=true:=by
 cases d with
 |none=>rfl
 |some a=>
  have:=h a rfl;rw[Lib.toList_data]at this;simp only [Ii,Bool.not_eq_true']
  cases hz:a.s.data.toList with
  |nil=>exact absurd hz this
  |cons _ _=>rfl
def Nn(wh:Tok)(g:G)(dest:Option Tok)(gd:List Tok):Option bD:=if h:Ii dest=true/\g.deep<=3001 then some ⟨wh,g,dest,gd,Tx h.1,h.2⟩else none
theorem Tz(r:bD):Nn r.wh r.g r.dest r.gd=some r:=by
 unfold Nn;rw[dif_pos ⟨Ty r.ok,r.deep⟩]
def pR:Nat->List bD->List Tok->Option (List bD×List Tok)
 |0,_,_=>none
 |f+1,acc,l=>match l with
  |[]=>none
  |t::l1=>if aq t dB=true then(match pG f 4 .gZ l1 with
    |some (g,d::e::r)=>if aq d kn=true then(match Nn t g none (l1.take (l1.length-(r.length+2)))with|some x=>pR f (acc++[x]) r|none=>none)
      else(match r with|_::r'=>(match Nn t g (some e) (l1.take (l1.length-(r.length+2)))with|some x=>pR f (acc++[x]) r'|none=>none)|[]=>none)
    |_=>none)
   else some (acc,t::l1)
def EvR(a:List bD)(l:List Tok)(R:List bD×List Tok):Prop:=∃f0,∀f,f0<=f->pR f a l=some R
theorem afv{l l':List Tok}{r:bD}(h:EU l r l'){acc:List bD}{R:List bD×List Tok}(k:EvR (acc++[r]) l' R):EvR acc l R:=by
 obtain⟨l1,l2,rfl,hw,hd,Ij,zi⟩:=h;obtain⟨f0,e0⟩:=afu hd;obtain⟨f1,e1⟩:=k;refine⟨f0+f1+1,λf hf=>?_⟩;obtain⟨k,rfl,hk,fL⟩:=up2 hf;have hm:=Tz r;rcases Ij with⟨t,sc,rfl,h1,h2,h3⟩|⟨t,a,sc,rfl,h1,h2,h3,h4⟩
 ·simp_all[pR,List.length_cons]
 ·rw[h4,zi]at hm
  simp only [List.length_cons]at hm;have h5:=dE h1 (m':=kn) (by decide)
  simp_all[pR,Bool.false_eq_true,List.length_cons]
theorem aas{l l':List Tok}{rs:List bD}(h:oP l rs l'):∀R,EvR rs l' R->EvR [] l R:=by
 induction h<;>grind[afv]
def pM:Nat->Bool->List MA->List Tok->Int->Bool->Nat->Nat->Option (List MA×List Tok)
 |0,_,_,_,_,_,_,_=>none
 |f+1,false,_,l,o,df,d,n=>match l with
  |_::nm::_::l1=>(match pR f [] l1 with
   |some (rs,l2)=>(match pM f true [] l2 n false (d+1) (n+1)with
    |some (ext,_::l')=>some (⟨nm,df,d,o,rs⟩::ext,l')
    |_=>none)
   |none=>none)
  |_=>none
 |f+1,true,ext,l,o,_,d,n=>match l with
  |[]=>none
  |t::m=>if aq t aO=true then(match pM f false [] m o true d (n+ext.length)with|some (ex,l')=>pM f true (ext++ex) l' o false d n|none=>none)
   else if aq t cS=true then(match pM f false [] (t::m) o false d (n+ext.length)with|some (ex,l')=>pM f true (ext++ex) l' o false d n|none=>none)
   else some (ext,t::m)
def EvM(b:Bool)(a:List MA)(l:List Tok)(o:Int)(df:Bool)(d n:Nat)(R:List MA×List Tok):Prop:=∃f0,∀f,f0<=f->pM f b a l o df d n=some R
def MDE(b:Bool)(l:List Tok)(o:Int)(df:Bool)(d n:Nat)(ms:List MA)(l':List Tok):Prop:=match b with
 |false=>EvM false [] l o df d n (ms,l')
 |true=>∀R,EvM true ms l' o false d n R->EvM true [] l o false d n R
theorem ajW{l l':List Tok}{o:Int}{df:Bool}{d:Nat}{ms:List MA}(h:MD b l o df d n ms l'):MDE b l o df d n ms l':=by
 induction h with
 |none l o d n=>exact λR h=>h
 |dear _ ht _ ih wK=>
  rintro R ⟨f1,e1⟩;refine ih R ?_;obtain⟨f0,e⟩:=wK;refine⟨f0+f1+1,λf hf=>?_⟩;obtain⟨k,rfl,hk,fL⟩:=up2 hf
  simp_all[pM]
 |more _ ht hm _ ih wK=>
  rintro R ⟨f1,e1⟩;refine ih R ?_;obtain⟨f0,e⟩:=wK;refine⟨f0+f1+1,λf hf=>?_⟩;obtain⟨k,rfl,hk,fL⟩:=up2 hf
  simp_all[pM,Bool.false_eq_true]
 |mode ht hn hl hr h2 _ hb ih=>
  rename_i rb t2 l1 l2 l9 o2 df2 d2 n2 rs ext _;have hx:=aas hr (rs,t2::l2) ⟨1,λf hf=>by obtain⟨k,rfl,_⟩:=up hf;simp only [pR,h2,Bool.false_eq_true,if_false]⟩
  have hy:=ih (ext,rb::l9) ⟨1,λf hf=>by
   obtain⟨k,rfl,_⟩:=up hf
   simp only [pM,dE hb (m':=aO) (by decide),dE hb (m':=cS) (by decide),Bool.false_eq_true,if_false]⟩
  obtain⟨f0,e0⟩:=hx;obtain⟨f1,e1⟩:=hy;refine⟨f0+f1+1,λf hf=>?_⟩;obtain⟨k,rfl,hk,fL⟩:=up2 hf
  grind[pM]
end Hx
open Hx
def pV:Nat->List az->List Tok->Option (List az×List Tok)
 |0,_,_=>none
 |f+1,acc,l=>match l with
  |[]=>none
  |t::r=>if aq t eE=true then(match r with|a::b::_::c::_::r'=>pV f (acc++[⟨a,b,c⟩]) r'|_=>none)else some (acc,t::r)
def EvV(a:List az)(l:List Tok)(R:List az×List Tok):Prop:=∃f0,∀f,f0<=f->pV f a l=some R
theorem aat{l l':List Tok}(h:yj l vs l'):∀R,EvV vs l' R->EvV [] l R:=by
 induction h with
 |nil=>simp
 |snoc _ ht ih=>
  rintro R ⟨f1,e1⟩;refine ih R ⟨f1+1,λf hf=>?_⟩;obtain⟨k,rfl,hk⟩:=up hf
  simp_all[pV]
def Pc(f:Nat)(ts:List Tok):Option (List az×List MA):=match pV f [] ts with
 |some (vs,l)=>(match pM f false [] l (-1) false 0 0 with|some (ms,_)=>some (vs,ms)|none=>none)
 |none=>none
theorem afw{ts:List Tok}{ms:List MA}(h:xO ts vs ms):∃f0,∀f,f0<=f->Pc f ts=some (vs,ms):=by
 obtain⟨t,m,e,r,hv,ht,hm,_⟩:=h;obtain⟨f0,e0⟩:=aat hv (vs,t::m) ⟨1,λf hf=>by obtain⟨k,rfl,_⟩:=up hf;simp only [pV,ht,Bool.false_eq_true,if_false]⟩;obtain⟨f1,e1⟩:=ajW hm;refine⟨f0+f1,λf hf=>?_⟩
 grind[Pc]
end
section
open Hx
theorem fm{s:St}(h:s.code<=5)(hc:c<=5):(s.aS b c l).code<=5:=by
 grind[St.aS]
theorem aau{s:St}(h:s.code<=5)(l:List Tok)(a b:Tok):(s.atom l a b).code<=5:=by
 unfold St.atom;split
 ·exact h
 ·exact fm (fm (fm h (by decide)) (by decide)) (by decide)
theorem sH:∀(f:Nat)(p:Tok)(l:List Tok)(d:Int)(s:St)(R:St×List Tok),gF f p l d s=some R->s.code<=5->R.1.code<=5
 |0,_,_,_,_,_,h,_=>by cases h
 |f+1,p,[],d,s,R,h,_=>by cases h
 |f+1,p,t::r,d,s,R,h,hs=>by
  simp only [gF]at h;split at h
  ·exact sH f _ _ _ _ _ h (fm hs (by decide))
  split at h
  ·exact sH f _ _ _ _ _ h hs
  split at h
  ·split at h
   ·exact sH f _ _ _ _ _ h (aau hs _ _ _)
   ·cases h
  split at h
  ·exact sH f _ _ _ _ _ h hs
  grind
theorem kT:∀(f:Nat)(l:List Tok)(i d:Int)(b:Bool)(s S:St),dk f l i d b s=some S->s.code<=5->S.code<=5
 |0,_,_,_,_,_,_,h,_=>by cases h
 |f+1,[],_,_,_,_,_,h,_=>by cases h
 |f+1,t::r,i,d,b,s,S,h,hs=>by
  simp only [dk]at h;split at h
  ·grind
  split at h
  ·split at h
   ·exact kT f _ _ _ _ _ _ h (fm (fm (fm (fm hs (by decide)) (by decide)) (by decide)) (by decide))
   ·cases h
  split at h
  ·exact kT f _ _ _ _ _ _ h hs
  split at h
  ·split at h
   ·exact kT f _ _ _ _ _ _ h (fm (fm hs (by decide)) (by decide))
   ·cases h
  split at h
  ·split at h
   ·split at h
    ·rename_i hg
     have h5:=sH _ _ _ _ _ _ hg (fm hs (by decide));split at h
     ·split at h
      ·exact kT f _ _ _ _ _ _ h h5
      ·cases h
     ·exact kT f _ _ _ _ _ _ h h5
    ·cases h
   ·cases h
  split at h
  ·exact kT f _ _ _ _ _ _ h hs
  ·cases h
theorem Pd{s:St}(h:s.code<=5):(fi s).code<=5:=by
 have h1:∀(l:List vV)(s0 s:St),s.code<=5->(l.foldl (λs r=>s.aS (!(r.to.toList==[])&& !(s0.dx r.to)) 3 r.line) s).code<=5:=by
  intro l s0
  induction l with
  |nil=>simp
  |cons r l ih=>grind[fm]
 have h2:∀(l:List fX)(s0 s:St),s.code<=5->(l.foldl (eR s0) s).code<=5:=by
  intro l s0
  induction l with
  |nil=>simp
  |cons m l ih=>intro s h;exact ih _ (h1 _ _ _ h)
 have h3:∀(l:List fX)(i:Nat)(s0 s:St),s.code<=5->(kQ s0 i l s).code<=5:=by
  intro l
  induction l with
  |nil=>intro i s0 s h;exact h
  |cons m l ih=>intro i s0 s h;exact ih _ _ _ (fm h (by decide))
 exact h3 _ _ _ _ (h2 _ _ _ h)
theorem Lk{s:ByteArray}(h:kE s c l):c<=5:=by
 rcases h with⟨_,e,_⟩|⟨_,⟨_,e⟩|⟨_,_,⟨_,_,e⟩|⟨_,n,S,h2,h3,_⟩⟩⟩
 ·omega
 ·omega
 ·omega
 ·rw[<-h3];exact Pd (kT _ _ _ _ _ _ _ h2 (Nat.zero_le _))
theorem Hx.F5.det{st:List (List UInt8)}{l:List Tok}{R R':Nat}(h:F5 st l R)(k:F5 st l R'):R=R':=by
 obtain⟨f,hf⟩:=h;obtain⟨g,hg⟩:=k;have a:=pI hf (Nat.le_add_right f g);have b:=pI hg (Nat.le_add_left g f)
 grind
theorem Ik{s:ByteArray}{ts:List Tok}(h:kE s c l)(k:gM s ts):False:=by
 obtain⟨k1,k2,k3,n,S,k4,k5⟩:=k;rcases h with⟨h,_⟩|⟨_,⟨h,_⟩|⟨ts',h,⟨h1,h2,_⟩|⟨_,m,S',h2,h3,_,h4⟩⟩⟩
 ·omega
 ·grind
 ·rw[k2]at h;cases h;have:=h1.det k3;omega
 grind[Np]
theorem yk(vs:List az)(ms:List MA):∃l,Cx.fF vs ms=72::l:=⟨_,rfl⟩
def gE:List UInt8:=[118,97,114,32,120,32,48,32,46,46,32,57,59,10,109,111,100,101,32,116,111,112,32,123,32,100,101,102,97,117,108,116,32,109,111,100,101,32,108,111,119,32,123,32,119,104,101,110,32,120,32,62,32,53,32,116,111,32,104,105,103,104,59,32,119,104,101,110,32,120,32,60,61,32,53,32,115,116,97,121,59,32,125,10,32,109,111,100,101,32,104,105,103,104,32,123,32,119,104,101,110,32,120,32,60,32,51,32,116,111,32,108,111,119,59,32,119,104,101,110,32,110,111,116,32,120,32,60,32,51,32,115,116,97,121,59,32,125,32,125]
def mI:List UInt8:=gE.erase 61
def sI(l:List UInt8):List Tok:=match lex l with| .inr t=>t| .inl _=>[]
def qk(l:List UInt8):List az×List MA:=(Pc 200 (sI l)).getD ([],[])
theorem TA{l:List UInt8}(hl:lex l=.inr (sI l))(hp:∀k,Pc (k+200) (sI l)=some (qk l)){ts:List Tok}{ms:List MA}(h:gM ⟨l.toArray⟩ ts)(hD:xO ts vs ms):(vs,ms)=qk l:=by
 obtain⟨f0,e⟩:=afw hD;have h2:lex l=.inr ts:=h.2.1;rw[hl]at h2;injection h2 with h2;subst h2;have:=(e (f0+200) (by omega)).symm.trans (hp f0)
 grind
theorem aav:Cx.bz 0 9 [6,6,3,3]=[0,3,6]:=by
 have h:((0)::Cx.jw 0 9 [6,6,3,3]).mergeSort (λx y=>decide (x<=y))=[0,3,3,6,6]:=by
  simp[Cx.jw,List.mergeSort]
 unfold Cx.bz;rw[h];decide+kernel
theorem aaw:Cx.bz 0 9 [6,5,3,3]=[0,3,5,6]:=by
 have h:((0)::Cx.jw 0 9 [6,5,3,3]).mergeSort (λx y=>decide (x<=y))=[0,3,3,5,6]:=by
  simp[Cx.jw,List.mergeSort]
 unfold Cx.bz;rw[h];decide+kernel
theorem Nq:Cx.bz 0 9 []=[0]:=by
 have h:((0)::Cx.jw 0 9 []).mergeSort (λx y=>decide (x<=y))=[0]:=by
  simp[Cx.jw]
 unfold Cx.bz;rw[h];decide+kernel
def Ll(cs:List (List Int))(vs:List az)(ms:List MA):Option (Int×ByteArray×List Int):=
 match Cx.dL 6 (Cx.places ms) ((Cx.combine cs).map λl=>(l,Cx.dy (Cx.guards vs ms) l (Cx.guards vs ms).length))with
 |some x=>some (6,x)
 |none=>(Cx.dL 7 (Cx.places ms) ((Cx.combine cs).map λl=>(l,Cx.dy (Cx.guards vs ms) l (Cx.guards vs ms).length))).map λx=>(7,x)
theorem Nr(vs:List az)(ms:List MA):Cx.find vs ms=Ll (Cx.bU vs ms) vs ms:=rfl
theorem TB:Cx.bU (qk gE).1 (qk gE).2=[Cx.bz 0 9 [],Cx.bz 0 9 [6,6,3,3]]:=by kernel_rfl
theorem aax:Cx.bU (qk mI).1 (qk mI).2=[Cx.bz 0 9 [],Cx.bz 0 9 [6,5,3,3]]:=by kernel_rfl
theorem TC:Ll [[0],[0,3,6]] (qk gE).1 (qk gE).2=none:=by kernel_rfl
theorem aay:(Ll [[0],[0,3,5,6]] (qk mI).1 (qk mI).2).isSome=true:=by kernel_rfl
theorem DW:lex gE=.inr (sI gE):=by kernel_rfl
theorem TD:lex mI=.inr (sI mI):=by kernel_rfl
theorem Pe(k:Nat):Pc (k+200) (sI gE)=some (qk gE):=by kernel_rfl
theorem TE(k:Nat):Pc (k+200) (sI mI)=some (qk mI):=by kernel_rfl
theorem Pf:F5 [b9] (sI gE) 0:=⟨400,by kernel_rfl⟩
theorem Pg:(dk 200 (sI gE) (-1) 0 false St.zero).map (λS=>(fi S).code)=some 0:=by kernel_rfl
theorem Il(h:kE ⟨gE.toArray⟩ c l):False:=by
 refine Ik h ⟨by decide+kernel,DW,Pf,200,?_⟩
 grind[Option.map_eq_some_iff,Pg]
theorem Lm{ts:List Tok}{ms:List MA}(h:gM ⟨gE.toArray⟩ ts)(hD:xO ts vs ms):Cx.find vs ms=none:=by
 have e:=TA DW Pe h hD;rw[show vs=(qk gE).1 from congrArg Prod.fst e,show ms=(qk gE).2 from congrArg Prod.snd e,Nr,TB,aav,Nq];exact TC
theorem Ph{ts:List Tok}{ms:List MA}(h:gM ⟨mI.toArray⟩ ts)(hD:xO ts vs ms):Cx.find vs ms≠none:=by
 have e:=TA TD TE h hD;rw[show vs=(qk mI).1 from congrArg Prod.fst e,show ms=(qk mI).2 from congrArg Prod.snd e,Nr,aax,aaw,Nq]
 grind[aay]
end
section
namespace Mx
theorem Ns{p:List UInt8}{c:UInt8}(e:s=p++c::q)(hk:k=p.length):bt s k=c:=by grind[bt]
theorem TF{p:List UInt8}{x:Int}(e:s=p++(qY x++q))(hk:k=p.length):pr s k=two (UInt8.ofNat (x/1%256).toNat) (UInt8.ofNat (x/256%256).toNat):=by
 simp_all[pr,bt,qY]
theorem Pi{p:List UInt8}{y:List UInt8×List UInt8}(e:s=p++(qZ y++q))(h1:y.1.length<=8)(h2:y.2.length<65536)(hn:p.length+(qZ y).length<=n):uP s n p.length=some (y,p.length+(qZ y).length):=by
 have e1:s=p++UInt8.ofNat y.1.length::(y.1++(qY y.2.length++(y.2++q))):=by simp[e,qZ]
 have a:(bt s p.length).toNat=y.1.length:=by rw[Ns e1 rfl,ofNat_toNat (by omega)]
 have b:pr s (p.length+1+y.1.length)=y.2.length:=by
  rw[TF (p:=p++UInt8.ofNat y.1.length::y.1) (q:=y.2++q) (x:=y.2.length) (by simp[e1]) (by grind)];rw[wJ _ (by omega) (by omega)];omega
 have l:(qZ y).length=1+y.1.length+2+y.2.length:=by simp[qZ,qY];omega
 have d1:(s.drop (p.length+1)).take y.1.length=y.1:=by
  rw[show s=(p++[UInt8.ofNat y.1.length])++(y.1++(qY y.2.length++(y.2++q))) by simp[e1],List.drop_left' (by simp)];simp
 have d2:(s.drop (p.length+1+y.1.length+2)).take y.2.length=y.2:=by
  rw[show s=(p++UInt8.ofNat y.1.length::(y.1++qY y.2.length))++(y.2++q) by simp[e1],List.drop_left' (by grind)];simp
 unfold uP;rw[a,b,if_neg (by omega),if_neg (by omega),d1,d2];simp;omega
theorem Im{L N:Nat}(ls:List (List UInt8×List UInt8)):∀p:List UInt8,s=p++(ls.flatMap qZ++q)->(∀l∈ls,l.1.length<=8/\l.2.length<65536/\mW l.2 L N=true)->p.length+(ls.flatMap qZ).length<=n->fA s n L N ls.length p.length=some (ls,p.length+(ls.flatMap qZ).length):=by
 induction ls with
 |nil=>intros;rfl
 |cons y r ih=>
  intro p e h hn;obtain⟨h1,h2,h3⟩:=h y (by simp);simp only [List.flatMap_cons,List.length_append]at hn e|-;have:=ih (p++qZ y) (by simp[e]) (λl hl=>h l (by simp[hl])) (by grind);rw[List.length_append]at this;simp only [List.length_cons,fA];rw[Pi (by simpa using e) h1 h2 (by omega)]
  grind
theorem Pj{vs:List (Int×Int)}(h:∀p∈vs,-32768<=p.1/\p.1<32768/\-32768<=p.2/\p.2<32768):∀p:List UInt8,p.length=6->s=p++(vs.flatMap oO++q)->gT s vs.length=vs:=by
 intro p hp e;have hl:∀l:List (Int×Int),(l.flatMap oO).length=4*l.length:=λl=>by induction l<;>simp_all [oO,qY];omega
 refine List.ext_getElem (by simp[gT]) (λi h1 h2=>?_);have e1:s=p++((vs.take i).flatMap oO++(qY vs[i].1++(qY vs[i].2++((vs.drop (i+1)).flatMap oO++q)))):=by
  have:=congrArg (List.flatMap oO) ((List.take_append_drop i vs).symm.trans (by rw[List.drop_eq_getElem_cons h2]));rw[e,this];simp only [List.flatMap_append,List.flatMap_cons,oO,List.append_assoc]
 have hi:=h vs[i] (List.getElem_mem _);have hm:min i vs.length=i:=by omega
 simp only [gT,List.getElem_map,List.getElem_range];rw[TF (by rw[e1,List.append_assoc]) (by grind),TF (p:=p++((vs.take i).flatMap oO++qY vs[i].1)) (by rw[e1];simp only [List.append_assoc];rfl) (by grind[qY,List.length_append]),wJ _ (by omega) (by omega),wJ _ (by omega) (by omega)]
 grind[Z2]
theorem TG{im:Zd}(h:im.Room)(hl:(encI im).length<=60000)(hr:∀l∈im.leaves,mW l.2 im.leaves.length (2*im.vars.length)=true):ku (encI im)=some im:=by
 obtain⟨a,b,c,d,f⟩:=h;have hv:(im.vars.flatMap oO).length=4*im.vars.length:=by
  generalize im.vars=l;induction l<;>simp_all [oO,qY];omega
 have hlen:=SB im;obtain⟨S,hS⟩:∃S,S=Cx.fd (xL im):=⟨_,rfl⟩;have e:encI im=hd++(UInt8.ofNat im.vars.length::(im.vars.flatMap oO++(UInt8.ofNat im.leaves.length::UInt8.ofNat im.first::(im.leaves.flatMap qZ++S)))):=by simp[encI,xL,hS]
 have hB:(xL im).length=6+4*im.vars.length+2+(im.leaves.flatMap qZ).length:=by simp only [xL,hd,List.length_append,List.length_cons,List.length_nil,hv];omega
 have t:(encI im).length-4=(xL im).length:=by omega
 have e5:=Ns (k:=5) e rfl;have e6:bt (encI im) (6+4*im.vars.length)=UInt8.ofNat im.leaves.length:=Ns (p:=hd++UInt8.ofNat im.vars.length::im.vars.flatMap oO) (by simp[e];rfl) (by grind[hd,List.length_append,List.length_cons,List.length_nil]);have e7:bt (encI im) (6+4*im.vars.length+1)=UInt8.ofNat im.first:=Ns (p:=hd++UInt8.ofNat im.vars.length::(im.vars.flatMap oO++[UInt8.ofNat im.leaves.length])) (by simp[e];rfl) (by grind[hd,List.length_append,List.length_cons,List.length_nil]);have r:=Im (s:=encI im) (q:=S) (n:=(xL im).length) im.leaves (hd++UInt8.ofNat im.vars.length::(im.vars.flatMap oO++[UInt8.ofNat im.leaves.length,UInt8.ofNat im.first])) (by simp[e]) (λl hl=>⟨(f l hl).1,(f l hl).2,hr l hl⟩) (by grind[hd,List.length_append,List.length_cons,List.length_nil]);rw[show(hd++UInt8.ofNat im.vars.length::(im.vars.flatMap oO++[UInt8.ofNat im.leaves.length,UInt8.ofNat im.first])).length=6+4*im.vars.length+2 by grind[hd,List.length_append,List.length_cons,List.length_nil]]at r;have g:=Pj d (hd++[UInt8.ofNat im.vars.length]) rfl (s:=encI im) (by simp[e];rfl);unfold ku;have k1:=ofNat_toNat (n:=im.vars.length) (by omega);have k2:=ofNat_toNat (n:=im.leaves.length) (by omega);have k3:=ofNat_toNat (n:=im.first) (by omega);rw[e5,k1,e6,k2,e7,k3,t,if_neg (by rw[e]at*;simp[hd]at*;omega),if_neg (by simp[encI]),if_neg (by omega),if_neg (by omega),r];simp[g,hB]
end Mx
end
section
open Go.RowKit
theorem Tryz.nilEq(W:World):Sem.run Tryz.prog (binOp BinOp.eql 32 (.slice none 0 0) (.slice none 0 0)) W=.ok (.bool true) W:=by kernel_rfl
theorem DX(w:World)(c l:Int):Calls Tryz.prog 37 #[.agg (ay c l)] w λe w'=>e=.returned (.bool true)/\Below w.heap.size w w':=by
 have hne:=Tryz.nilEq;unfold ay;go_enter Tryz.func37,Tryz.ntmps37;go_wp2_with fail;go_ret;exact⟨rfl,(Below.refl _ _).alloc (Nat.le_refl _) _⟩
theorem Ln{ts:List Hx.Tok}{gs:List MG}(hD:xO ts vs (gs.map (·.a)))(hL:Links gs)(h:gA vs gs):(Cx.fF vs (gs.map (·.a))).length<=60000/\Mx.ku (Cx.fF vs (gs.map (·.a)))=some (jo vs (gs.map (·.a))):=by
 obtain⟨hr,hg⟩:=SK hD hL h;have hl:(Cx.fF vs (gs.map (·.a))).length<=60000:=by
  have hb:=h.body hL;have e:(Cx.fF vs (gs.map (·.a))).length=(Cx.lW vs (gs.map (·.a))).length+4:=by unfold Cx.fF;rw[List.length_append,Mx.Nb]
  omega
 grind[Mx.TG,Mx.N0,He]
def TbO(w:World)(s:ByteArray)(bx:Nat)(vs:List az)(gs:List MG):Prop:=∃ts,gM s ts/\Io ts vs (gs.map (·.a))/\Links gs/\gA vs gs/\∃base gt vt F S L,Kg w base bx vt gt ts S F vs (gs.map (·.a)) L/\Cx.KeysOf vs (gs.map (·.a)) (L.map (fU vs))
def CdR(s:ByteArray)(cc kb:Nat)(vl:Value)(us:List (Option Addr×Nat×Nat))(ps:List WP)(w:World)(e:Ending)(w':World):Prop:=
 Below cc w w'/\∃(img:ByteArray)(pv:Option Addr)(vw vr:Value)(qs:List WP),e=.returned (.tuple #[.string img,.pointer pv,.bool true])/\Nl w' cc kb vl vw vr us (ps++qs)/\qs.length<=2/\
  ((img=⟨#[]⟩/\((∃c l,kE s c l)\/∃(ts:List Hx.Tok)(vs:List az)(gs:List MG),gM s ts/\Io ts vs (gs.map MG.a)/\Cx.find vs (gs.map MG.a)≠none))\/∃(bx:Nat)(vs:List az)(gs:List MG),pv=some ⟨bx,0,none⟩/\TbO w' s bx vs gs/\Cx.find vs (gs.map MG.a)=none/\img=⟨(Cx.fF vs (gs.map MG.a)).toArray⟩)
theorem EY(s:ByteArray)(w:World)(cc kb:Nat)(vl vw vr:Value)(us:List (Option Addr×Nat×Nat))(ps:List WP)(h:Nl w cc kb vl vw vr us ps)(hk:cc<=kb)(hus:∀u∈us,∀g,u.1=some ⟨g,0,none⟩->g<w.heap.size)(hp:ps.length<=900)(hs:s.size<=maxLen)(rk:fg w)(ic:∀W,Below w.heap.size w W->Lib.TabIs Tryz.prog W "internal/strconv.uint64pow10" .u64 Lib.pow10Tab):
  Calls Tryz.prog 13 #[.pointer (some ⟨kb,0,none⟩),.string s] w λe w'=>CdR s cc kb vl us ps w e w':=by
 have HC:=ae (Ip s w hs rk ic);have HH:=ae h;have hcc:=h.bk.le;have QP:=bo h.bk.box;clear rk ic h;go_enter Tryz.func13,Tryz.ntmps13;go_wp2_with fail;refine HC.out.mono ?_;rintro e w1 ⟨bH,Iq⟩;clear HC;have gI:=bH.size;rcases Iq with⟨code,line,rfl,hf,hc⟩|⟨ts,vs,gs,ht,hd,hl,ha,hm⟩
 ·have HB:=ae (λW=>Ir s W hs code line hf hc)
  have HF:=ae hf;have h5:=Lk hf;have ym:=heap_alloc_new w1 (.cells (ay code line) 34);have TH:(w1.alloc (.cells (ay code line) 34)).heap.size=w1.heap.size+1:=by simp
  have mc:=bH.alloc bH.size (.cells (ay code line) 34);have pJ:=ae ym;have HZX:=ae TH;have fM:=ae mc;clear hf bH ym TH mc;rw[show(ay (code) (line))=#[.int .i64 code,.int .i64 line,.string ⟨#[]⟩,.slice none 0 0,.slice none 0 0]from rfl]at*;go_wp2_with fail;generalize w1.alloc (.cells #[.int .i64 code,.int .i64 line,.string ⟨#[]⟩,.slice none 0 0,.slice none 0 0] 34)=X at*;refine(HB.out X).mono ?_;rintro e w2 ⟨rfl,aT⟩;have jT:=aT.size;have hz:=HZX.out;have hF2:=(aT.block w1.heap.size (by omega)).trans pJ.out;have kc:=fM.out.trans (aT.mono fM.out.size);have lS:Below w2.heap.size w2 (w2.alloc (.cells (ay code line) 34)):=(Below.refl _ _).alloc (Nat.le_refl _) _;have Is:=(lS.block w1.heap.size (by omega)).trans hF2;have hY2:=heap_alloc_new w2 (.cells (ay code line) 34);have DY:=kc.alloc kc.size (.cells (ay code line) 34);have hzY:(w2.alloc (.cells (ay code line) 34)).heap.size=w2.heap.size+1:=by simp
  have Q7:=ae Is;have fR:=ae DY;clear aT hF2 kc lS DY HB pJ fM;rw[show(ay (code) (line))=#[.int .i64 code,.int .i64 line,.string ⟨#[]⟩,.slice none 0 0,.slice none 0 0]from rfl]at*;go_upto_region 3 with(fail);generalize w2.alloc (.cells #[.int .i64 code,.int .i64 line,.string ⟨#[]⟩,.slice none 0 0,.slice none 0 0] 34)=Y at*;obtain⟨a0,a1,a2,a3,a4,_,_,_,_,_⟩:=f9 Is;obtain⟨b0,b1,_,_,_,_,_,_,_,_⟩:=f9 hY2;have n0:((code:Int) !=0)=true:=by simp;omega
  have n6:((code:Int)==6)=false:=by simp;omega
  have n7:((code:Int)==7)=false:=by simp;omega
  clear Is hY2;go_wp2_with fail;refine(DX Y code line).mono ?_;rintro e w3 ⟨rfl,eC⟩;have Nt:=(eC.block w1.heap.size (by omega)).trans Q7.out;have ji:=ae (fR.out.trans (eC.mono fR.out.size));clear a0 a1 a2 a3 a4 b0 b1 eC;obtain⟨a0,a1,_,_,_,_,_,_,_,_⟩:=f9 Nt;clear Nt;go_wp2_with fail;refine bodyPost_ret (v:=.tuple #[.string ⟨#[]⟩,.pointer none,.bool true]) (by simp[results,Tryz.results13,go_sem, *]) rfl ?_;exact⟨ji.out.mono hcc,⟨#[]⟩,none,vw,vr,[],rfl,by rw[List.append_nil];exact HH.out.below ji.out,by simp,.inl ⟨rfl,.inl ⟨_,_,HF.out⟩⟩⟩
 ·have HB:=ae (λW=>It s W ts vs gs ht hd hl ha)
  cases Rv:Cx.find vs (gs.map (·.a))with
  |none=>
   rw[Rv]at hm;subst hm;have hcf:Cx.DZ vs (gs.map (·.a))=0:=by unfold Cx.DZ;rw[Rv]
   obtain⟨oA,RM⟩:=Ln hd.1 hl ha;have HTB:Hid (∀W bx,(∃base gt vt F S L,Kg W base bx vt gt ts S F vs (gs.map (·.a)) L/\Cx.KeysOf vs (gs.map (·.a)) (L.map (fU vs)))->TbO W s bx vs gs):=ae (λW bx q=>⟨ts,ht,hd,hl,ha,q⟩);have HFD:=ae Rv;obtain⟨il,hi⟩:∃il,il=Cx.fF vs (gs.map (·.a)):=⟨_,rfl⟩;have HIL:=ae hi;have dl:(il==[])=false:=by obtain⟨l,e⟩:=yk vs (gs.map (·.a));rw[hi,e];rfl
   rw[<-hi]at oA RM|-;have Xl:=ae (λW=>zt ⟨il.toArray⟩ W (by show il.toArray.size<=_;grind));have HIM:=ae RM;have ym:=heap_alloc_new w1 (.cells (ay 0 0) 34);have TH:(w1.alloc (.cells (ay 0 0) 34)).heap.size=w1.heap.size+1:=by simp
   have mc:=bH.alloc bH.size (.cells (ay 0 0) 34);have pJ:=ae ym;have HZX:=ae TH;have fM:=ae mc;clear bH ym TH mc ht hd hl ha Rv RM hi;rw[show ay 0 0=#[.int .i64 0,.int .i64 0,.string ⟨#[]⟩,.slice none 0 0,.slice none 0 0]from rfl]at*;go_wp2_with fail;generalize w1.alloc (.cells #[.int .i64 0,.int .i64 0,.string ⟨#[]⟩,.slice none 0 0,.slice none 0 0] 34)=X at*;refine(HB.out X).mono ?_;rintro e w2 ⟨bx,r,rfl,hr,hO,aT⟩;rw[show(r:Int)=0 by omega];have HO:=ae hO;have jT:=aT.size;have hz:=HZX.out;have hF2:=(aT.block w1.heap.size (by omega)).trans pJ.out;have kc:=fM.out.trans (aT.mono fM.out.size);have lS:Below w2.heap.size w2 (w2.alloc (.cells (ay 0 0) 34)):=(Below.refl _ _).alloc (Nat.le_refl _) _;have Is:=(lS.block w1.heap.size (by omega)).trans hF2;have hY2:=heap_alloc_new w2 (.cells (ay 0 0) 34);have HBA:=ae lS;have DY:=kc.alloc kc.size (.cells (ay 0 0) 34);have hzY:(w2.alloc (.cells (ay 0 0) 34)).heap.size=w2.heap.size+1:=by simp
   have Q7:=ae Is;have fR:=ae DY;clear aT hF2 kc lS DY HB pJ fM hO hr;rw[show ay 0 0=#[.int .i64 0,.int .i64 0,.string ⟨#[]⟩,.slice none 0 0,.slice none 0 0]from rfl]at*;go_upto_region 3 with(fail);generalize w2.alloc (.cells #[.int .i64 0,.int .i64 0,.string ⟨#[]⟩,.slice none 0 0,.slice none 0 0] 34)=Y at*;obtain⟨a0,a1,a2,a3,a4,_,_,_,_,_⟩:=f9 Is;obtain⟨b0,b1,_,_,_,_,_,_,_,_⟩:=f9 hY2;clear Is hY2;go_wp2_with fail;refine(DX Y 0 0).mono ?_;rintro e w3 ⟨rfl,eC⟩;have Nt:=(eC.block w1.heap.size (by omega)).trans Q7.out;have ji:=ae (fR.out.trans (eC.mono fR.out.size));have F9:=ae (HBA.out.trans (eC.mono HBA.out.size));clear a0 a1 a2 a3 a4 b0 b1 eC;obtain⟨a0,a1,_,_,_,_,_,_,_,_⟩:=f9 Nt;clear Nt;go_wp2_with fail;refine(Xl.out w3).mono ?_;rintro e w4 ⟨er,hm⟩;rw[HIM.out]at hm;obtain⟨xb,_,_,_,rfl,_,_⟩:=hm;have nY:=ae (ji.out.trans (er.mono ji.out.size));have HA4:=ae (F9.out.trans (er.mono F9.out.size));clear er a0 a1;go_wp2_with fail;refine bodyPost_ret (v:=.tuple #[.string ⟨il.toArray⟩,.pointer (some ⟨bx,0,none⟩),.bool true]) (by simp[results,Tryz.results13,go_sem, *]) rfl ?_;exact⟨nY.out.mono hcc,_,_,vw,vr,[],rfl,by rw[List.append_nil];exact HH.out.below nY.out,by simp,.inr ⟨bx,vs,gs,rfl,HTB.out _ _ (let⟨a,b,c,d,e,f,g,h⟩:=HO.out;⟨a,b,c,d,e,f,g.below HA4.out,h⟩),HFD.out,by rw[HIL.out]⟩⟩
  |some cx=>
   obtain⟨code,nm,xs⟩:=cx;rw[Rv]at hm;obtain⟨v,u,rfl,jQ,j9,nM⟩:=hm;have hcf:Cx.DZ vs (gs.map (·.a))=code:=by unfold Cx.DZ;rw[Rv]
   have apE:=D0 Rv;have Oh:Hid (∃(ts:List Hx.Tok)(vs:List az)(gs:List MG),gM s ts/\Io ts vs (gs.map MG.a)/\Cx.find vs (gs.map MG.a)≠none):=ae ⟨ts,vs,gs,ht,hd,by grind⟩
   have HSH:Hid (∀(W:World)(bx b1 b2 cv cu:Nat)(av au:Option Addr),(∃base gt vt F S L,Kg W base bx vt gt ts S F vs (gs.map (·.a)) L/\Cx.KeysOf vs (gs.map (·.a)) (L.map (fU vs)))->W.ownsRow b1 3 1 (.slice av (xs.length/2) cv) (xs.length/2) ((xs.take (xs.length/2)).map (.int .i64))->W.ownsRow b2 3 1 (.slice au (xs.length/2) cu) (xs.length/2) ((xs.drop (xs.length/2)).map (.int .i64))->
     xs.length<=6/\xs.length=2*(xs.length/2)/\Calls Tryz.prog 39 #[.pointer (some ⟨bx,0,none⟩),.agg #[.int .i64 code,.int .i64 0,.string nm,.slice av (xs.length/2) cv,.slice au (xs.length/2) cu]] W λe w'=>e=.returned (.bool true)/\Below W.heap.size W w'):=ae (by
    rintro W bx b1 b2 cv cu av au ⟨base,gt,vt,F,S,L,hO,hK⟩ h1 h2;have hw:∀q∈Cx.bS vs (gs.map (·.a)),q.which<2*vs.length:=by
     intro q hq;obtain⟨was,nm,op,num,rfl,h1,_⟩:=hK q hq;simp only [Cx.nQ];split<;>omega
    obtain⟨k,_,_,hln,_⟩:=Nu hl ha.rc hO.Pk.af hO.vars hw Rv;have e:xs.length/2=vs.length:=by omega
    have hvf:=hO.Iu;rw[e]at h1 h2|-
    exact⟨by omega,by omega,Pl hO hl ha.rc hw code nm xs Rv b1 b2 cv cu av au h1 h2⟩)
   obtain⟨n,hn⟩:∃n,n=xs.length/2:=⟨_,rfl⟩;rw[<-hn]at jQ j9 HSH;have HN:=ae hn;clear hn;obtain⟨av,cv,rfl,_,_⟩:=aj jQ;obtain⟨au,cu,rfl,_,_⟩:=aj j9;have ym:=heap_alloc_new w1 (.cells #[.int .i64 code,.int .i64 0,.string nm,.slice av n cv,.slice au n cu] 34);have TH:(w1.alloc (.cells #[.int .i64 code,.int .i64 0,.string nm,.slice av n cv,.slice au n cu] 34)).heap.size=w1.heap.size+1:=by simp
   have mc:=bH.alloc bH.size (.cells #[.int .i64 code,.int .i64 0,.string nm,.slice av n cv,.slice au n cu] 34);have nZ:=ae (ah jQ (ag w1 (.cells #[.int .i64 code,.int .i64 0,.string nm,.slice av n cv,.slice au n cu] 34)));have lu:=ae (ah j9 (ag w1 (.cells #[.int .i64 code,.int .i64 0,.string nm,.slice av n cv,.slice au n cu] 34)));have Kc:=ae nM;have pJ:=ae ym;have HZX:=ae TH;have fM:=ae mc;clear bH ym TH mc ht hd hl ha Rv jQ j9 nM;go_wp2_with fail;generalize w1.alloc (.cells #[.int .i64 code,.int .i64 0,.string nm,.slice av n cv,.slice au n cu] 34)=X at*;refine(HB.out X).mono ?_;rintro e w2 ⟨bx,r,rfl,hr,hO,aT⟩;rw[show(r)=code by omega];have HO:=ae hO;have jT:=aT.size;have hz:=HZX.out;have hF2:=(aT.block w1.heap.size (by omega)).trans pJ.out;have kc:=fM.out.trans (aT.mono fM.out.size);have lS:Below w2.heap.size w2 (w2.alloc (.cells (ay code 0) 34)):=(Below.refl _ _).alloc (Nat.le_refl _) _;have Is:=(lS.block w1.heap.size (by omega)).trans hF2;have hY2:=heap_alloc_new w2 (.cells (ay code 0) 34);have DY:=kc.alloc kc.size (.cells (ay code 0) 34);have hXY:=aT.trans (lS.mono jT);have hOY:∃base gt vt F S L,Kg (w2.alloc (.cells (ay code 0) 34)) base bx vt gt ts S F vs (gs.map (·.a)) L/\Cx.KeysOf vs (gs.map (·.a)) (L.map (fU vs)):=let⟨a,b,c,d,e,f,g,h⟩:=hO;⟨a,b,c,d,e,f,g.below lS,h⟩;have hzY:(w2.alloc (.cells (ay code 0) 34)).heap.size=w2.heap.size+1:=by simp
   have Q7:=ae Is;have fR:=ae DY;have zk:=ae (ah nZ.out hXY);have mR:=ae (ah lu.out hXY);have HSY:=ae (HSH.out _ bx _ _ cv cu av au hOY zk.out mR.out);clear aT hF2 kc lS DY HB pJ fM hO hr hXY hOY HSH nZ lu HO;rw[show ay code 0=#[.int .i64 code,.int .i64 0,.string ⟨#[]⟩,.slice none 0 0,.slice none 0 0]from rfl]at*;go_upto_region 3 with(fail);generalize w2.alloc (.cells #[.int .i64 code,.int .i64 0,.string ⟨#[]⟩,.slice none 0 0,.slice none 0 0] 34)=Y at*;obtain⟨a0,a1,a2,a3,a4⟩:=eN Is;obtain⟨b0,b1,_,_,_,_,_,_,_,_⟩:=f9 hY2;clear Is hY2;have Ga:Hid (∀w3,Below Y.heap.size Y w3->Nl w3 cc kb vl vw vr us ps/\Below w.heap.size w w3):=ae (λw3 hb=>have q:=fR.out.trans (hb.mono fR.out.size);⟨HH.out.below q,q⟩);rcases apE with rfl|rfl
   all_goals
    go_wp2_with fail;refine HSY.out.2.2.mono ?_;rintro e w3 ⟨rfl,eC⟩;obtain⟨hx6,iB,_⟩:=HSY.out;obtain⟨GI,sJ⟩:=Ga.out w3 eC;have r1:=ah zk.out eC;have r2:=ah mR.out eC;have oS:=eC.size;have Nt:=(eC.block w1.heap.size (by omega)).trans Q7.out;have wl:=λk e=>HH.out.F8.lt k e
    have rl:=λk e=>HH.out.Q6.lt k e
    have HCA:=ae (Ic w3 cc kb n vl vw vr (.slice av n cv) us ps (xs.take n) GI (dF r1 hcc) (by simp;omega) (by simp;omega) (by omega) (λp hp k e1 e2=>by have:=(HH.out.rv p hp).lt k e1;have:=(r1.lt k e2);omega) (λu hu g e e2=>by have:=hus u hu g e;have:=r1.lt g e2;omega));have TI:=ae Nt;have afy:=ae r2;have afz:=ae r1;have ji:=ae sJ;have HWL:=ae wl;have Oi:=ae rl;clear a0 a1 a2 a4 b0 b1 eC Nt r1 r2 GI sJ wl rl a3 HSY zk mR Ga;have a3:=rQ TI.out;go_wp2_with fail;refine HCA.out.mono ?_;rintro e w4 ⟨rfl,⟨vw4,vr4,u4,hW4⟩,tL⟩;have fl:∀k,(k=kb\/vw.ownBlock=some k\/vr.ownBlock=some k)->cc<=k/\k<w.heap.size:=λk e=>by
     rcases e with rfl|e|e
     ·exact⟨hk,QP⟩
     ·exact HWL.out k e
     ·exact Oi.out k e
    have hF4:=(tL.block w1.heap.size (by omega) (λe=>by have:=fl _ e;omega)).trans TI.out;have r2:=tL.own afy.out (λk e q=>by have:=fl _ q;have:=afy.out.lt k e;omega);have hB4:=(ji.out.mono hcc).trans (tL.toBelow (λk e=>(fl k e).1) (by omega))
    have HCB:=ae (Ic w4 cc kb n vl vw4 vr4 (.slice au n cu) us _ (xs.drop n) hW4 (dF r2 hcc) (by simp;omega) (by simp;omega) (by simp;omega) (λp hp k e1 e2=>by
     have:=r2.lt k e2;rcases List.mem_append.1 hp with hp|hp
     ·have:=(HH.out.rv p hp).lt k e1;omega
     ·rw[List.mem_singleton]at hp;subst hp;exact Kc.out k e1 e2) (λu hu g e e2=>by have:=hus u hu g e;have:=r2.lt g e2;omega))
    have nY:=ae hB4;have HW4:=ae hW4;have hs4:=tL.size;clear a3 fl r2 hB4 hW4 HCA TI afy afz ji tL;have a4:=oh hF4;clear hF4;go_wp2_with fail;refine HCB.out.mono ?_;rintro e w5 ⟨rfl,⟨vw5,vr5,u5,hW5⟩,lm⟩
    have wj:=nY.out.trans (lm.toBelow (λk e=>by
     rcases e with rfl|e|e
     ·exact hk
     ·exact(HW4.out.F8.lt k e).1
     ·exact(HW4.out.Q6.lt k e).1) (by omega))
    rw[List.append_assoc]at hW5;have vT:=ae wj;have HW5:=ae hW5;clear wj hW5 lm a4;go_wp2_with fail;refine bodyPost_ret (v:=.tuple #[.string ⟨#[]⟩,.pointer none,.bool true]) (by simp[results,Tryz.results13,go_sem, *]) rfl ?_;exact⟨vT.out,⟨#[]⟩,none,_,_,_,rfl,HW5.out,by simp,.inl ⟨rfl,.inr Oh.out⟩⟩
theorem TJ(hb:w.heap[kb]?=some (.cells #[.slice none 0 0,.slice none 0 0,.slice none 0 0] 26 (0,0))):Nl w kb kb (.slice none 0 0) (.slice none 0 0) (.slice none 0 0) [] []:=
 ⟨⟨hb,Nat.le_of_lt (bo hb),World.ownsRow_nil _ _ _ _,⟨0,rfl⟩,λi hi=>absurd hi (Nat.not_lt_zero _),λi hi=>absurd hi (Nat.not_lt_zero _)⟩,World.ownsRow_nil _ _ _ _,World.ownsRow_nil _ _ _ _,λp hp=>absurd hp (List.not_mem_nil),λp hp=>absurd hp (List.not_mem_nil),λp hp=>absurd hp (List.not_mem_nil),λk e=>absurd e (by simp[Value.ownBlock]),λk e=>absurd e (by simp[Value.ownBlock]),λk e=>absurd e (by simp[Value.ownBlock]),.nil,λp hp=>absurd hp (List.not_mem_nil)⟩
theorem Pm{ps:List WP}(h:CdR ⟨gE.toArray⟩ cc kb vl us ps w e w'):Below cc w w'/\∃il pv vw vr qs,e=.returned (.tuple #[.string ⟨(72::il).toArray⟩,.pointer pv,.bool true])/\Nl w' cc kb vl vw vr us (ps++qs)/\qs.length<=2:=by
 obtain⟨hb,img,pv,vw,vr,qs,he,h1,h2,h3⟩:=h;rcases h3 with⟨_,⟨c,l,h3⟩|⟨ts,vs,gs,ht,hd,hn⟩⟩|⟨_,vs,gs,_,_,_,rfl⟩
 ·grind[Il]
 ·exact absurd (Lm ht hd.1) hn
 ·obtain⟨il,hi⟩:=yk vs (gs.map MG.a)
  grind
theorem TK{ps:List WP}(h:CdR ⟨mI.toArray⟩ cc kb vl us ps w e w'):Below cc w w'/\∃pv vw vr qs,e=.returned (.tuple #[.string ⟨#[]⟩,.pointer pv,.bool true])/\Nl w' cc kb vl vw vr us (ps++qs)/\qs.length<=2:=by
 obtain⟨hb,img,pv,vw,vr,qs,he,h1,h2,h3⟩:=h;rcases h3 with⟨rfl,_⟩|⟨_,vs,gs,_,⟨ts,ht,hd,_⟩,hf,_⟩
 ·grind
 ·exact absurd hf (Ph ht hd.1)
theorem EZ(s:ByteArray)(w:World)(hs:s.size<=maxLen)(rk:fg w)(ic:∀W,Below w.heap.size w W->Lib.TabIs Tryz.prog W "internal/strconv.uint64pow10" .u64 Lib.pow10Tab):
  Calls Tryz.prog 4 #[.string s] w λe w'=>e=.returned (.bool true)/\Below w.heap.size w w':=by
 have HC:=ae (λ(x) (hx) (W) (hW) (vw vr) (ps) (hB) (hp)=>EY x W w.heap.size w.heap.size (.slice none 0 0) vw vr [] ps hB (Nat.le_refl _) (λu hu=>absurd hu (List.not_mem_nil)) hp hx (rk.below hW (Nat.le_refl _)) (λV hV=>ic V (hW.trans (hV.mono hW.size))));have Lp:Hid (Below w.heap.size w (w.alloc (.cells #[.slice none 0 0,.slice none 0 0,.slice none 0 0] 26))):=ae (ag _ _);have HW0:=ae (TJ (heap_alloc_new w (.cells #[.slice none 0 0,.slice none 0 0,.slice none 0 0] 26)));clear rk ic;go_enter Tryz.func4,Tryz.ntmps4;go_wp2_with fail;generalize w.alloc (.cells #[.slice none 0 0,.slice none 0 0,.slice none 0 0] 26)=W at*;refine(HC.out ⟨gE.toArray⟩ (by unfold maxLen;decide+kernel) W Lp.out _ _ _ HW0.out (by simp)).mono ?_;rintro e w1 h;obtain⟨bH,il,p1,vw1,vr1,q1,rfl,ov,J4⟩:=Pm h;have b6:=ae (Lp.out.trans bH);have og:=ae ov;rw[List.nil_append]at og;clear h bH ov;go_wp2_with fail;refine(HC.out ⟨mI.toArray⟩ (by unfold maxLen;decide+kernel) w1 b6.out _ _ _ og.out (by omega)).mono ?_;rintro e w2 h;obtain⟨aT,p2,vw2,vr2,q2,rfl,QV,J5⟩:=TK h;have dH:=ae (b6.out.trans aT);have HW2:=ae QV;clear h aT QV;go_wp2_with fail;refine(HC.out s hs w2 dH.out _ _ _ HW2.out (by grind)).mono ?_;rintro e w3 ⟨eC,i3,p3,vw3,vr3,q3,rfl,GI,Zo,_⟩;have ji:=ae (dH.out.trans eC);have RW:=ae GI;clear eC GI;go_wp2_with fail;refine(HC.out s hs w3 ji.out _ _ _ RW.out (by grind)).mono ?_;rintro e w4 ⟨er,i4,p4,vw4,vr4,q4,rfl,hW4,hq4,_⟩;have nY:=ae (ji.out.trans er);have HW4:=ae hW4;clear er hW4;go_wp2_with fail;refine(Ig w4 _ _ _ _ _ _ _ HW4.out (by grind) (by simp)).mono ?_;rintro e w5 ⟨rfl,⟨vl5,us5,hI5,hl5⟩,lm⟩
 have wj:=nY.out.trans (lm.toBelow (λk e=>by
  rcases e with rfl|e|⟨p,hp,e⟩
  ·omega
  ·cases e
  ·exact((HW4.out.rv p hp).lt k e).1) HW4.out.bk.le)
 obtain⟨al,cl,rfl,hL⟩:=hI5.lists;have HL:=ae (Oa w5 w.heap.size cl al _ _ us5 hI5.box hL (by grind));have vT:=ae wj;clear wj hI5 hL lm hl5;go_wp2_with fail;refine HL.out.mono ?_;rintro e w6 ⟨rfl,rfl⟩;go_wp2_with fail;go_ret;exact⟨rfl,vT.out⟩
