/- The parser's grammar by what the stack of symbols answers; guards as trees and what they ask; nothing of the program is asked here. -/
import Derived.Test.YtdjaiolfdbamcaaGreatDoorZWScan6
namespace Go.Proofs.YtdjaiolfdbamcaaGreatDoor
variable {a b m:List (List UInt8)}{y:List UInt8}{R line:Nat}
section
namespace Hx
def Good(t:Tok):Prop:=t.k=101\/t.k=110\/t.k=105\/(t.k=119/\t.s.data.toList∈dW)\/(t.k=115/\t.s.data.toList∈nt)
def Txt(t:Tok):Prop:=(t.k=110->t.s.toList≠[])/\(t.k=105->t.s.toList=iy t.n/\-9999<=t.n/\t.n<=9999)
structure S6(ts:List Tok):Prop where
 oM:ts.length<=3001
 fin:∀i (hi:i<ts.length),ts[i].k≠101->i+1<ts.length
 good:∀t∈ts,Good t
 QX:∀t∈ts,Txt t
theorem bY{t:Tok}(h:Good t)(m:List UInt8)(hm:m∈dW):aq t m=eQ t m:=by
 unfold aq eQ;rw[Lib.toList_data];rcases h with h|h|h|⟨h,hs⟩|⟨h,hs⟩
 ·grind[ao]
 ·grind[ao]
 ·grind[ao]
 ·grind[ao]
 ·rw[h]
  have:t.s.data.toList≠m:=λe=>by
   rw[e]at hs;revert hs hm;have:∀a∈dW,a∉nt:=by decide
   grind
  grind
theorem kI{t:Tok}(h:Good t)(m:List UInt8)(hm:m∈nt):aq t m=isS t m:=by
 unfold aq isS;rw[Lib.toList_data];rcases h with h|h|h|⟨h,hs⟩|⟨h,hs⟩
 ·grind[ao]
 ·grind[ao]
 ·grind[ao]
 ·rw[h]
  have:t.s.data.toList≠m:=λe=>by
   rw[e]at hs;revert hs hm;have:∀a∈nt,a∉dW:=by decide
   grind
  grind
 grind[ao]
def F5(st:List (List UInt8))(l:List Tok)(R:Nat):Prop:=∃f,dX f st l=some R
def Ok(st:List (List UInt8))(l l':List Tok):Prop:=∀rest R,F5 rest l' R->F5 (st++rest) l R
def eo(st:List (List UInt8))(l:List Tok)(line:Nat):Prop:=∀rest,F5 (st++rest) l line
theorem Ok.nil(l:List Tok):Ok [] l l:=λ_ _ h=>h
theorem Ok.app{l m n:List Tok}(h:Ok a l m)(k:Ok b m n):Ok (a++b) l n:=λrest R h1=>by
 rw[List.append_assoc];exact h _ _ (k _ _ h1)
theorem Ok.cons{l m n:List Tok}(h:Ok [y] l m)(k:Ok b m n):Ok (y::b) l n:=h.app k
theorem Ok.bad{l m:List Tok}(h:Ok a l m)(k:eo b m line):eo (a++b) l line:=λrest=>by
 rw[List.append_assoc];exact h _ _ (k _)
theorem Ok.dM{l m:List Tok}(h:Ok [y] l m)(k:eo b m line):eo (y::b) l line:=h.bad k
theorem eo.app{l:List Tok}(h:eo a l line):eo (a++b) l line:=λrest=>by
 rw[List.append_assoc];exact h _
theorem eo.cons{l:List Tok}(h:eo [y] l line):eo (y::b) l line:=h.app
theorem Ok.aU{t:Tok}{r l':List Tok}(hm:aA y t=some m)(h:Ok m (t::r) l'):Ok [y] (t::r) l':=λrest R hR=>by
 obtain⟨f,hf⟩:=h rest R hR;exact⟨f+1,by grind[dX]⟩
theorem eo.aU{t:Tok}{r:List Tok}(hm:aA y t=some m)(h:eo m (t::r) line):eo [y] (t::r) line:=λrest=>by
 obtain⟨f,hf⟩:=h rest;exact⟨f+1,by grind[dX]⟩
theorem Ok.fits{t:Tok}{r:List Tok}(hm:aA y t=none)(hf:fh y t=true):Ok [y] (t::r) r:=λrest R hR=>by
 obtain⟨f,h⟩:=hR;exact⟨f+1,by simp_all[List.cons_append,List.nil_append,dX]⟩
theorem eo.fits{t:Tok}{r:List Tok}(hm:aA y t=none)(hf:fh y t=false):eo [y] (t::r) t.line:=λrest=>
 ⟨1,by grind[dX]⟩
structure jZ(w:Option Tok)(n o i:Tok):Prop where
 was:∀t,w=some t->t.k=119/\t.s.toList=ew
 nm:n.k=110
 op:o.k=115
 num:i.k=105
 QX:Txt i
 six:o.s.toList∈rT
inductive G where
 |or (l r:G)
 |and (l r:G)
 |not (g:G)
 |group (t:Tok) (g:G)
 |gZ
 |atom (was:Option Tok) (nm op num:Tok) (ok:jZ was nm op num)
def G.deep:G->Nat
 | .or l r=>l.deep+r.deep
 | .and l r=>l.deep+r.deep
 | .not g=>g.deep
 | .group _ g=>g.deep+1
 | .gZ=>0
 | .atom _ _ _ _ _=>0
def G.pC:G->Int->St->St
 | .or l r,d,s=>r.pC d (l.pC d s)
 | .and l r,d,s=>r.pC d (l.pC d s)
 | .not g,d,s=>g.pC d s
 | .group t g,d,s=>g.pC (d+1) (s.aS (d==6) 1 t.line)
 | .gZ,_,s=>s
 | .atom (some w) nm op num _,_,s=>s.atom [w,nm,op,num] nm num
 | .atom none nm op num _,_,s=>s.atom [nm,op,num] nm num
def GS(l l':List Tok)(f:Int->St->St):Prop:=∀prev d s,eQ prev ew=false->∃adt,eQ adt ew=false/\∀k R,gF k adt l' d (f d s)=some R->∃k',gF k' prev l d s=some R
theorem GS.trans{l m n:List Tok}{f g:Int->St->St}(h:GS l m f)(k:GS m n g):GS l n (λd s=>g d (f d s)):=λprev d s hp=>by
 obtain⟨p1,h1,e1⟩:=h prev d s hp;obtain⟨p2,h2,e2⟩:=k p1 d (f d s) h1
 grind
theorem GS.skip{t:Tok}{r:List Tok}(h1:t.k=119)(h2:oG.contains t.s.data.toList=true)(h3:eQ t ew=false):GS (t::r) r (λ_ s=>s):=λprev d s _=>
 ⟨t,h3,λk R hR=>⟨k+1,by
  simp_all[gF,Bool.false_eq_true,isS,qU,jY]⟩⟩
theorem GS.uV{n o i:Tok}{r:List Tok}(h1:n.k=110)(h2:i.k=105):GS (n::o::i::r) r (λ_ s=>s.atom [n,o,i] n i):=λprev d s hp=>
 ⟨i,by simp[eQ,h2],λk R hR=>⟨k+1,by
  simp_all[gF,Bool.false_eq_true,isS,qU,jY]⟩⟩
theorem GS.uW{w n o i:Tok}{r:List Tok}(h0:eQ w ew=true)(h1:n.k=110)(h2:i.k=105):GS (w::n::o::i::r) r (λ_ s=>s.atom [w,n,o,i] n i):=λprev d s hp=>
 ⟨i,by simp[eQ,h2],λk R hR=>⟨k+2,by
  have hw:=by simpa[eQ]using h0
  have b1:isS w jY=false:=by simp[isS,hw.1]
  have b2:isS w qU=false:=by simp[isS,hw.1]
  have a1:isS n jY=false:=by simp[isS,h1]
  have a2:isS n qU=false:=by simp[isS,h1]
  have c1:(w.k==119&&oG.contains w.s.data.toList)=true:=by rw[hw.1,hw.2];decide
  simp_all[gF,Bool.false_eq_true]⟩⟩
theorem GS.group{t p:Tok}{l r:List Tok}{f:Int->St->St}(ht:isS t jY=true)(hp:isS p qU=true)(h:GS l (p::r) f):GS (t::l) r (λd s=>f (d+1) (s.aS (d==6) 1 t.line)):=λprev d s _=>by
 have ht':=by simpa[isS]using ht
 have ER:=by simpa[isS]using hp
 obtain⟨p1,h1,e1⟩:=h t (d+1) (s.aS (d==6) 1 t.line) (by grind[eQ]);refine⟨p,by grind[eQ],λk R hR=>?_⟩
 obtain⟨k1,fL⟩:=e1 (k+1) R (by
  simp_all[Int.add_sub_cancel,gF,Bool.false_eq_true,isS,jY])
 exact⟨k1+1,by simp_all[gF]⟩
theorem pE{t:Tok}(h:Good t)(m:List UInt8)(hm:m∈dW\/m∈nt):fh m t=aq t m/\aA m t=none:=by
 have iO:∀a∈dW++nt,a≠cB/\a≠eP/\a≠wF/\a≠b9/\a≠e9/\a≠dU/\a≠bJ/\a≠g9/\a≠dc/\a≠jg/\a≠eO/\a≠fb/\a≠bW:=by decide
 obtain⟨n1,n2,n3,n4,n5,n6,n7,n8,n9,n10,n11,n12,n13⟩:=iO m (by grind);constructor
 ·unfold fh aq
  rw[if_neg n1,if_neg n2,if_neg n3,Lib.toList_data];rcases h with h|h|h|⟨h,hs⟩|⟨h,hs⟩<;>rw[h]<;>simp[ao]
 simp_all[aA]
theorem cE{t:Tok}(h:Good t)(m:List UInt8)(hm:m∈dW\/m∈nt)(r:List Tok)(e:aq t m=true):Ok [m] (t::r) r:=
 Ok.fits (pE h m hm).2 ((pE h m hm).1.trans e)
theorem jO{t:Tok}(h:Good t)(m:List UInt8)(hm:m∈dW\/m∈nt)(r:List Tok)(e:aq t m=false):eo [m] (t::r) t.line:=
 eo.fits (pE h m hm).2 ((pE h m hm).1.trans e)
theorem DO{t:Tok}(_:Good t):fh cB t=(ao t.k==1):=by
 unfold fh;rw[if_pos rfl]
 grind[ao]
theorem Ht{t:Tok}(_:Good t):fh eP t=(ao t.k==2):=by
 unfold fh;rw[if_neg (by decide),if_pos rfl]
 grind[ao]
theorem pF{t:Tok}(h:Good t)(r:List Tok)(e:(ao t.k==1)=true):Ok [cB] (t::r) r:=Ok.fits rfl ((DO h).trans e)
theorem sC{t:Tok}(h:Good t)(r:List Tok)(e:(ao t.k==1)=false):eo [cB] (t::r) t.line:=eo.fits rfl ((DO h).trans e)
theorem Ld{t:Tok}(h:Good t)(r:List Tok)(e:(ao t.k==2)=true):Ok [eP] (t::r) r:=Ok.fits rfl ((Ht h).trans e)
theorem ES{t:Tok}(h:Good t)(r:List Tok)(e:(ao t.k==2)=false):eo [eP] (t::r) t.line:=eo.fits rfl ((Ht h).trans e)
theorem uq{t:Tok}(_:Good t)(e:(ao t.k==1)=true):t.k=110:=by
 grind[ao]
theorem S7{t:Tok}(_:Good t)(e:(ao t.k==2)=true):t.k=105:=by
 grind[ao]
end Hx
namespace Hx
theorem Ni(f:Nat):∀prev l d s R,gF f prev l d s=some R->∀k,gF (f+k) prev l d s=some R:=by
 induction f with
 |zero=>grind[gF]
 |succ f ih=>
  intro prev l d s R h k;rw[Nat.add_right_comm]
  cases l with
  |nil=>simp[gF]at h
  |cons t r=>
   simp only [gF]at h|-
   grind
theorem ur(f:Nat):∀l inn d dear s S,dk f l inn d dear s=some S->∀k,dk (f+k) l inn d dear s=some S:=by
 induction f with
 |zero=>grind[dk]
 |succ f ih=>
  intro l inn d dear s S h k;rw[Nat.add_right_comm]
  cases l with
  |nil=>simp[dk]at h
  |cons t r=>
   by_cases h1:t.k=101
   ·simp_all[dk]
   cases e1:(t.s.toList==eE)with
   |true=>
    obtain⟨a,b,c,d',e,r',rfl,hN⟩:=wI h h1 e1;simp only [dk,if_neg h1,e1,if_true];grind
   |false=>
   cases e2:(t.s.toList==aO)with
   |true=>
    have hN:=lE h h1 e1 e2
    simp_all[dk,Bool.false_eq_true]
   |false=>
   cases e3:(t.s.toList==cS)with
   |true=>
    obtain⟨a,b,r',rfl,hN⟩:=r5 h h1 e1 e2 e3
    simp_all[dk,Bool.false_eq_true]
   |false=>
   cases e4:(t.s.toList==dB)with
   |true=>
    obtain⟨S8,DR,s2,d',a,r',hg,hN⟩:=r7 h h1 e1 e2 e3 e4;simp only [dk,if_neg h1,e1,e2,e3,e4,if_true,Bool.false_eq_true,if_false,if_pos (And.intro S8 DR),Ni f _ _ _ _ _ hg k]
    grind
   |false=>
    obtain⟨S8,DR,hN⟩:=r8 h h1 e1 e2 e3 e4;simp only [dk,if_neg h1,e1,e2,e3,e4,Bool.false_eq_true,if_false,dif_pos (And.intro S8 DR)];grind
structure bD where
 wh:Tok
 g:G
 dest:Option Tok
 gd:List Tok
 ok:∀a,dest=some a->a.s.toList≠[]
 deep:g.deep<=3001
structure MA where
 name:Tok
 dflt:Bool
 depth:Nat
 outer:Int
 rows:List bD
def bD.p(r:bD):vV:=match r.dest with|none=>⟨⟨#[]⟩,0,r.gd⟩|some a=>⟨a.s,a.line,r.gd⟩
def St.row(s:St)(q:Nat)(r:bD):St:=let s2:=r.g.pC 0 (s.ff r.wh);{s2 with af:=cy s2.af q r.p}
def St.jn(s:St)(q:Nat)(rs:List bD):St:=rs.foldl (λs r=>s.row q r) s
def St.mode(s:St)(m:MA):St:=(s.bT m.name m.outer m.depth m.dflt).jn s.af.length m.rows
def St.cT(s:St)(ms:List MA):St:=ms.foldl St.mode s
def SS(l:List Tok)(inn d:Int)(dear:Bool)(s:St)(l':List Tok)(Le d':Int)(Nj:Bool)(s':St):Prop:=∀f S,dk f l' Le d' Nj s'=some S->∃f',dk f' l inn d dear s=some S
theorem SS.refl(l:List Tok)(inn d:Int)(dear:Bool)(s:St):SS l inn d dear s l inn d dear s:=λf _ h=>⟨f,h⟩
theorem SS.trans{l1 l2 l3:List Tok}{i1 i2 i3 d1 d2 d3:Int}{b1 b2 b3:Bool}{s1 s2 s3:St}(h:SS l1 i1 d1 b1 s1 l2 i2 d2 b2 s2)(k:SS l2 i2 d2 b2 s2 l3 i3 d3 b3 s3):SS l1 i1 d1 b1 s1 l3 i3 d3 b3 s3:=λf S hS=>by
 obtain⟨f1,h1⟩:=k f S hS;exact h f1 S h1
theorem nu{t:Tok}(hg:Good t)(hy:y∈dW)(hm:aq t y=true):t.k=119/\t.s.toList=y:=by
 grind[Lib.toList_data,eQ,bY]
theorem SS.row{t d a:Tok}{l l1 r':List Tok}{g:G}{dest:Option Tok}{inn dp:Int}{dear:Bool}{s:St}(ht:t.k=119/\t.s.toList=dB)(hg:GS l (d::l1) g.pC)(tQ:0<=inn/\inn<s.af.length)(wM:∀a,dest=some a->a.s.toList≠[])(ud:g.deep<=3001)
  (hd:(d.k=119/\d.s.toList=kn/\dest=none/\l1=a::r')\/(d.k=119/\d.s.toList=t6/\dest=some a/\∃e,l1=a::e::r')):
  SS (t::l) inn dp dear s r' inn dp dear (s.row inn.toNat ⟨t,g,dest,xE l l1,wM,ud⟩):=λf S hS=>by
 obtain⟨p1,_,e1⟩:=hg t 0 (s.ff t) (by grind[eQ,Lib.toList_data]);have hk:d.k=119:=by rcases hd with h|h<;>exact h.1
 have OY:oG.contains d.s.data.toList=false:=by rw[<-Lib.toList_data];rcases hd with h|h<;>rw[h.2.1]<;>decide
 obtain⟨k,vY⟩:=e1 1 (g.pC 0 (s.ff t),d::l1) (by
  simp_all[gF,isS,qU,jY])
 refine⟨k+f+1,?_⟩;have n1:¬t.k=101:=by omega
 have q1:(t.s.toList==eE)=false:=by rw[ht.2];decide
 have q2:(t.s.toList==aO)=false:=by rw[ht.2];decide
 have q3:(t.s.toList==cS)=false:=by rw[ht.2];decide
 have q4:(t.s.toList==dB)=true:=by rw[ht.2];decide
 simp only [dk,if_neg n1,q1,q2,q3,q4,if_true,Bool.false_eq_true,if_false,if_pos tQ,Ni k _ _ _ _ _ vY f];have hS':=ur f _ _ _ _ _ _ hS k;rw[Nat.add_comm f k]at hS';rcases hd with⟨_,h1,rfl,rfl⟩|⟨_,h1,rfl,e,rfl⟩
 ·simp only [h1];exact hS'
 ·simp only [h1];exact hS'
end Hx
namespace Hx
inductive jG:Nat->List Tok->G->List Tok->Prop
 |gZ {t:Tok} {r:List Tok} (h:aq t dQ=true):jG 0 (t::r) .gZ r
 |not {t:Tok} {r r':List Tok} {g:G} (h:aq t eK=true) (d:jG 0 r g r'):jG 0 (t::r) (.not g) r'
 |group {t p:Tok} {r r':List Tok} {g:G} (h:aq t jY=true) (d:jG 4 r g (p::r')) (hp:aq p qU=true):jG 0 (t::r) (.group t g) r'
 |uV {n o i:Tok} {r:List Tok} (ok:jZ none n o i):jG 0 (n::o::i::r) (.atom none n o i ok) r
 |uW {w n o i:Tok} {r:List Tok} (ok:jZ (some w) n o i):jG 0 (w::n::o::i::r) (.atom (some w) n o i ok) r
 |c0 {l l':List Tok} {g:G} (d:jG 0 l g l'):jG 1 l g l'
 |c1 {l m l':List Tok} {a:Tok} {g h:G} (d:jG 1 l g (a::m)) (ha:aq a gY=true) (e:jG 0 m h l'):jG 1 l (.and g h) l'
 |c2 {l m:List Tok} {a:Tok} {g:G} (d:jG 1 l g (a::m)) (ha:aq a gY=false):jG 2 l g (a::m)
 |g0 {l l':List Tok} {g:G} (d:jG 2 l g l'):jG 3 l g l'
 |g1 {l m l':List Tok} {a:Tok} {g h:G} (d:jG 3 l g (a::m)) (ha:aq a qh=true) (e:jG 2 m h l'):jG 3 l (.or g h) l'
 |g2 {l m:List Tok} {a:Tok} {g:G} (d:jG 3 l g (a::m)) (ha:aq a qh=false):jG 4 l g (a::m)
def sD(Y:List (List UInt8)):Nat:=if Y=[dc]then 4 else if Y=[eO]then 2 else 0
theorem yb:sD [dc]=4:=by decide
theorem ET:sD [eO]=2:=by decide
theorem pH:sD [bW]=0:=by decide
structure GD(Y:List (List UInt8))(l l':List Tok)(g:G):Prop where
 gs:GS l l' g.pC
 vj:jG (sD Y) l g l'
def ajO(l:List Tok)(dest:Option Tok)(l':List Tok):Prop:=
 (∃t sc,l=t::sc::l'/\aq t kn=true/\aq sc t7=true/\dest=none)\/(∃t a sc,l=t::a::sc::l'/\aq t t6=true/\a.k=110/\aq sc t7=true/\dest=some a)
def EU(l:List Tok)(r:bD)(l':List Tok):Prop:=∃l1 l2,l=r.wh::l1/\aq r.wh dB=true/\jG 4 l1 r.g l2/\ajO l2 r.dest l'/\r.gd=l1.take (l1.length-l2.length)
inductive oP:List Tok->List bD->List Tok->Prop
 |nil (l:List Tok):oP l [] l
 |snoc {l m l':List Tok} {rs:List bD} {r:bD} (h:oP l rs m) (k:EU m r l'):oP l (rs++[r]) l'
inductive MD:Bool->List Tok->Int->Bool->Nat->Nat->List MA->List Tok->Prop
 |none (l:List Tok) (o:Int) (d n:Nat):MD true l o false d n [] l
 |dear {l m l':List Tok} {o:Int} {d n:Nat} {ext ex:List MA} {t:Tok} (h:MD true l o false d n ext (t::m)) (ht:aq t aO=true) (k:MD false m o true d (n+ext.length) ex l'):MD true l o false d n (ext++ex) l'
 |more {l m l':List Tok} {o:Int} {d n:Nat} {ext ex:List MA} {t:Tok} (h:MD true l o false d n ext (t::m)) (ht:aq t aO=false) (hm:aq t cS=true) (k:MD false (t::m) o false d (n+ext.length) ex l'):MD true l o false d n (ext++ex) l'
 |mode {t nm lb rb t2:Tok} {l1 l2 l':List Tok} {o:Int} {df:Bool} {d n:Nat} {rs:List bD} {ext:List MA} (ht:aq t cS=true) (hn:nm.k=110) (hl:aq lb Dz=true) (hr:oP l1 rs (t2::l2)) (h2:aq t2 dB=false)
   (h:MD true (t2::l2) n false (d+1) (n+1) ext (rb::l')) (hb:aq rb M3=true):MD false (t::nm::lb::l1) o df d n (⟨nm,df,d,o,rs⟩::ext) l'
end Hx
namespace Hx
theorem Lf(f:Nat):∀n,32∉g8 f n:=by
 have hd:∀n:Nat,UInt8.ofNat (48+n%10)≠32:=by
  intro n e;have:n%10<10:=Nat.mod_lt _ (by omega);have h2:=congrArg UInt8.toNat e;rw[UInt8.toNat_ofNat_of_lt' (by grind)]at h2;have:(32:UInt8).toNat=32:=rfl;omega
 induction f<;>grind[g8,List.mem_singleton]
theorem Lg(n:Int):32∉iy n:=by
 grind[Lf,iy]
theorem S9(n:Int):(iy n).length<=8:=by
 grind[iy,xu]
structure TP(line:Nat)(t:Tok):Prop where
 good:Good t
 QX:Txt t
 ok:lD t
 ne:t.k≠101
 at_:t.line=line
theorem Ta{p:UInt8->Bool}{c:UInt8}{r:List UInt8}(h:p c=true):0<aB p (c::r):=by simp[aB,h]
theorem aaf(l:List UInt8)(h:bg l≠0):l.take (bg l)∈nt/\bg l<=2/\bg l<=l.length:=by
 match l with
 |[]=>simp[bg]at h
 |[a]=>
  simp only [bg]at h|-;split
  ·rename_i h1
   refine⟨?_,by omega,by simp⟩;simp only [Bool.or_eq_true,beq_iff_eq]at h1;rcases h1 with(((((h1|h1)|h1)|h1)|h1)|h1)|h1<;>subst h1<;>decide
  grind
 |a::b::r=>
  simp only [bg]at h|-;split
  ·rename_i h1
   refine⟨?_,by omega,by simp⟩;simp only [Bool.or_eq_true,Bool.and_eq_true,beq_iff_eq]at h1;rcases h1 with(((h1|h1)|h1)|h1)|h1<;>obtain⟨h1,h2⟩:=h1<;>subst h1 h2<;>simp only [List.take_succ_cons,List.take_zero]<;>decide
  ·rename_i h0
   rw[if_neg h0]at h;split
   ·rename_i h1
    refine⟨?_,by omega,by simp⟩;simp only [Bool.or_eq_true,beq_iff_eq]at h1;rcases h1 with(((((h1|h1)|h1)|h1)|h1)|h1)|h1<;>subst h1<;>simp only [List.take_succ_cons,List.take_zero]<;>decide
   grind
theorem OZ:∀s∈nt,32∉s:=by decide
theorem Tb(c:UInt8)(r:List UInt8)(line n:Nat)(t:Tok)(nJ:line<=3001)(h:dP (c::r) line=some (n,t)):0<n/\n<=(c::r).length/\TP line t:=by
 unfold dP at h;simp only at h;generalize hmn:(if(c::r).head?=some 45 then 1 else 0)=mn at h;have Q0:mn<=1:=by rw[<-hmn];split<;>omega
 split at h
 ·rename_i hd
  split at h
  ·cases h
  ·rename_i h4
   simp only [Option.some.injEq,Prod.mk.injEq]at h;obtain⟨rfl,rfl⟩:=h;have hle:=fC bq ((c::r).drop mn);rw[List.length_drop]at hle;have vZ:=mt ⟨(c::r).toArray⟩ mn (aB bq ((c::r).drop mn)) (by simp) (by omega);simp only at vZ;generalize numOf (((c::r).drop mn).take (aB bq ((c::r).drop mn)))=v at*;have hv:-9999<=(if mn=1 then-v else v)/\(if mn=1 then-v else v)<=9999:=by split<;>omega
   generalize (if mn=1 then-v else v)=v' at*;have hsz:(⟨(iy v').toArray⟩:ByteArray).size=(iy v').length:=by simp[ByteArray.size]
   refine⟨by omega,by omega,⟨.inr (.inr (.inl rfl)),⟨λh=>by simp at h,λ_=>⟨by simp,hv.1,hv.2⟩⟩,⟨by grind[S9],by grind[Lg],hv.1,hv.2,nJ,by simp⟩,by simp,rfl⟩⟩
 ·split at h
  ·rename_i lx
   split at h
   ·cases h
   ·rename_i h8
    simp only [Option.some.injEq,Prod.mk.injEq]at h;obtain⟨rfl,rfl⟩:=h;have ajP:=by simpa using lx
    have kM:=Ta (r:=r) (py ajP);have hle:=fC eG (c::r);have eS:32∉(c::r).take (aB eG (c::r)):=λh=>by
     have:=Dx eG _ 32 h;revert this;decide
    have hne:(c::r).take (aB eG (c::r))≠[]:=by
     obtain⟨q,hq⟩:∃q,aB eG (c::r)=q+1:=⟨aB eG (c::r)-1,by omega⟩;rw[hq];simp
    have hln:((c::r).take (aB eG (c::r))).length<=8:=by rw[List.length_take];omega
    generalize (c::r).take (aB eG (c::r))=x at*;refine⟨kM,hle,?_⟩
    by_cases hw:dW.contains x=true
    ·rw[if_pos hw]
     exact⟨.inr (.inr (.inr (.inl ⟨rfl,by grind⟩))),⟨λh=>by simp at h,λh=>by simp at h⟩,⟨by grind[ByteArray.size],by omega,by simp,by simp,nJ,by simp⟩,by simp,rfl⟩
    ·rw[if_neg hw]
     exact⟨.inr (.inl rfl),⟨λ_=>by simp_all,λh=>by simp at h⟩,⟨by grind[ByteArray.size],by omega,by simp,by simp,nJ,by simp⟩,by simp,rfl⟩
  ·split at h
   ·cases h
   ·rename_i hs0
    simp only [Option.some.injEq,Prod.mk.injEq]at h;obtain⟨rfl,rfl⟩:=h;obtain⟨a1,a2,a3⟩:=aaf (c::r) hs0;have eS:=OZ _ a1;have hln:((c::r).take (bg (c::r))).length<=8:=by rw[List.length_take];omega
    exact⟨by omega,a3,⟨.inr (.inr (.inr (.inr ⟨rfl,by omega⟩))),⟨λh=>by simp at h,λh=>by simp at h⟩,⟨by grind[ByteArray.size],by omega,by simp,by simp,nJ,by simp⟩,by simp,rfl⟩⟩
theorem Hu(l:List UInt8):(cA l).length<=l.length:=by
 induction l<;>grind[cA]
theorem aag(f:Nat):∀(l:List UInt8)(line:Nat)(acc ts:List Tok),acc.length+l.length<=3000->line+l.length<=3001->1<=line->(∀t∈acc,∃ln,1<=ln/\TP ln t)->fw f l line acc=.inr ts->
  ∃afk mF,ts=afk++[gj mF]/\afk.length<=3000/\mF<=3001/\1<=mF/\∀t∈afk,∃ln,1<=ln/\TP ln t:=by
 induction f with
 |zero=>grind[fw]
 |succ f ih=>
  intro l line acc ts h1 h2 hp h3 h
  cases l with
  |nil=>
   grind[fw,Sum.inr.injEq]
  |cons c r=>
   simp only [List.length_cons]at h1 h2;simp only [fw]at h;split at h
   ·grind
   ·split at h
    ·grind
    ·split at h
     ·grind[Hu]
     ·split at h
      ·cases h
      ·rename_i n t ht
       obtain⟨a1,a2,a3⟩:=Tb c r line n t (by omega) ht
       grind
theorem O0(line:Nat)(h:line<=3001):Good (gj line)/\Txt (gj line)/\lD (gj line):=
 ⟨.inl rfl,⟨λh=>by simp[gj]at h,λh=>by simp[gj]at h⟩,⟨by simp[gj,ByteArray.size],by simp[gj],by simp[gj],by simp[gj],h,by simp[gj]⟩⟩
theorem O1(f:Nat):∀(l:List UInt8)(line:Nat)(acc:List Tok)(x:Nat),fw f l line acc=.inl x->line<=x:=by
 induction f with
 |zero=>grind[fw,Sum.inl.injEq]
 |succ f ih=>
  intro l line acc x h
  cases l<;>grind[fw,Sum.inl.injEq]
theorem yc(l:List UInt8)(hl:l.length<=3000)(ts:List Tok)(h:lex l=.inr ts):S6 ts/\(∀t∈ts,lD t)/\0<ts.length/\(∀t∈ts,1<=t.line)/\∃acc line,ts=acc++[gj line]/\∀t∈acc,t.k≠101:=by
 obtain⟨acc,line,rfl,h1,h2,hp,h3⟩:=aag _ l 1 [] ts (by grind) (by omega) (by omega) (by simp) h;obtain⟨e1,e2,e3⟩:=O0 line h2;have iO:∀t∈acc++[gj line],Good t/\Txt t/\lD t:=λt ht=>by
  rcases List.mem_append.1 ht with h|h
  ·obtain⟨_,_,a⟩:=h3 t h;exact⟨a.good,a.QX,a.ok⟩
  grind
 have kM:∀t∈acc++[gj line],1<=t.line:=λt ht=>by
  rcases List.mem_append.1 ht with h|h
  ·obtain⟨ln,h1,a⟩:=h3 t h;rw[a.at_];exact h1
  ·rw[List.mem_singleton]at h;subst h;exact hp
 refine⟨⟨by grind,λi hi hk=>?_,λt ht=>(iO t ht).1,λt ht=>(iO t ht).2.1⟩,λt ht=>(iO t ht).2.2,by simp,kM,acc,line,rfl,λt ht=>by obtain⟨_,_,a⟩:=h3 t ht;exact a.ne⟩
 grind[gj]
def wt(y:List UInt8):Nat:=
 if y=b9 then 8 else if y=e9 then 7 else if y=dU then 3 else if y=bJ then 2 else if y=g9 then 2 else if y=dc then 8 else if y=jg then 1 else if y=eO then 6 else if y=fb then 1 else if y=bW then 4 else 1
def zA(st:List (List UInt8)):Nat:=(st.map wt).sum
theorem wN(a b:List (List UInt8)):zA (a++b)=zA a+zA b:=by simp[zA]
theorem O2(f:Nat):∀st l R,dX f st l=some R->∀k,dX (f+k) st l=some R:=by
 induction f with
 |zero=>grind[dX]
 |succ f ih=>
  intro st l R h k;rw[show f+1+k=(f+k)+1 by omega]
  cases st with
  |nil=>simp_all[dX]
  |cons y rest=>
   cases l with
   |nil=>simp[dX]at h
   |cons t r=>
    simp only [dX]at h|-
    grind
theorem pI{f g:Nat}{st:List (List UInt8)}{l:List Tok}(h:dX f st l=some R)(hle:f<=g):dX g st l=some R:=by
 obtain⟨k,rfl⟩:∃k,g=f+k:=⟨g-f,by omega⟩
 grind[O2]
theorem ib{t:Tok}(h:eQ t y=true)(h1:y≠cB)(h2:y≠eP)(h3:y≠wF):fh y t=true:=by
 grind[fh,eQ]
theorem Tc{t:Tok}(h:isS t y=true)(h1:y≠cB)(h2:y≠eP)(h3:y≠wF):fh y t=true:=by
 grind[fh,isS]
theorem EW(y:List UInt8)(t:Tok)(m:List (List UInt8))(h:aA y t=some m):
  zA m+1<=wt y\/(∃kw m',m=kw::m'/\aA kw t=none/\fh kw t=true/\zA m'+2<=wt y+13)\/(m=[e9,bJ]/\eQ t cS=true/\wt y=2):=by
 unfold aA at h
 by_cases y0:y=b9
 ·subst y0
  simp only [if_true,Option.some.injEq]at h
  by_cases hk:eQ t eE=true
  ·rw[if_pos hk]at h;subst h;right;left;exact⟨_,_,rfl,rfl,ib hk (by decide) (by decide) (by decide),by decide⟩
  rw[if_neg hk]at h;subst h;left;decide
 rw[if_neg y0]at h
 by_cases y1:y=e9
 ·subst y1
  simp only [if_true,Option.some.injEq]at h;subst h;left;decide
 rw[if_neg y1]at h
 by_cases y2:y=dU
 ·subst y2
  simp only [if_true,Option.some.injEq]at h
  by_cases hk:eQ t dB=true
  ·rw[if_pos hk]at h;subst h;right;left;exact⟨_,_,rfl,rfl,ib hk (by decide) (by decide) (by decide),by decide⟩
  rw[if_neg hk]at h;subst h;left;decide
 rw[if_neg y2]at h
 by_cases y3:y=bJ
 ·subst y3
  simp only [if_true,Option.some.injEq]at h
  by_cases hk:eQ t aO=true
  ·rw[if_pos hk]at h;subst h;right;left;exact⟨_,_,rfl,rfl,ib hk (by decide) (by decide) (by decide),by decide⟩
  rw[if_neg hk]at h
  by_cases hk:eQ t cS=true
  ·rw[if_pos hk]at h;subst h;right;right;exact⟨rfl,hk,rfl⟩
  rw[if_neg hk]at h;subst h;left;decide
 rw[if_neg y3]at h
 by_cases y4:y=g9
 ·subst y4
  simp only [if_true,Option.some.injEq]at h
  by_cases hk:eQ t t6=true
  ·rw[if_pos hk]at h;subst h;right;left;exact⟨_,_,rfl,rfl,ib hk (by decide) (by decide) (by decide),by decide⟩
  rw[if_neg hk]at h;subst h;left;decide
 rw[if_neg y4]at h
 by_cases y5:y=dc
 ·subst y5
  simp only [if_true,Option.some.injEq]at h;subst h;left;decide
 rw[if_neg y5]at h
 by_cases y6:y=jg
 ·subst y6
  simp only [if_true,Option.some.injEq]at h
  by_cases hk:eQ t qh=true
  ·rw[if_pos hk]at h;subst h;right;left;exact⟨_,_,rfl,rfl,ib hk (by decide) (by decide) (by decide),by decide⟩
  rw[if_neg hk]at h;subst h;left;decide
 rw[if_neg y6]at h
 by_cases y7:y=eO
 ·subst y7
  simp only [if_true,Option.some.injEq]at h;subst h;left;decide
 rw[if_neg y7]at h
 by_cases y8:y=fb
 ·subst y8
  simp only [if_true,Option.some.injEq]at h
  by_cases hk:eQ t gY=true
  ·rw[if_pos hk]at h;subst h;right;left;exact⟨_,_,rfl,rfl,ib hk (by decide) (by decide) (by decide),by decide⟩
  rw[if_neg hk]at h;subst h;left;decide
 rw[if_neg y8]at h
 by_cases y9:y=bW
 ·subst y9
  simp only [if_true,Option.some.injEq]at h
  by_cases hk:eQ t eK=true
  ·rw[if_pos hk]at h;subst h;right;left;exact⟨_,_,rfl,rfl,ib hk (by decide) (by decide) (by decide),by decide⟩
  rw[if_neg hk]at h
  by_cases hk:isS t jY=true
  ·rw[if_pos hk]at h;subst h;right;left;exact⟨_,_,rfl,rfl,Tc hk (by decide) (by decide) (by decide),by decide⟩
  rw[if_neg hk]at h
  by_cases hk:eQ t dQ=true
  ·rw[if_pos hk]at h;subst h;right;left;exact⟨_,_,rfl,rfl,ib hk (by decide) (by decide) (by decide),by decide⟩
  rw[if_neg hk]at h
  by_cases hk:eQ t ew=true
  ·rw[if_pos hk]at h;subst h;right;left;exact⟨_,_,rfl,rfl,ib hk (by decide) (by decide) (by decide),by decide⟩
  rw[if_neg hk]at h;subst h;left;decide
 grind
theorem O3(f:Nat):∀st l R,dX f st l=some R->dX (zA st+13*l.length+1) st l=some R:=by
 induction f using Nat.strongRecOn with
 |_ f ih=>
  intro st l R h
  cases f with
  |zero=>simp[dX]at h
  |succ f=>
   cases st with
   |nil=>
    cases l<;>grind[dX]
   |cons y rest=>
    cases l with
    |nil=>simp[dX]at h
    |cons t r=>
     have hw:zA (y::rest)=wt y+zA rest:=by simp[zA]
     cases hm:aA y t with
     |none=>
      cases hf:fh y t with
      |true=>
       have h1:=ih f (by omega) _ _ _ (rY h hm hf);have e:dX (zA (y::rest)+13*(t::r).length) rest r=some R:=pI h1 (by grind)
       simp_all[dX]
      |false=>
       grind[dX]
     |some m=>
      have h1:=oE h hm;rcases EW y t m hm with hl|⟨kw,m',rfl,hb,hf,hl⟩|⟨rfl,hk,hl⟩
      ·grind[dX,zA,pI,wN]
      ·cases f with
       |zero=>simp[dX]at h1
       |succ f=>
        have h2:dX f (m'++rest) r=some R:=rY h1 hb hf;have h3:=ih f (by omega) _ _ _ h2;obtain⟨g,hg⟩:∃g,zA (y::rest)+13*(t::r).length=g+1:=⟨zA (y::rest)+13*(t::r).length-1,by grind⟩;have e:dX g (m'++rest) r=some R:=pI h3 (by grind[List.length_cons,wN])
        simp_all[dX,List.cons_append]
      ·cases f with
       |zero=>simp[dX]at h1
       |succ f=>
        have hb:aA e9 t=some [cS,cB,Dz,dU]:=rfl;have h2:=oE (rest:=bJ::rest) h1 hb
        cases f with
        |zero=>simp[dX]at h2
        |succ f=>
         have fL:aA cS t=none:=rfl;have fW:=ib hk (by decide) (by decide) (by decide);have h3:dX f ([cB,Dz,dU]++(bJ::rest)) r=some R:=rY h2 fL fW;have h4:=ih f (by omega) _ _ _ h3;have mh:zA ([cB,Dz,dU]++(bJ::rest))=7+zA rest:=by
          rw[wN,show bJ::rest=[bJ]++rest from rfl,wN,show zA [cB,Dz,dU]=5 from by decide,show zA [bJ]=2 from by decide];omega
         obtain⟨g,hg⟩:∃g,zA (y::rest)+13*(t::r).length=g+2:=⟨zA (y::rest)+13*(t::r).length-2,by omega⟩;have e:dX g ([cB,Dz,dU]++(bJ::rest)) r=some R:=pI h4 (by grind)
         simp_all[dX,List.cons_append,List.nil_append]
theorem F5.bounded{l:List Tok}(h:F5 [b9] l R)(hl:l.length<=3001):∃n,n<=1000000/\dX n [b9] l=some R:=by
 obtain⟨f,hf⟩:=h;exact⟨_,by rw[show zA [b9]=8 from by decide];omega,O3 f _ _ _ hf⟩
theorem Hv(f:Nat):∀n,∀c∈g8 f n,bq c=true:=by
 have hd:∀n:Nat,bq (UInt8.ofNat (48+n%10))=true:=by
  intro n;have:n%10<10:=Nat.mod_lt _ (by omega);rw[mq,UInt8.toNat_ofNat_of_lt' (by grind)];simp;omega
 induction f<;>grind[g8,List.mem_singleton]
