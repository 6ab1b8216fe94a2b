/- The checker as a plain function, and that it finds the document's first fault; nothing of the program's memory is asked here. -/
import Derived.Test.YtdjaiolfdbamcaaGreatDoorZWChk1
import Derived.Deep.DrawnRows
set_option maxRecDepth 20000
set_option maxHeartbeats 4000000
namespace Go.Proofs.YtdjaiolfdbamcaaGreatDoor
variable {a v v' v1 v2 v7:Value}{b base c e line m m2 n size t t0:Nat}{X Y w w' w1 w2 w3 w7:World}{s s0:Hx.St}{b':Bool}{gs:List MG}{xs ys zs:List Value}
section
namespace Hx
theorem xG(f:Nat):∀n,n<10^(f+1)->numOf (g8 f n)=n:=by
 have hd:∀n:Nat,((UInt8.ofNat (48+n%10)).toNat:Int)=48+(n%10:Nat):=by
  intro n;have:n%10<10:=Nat.mod_lt _ (by omega);rw[UInt8.toNat_ofNat_of_lt' (by grind)];omega
 induction f with
 |zero=>grind[numOf,qR,UInt8.ofNat,g8]
 |succ f ih=>
  intro n h;simp only [g8];rw[qR,hd];split
  ·rw[ih (n/10) (by omega)];omega
  grind[numOf]
theorem Sh(f:Nat):∀n,∀c∈g8 f n,c≠45:=by
 have hd:∀n:Nat,UInt8.ofNat (48+n%10)≠45:=by
  intro n e;have:n%10<10:=Nat.mod_lt _ (by omega);have h2:=congrArg UInt8.toNat e;rw[UInt8.toNat_ofNat_of_lt' (by grind)]at h2;have:(45:UInt8).toNat=45:=rfl;omega
 induction f with
 |zero=>grind[g8,List.mem_singleton]
 |succ f ih=>
  grind[g8,List.mem_singleton]
theorem Si{a b:Int}(ha:-9999<=a/\a<=9999)(hb:-9999<=b/\b<=9999)(h:iy a=iy b):a=b:=by
 have na:=xG 4 a.natAbs (by omega);have nb:=xG 4 b.natAbs (by omega);have hne:∀n:Nat,∀l,g8 4 n≠45::l:=λn l e=>Sh 4 n 45 (by grind) rfl
 unfold iy at h
 grind
end Hx
structure AK where
 was:Bool
 name:ByteArray
 op:ByteArray
 num:Int
def AK.same(a b:AK):Bool:=a.was==b.was&&a.name.toList==b.name.toList&&a.op.toList==b.op.toList&&a.num==b.num
def iW(was:Option Hx.Tok)(nm op num:Hx.Tok):List Hx.Tok:=match was with|some w=>[w,nm,op,num]|none=>[nm,op,num]
def dm(was:Option Hx.Tok)(nm op num:Hx.Tok):AK:=⟨was.isSome,nm.s,op.s,num.n⟩
theorem Sj{w w':Option Hx.Tok}{n o i n' o' i':Hx.Tok}(h:Hx.jZ w n o i)(h':Hx.jZ w' n' o' i'):Hx.dj (iW w n o i) (iW w' n' o' i')=(dm w n o i).same (dm w' n' o' i'):=by
 have e1:Hx.fe n n'=(n.s.toList==n'.s.toList):=by simp[Hx.fe,h.nm,h'.nm]
 have e2:Hx.fe o o'=(o.s.toList==o'.s.toList):=by simp[Hx.fe,h.op,h'.op]
 have e3:Hx.fe i i'=(i.n==i'.n):=by
  obtain⟨a1,a2,a3⟩:=h.QX.2 h.num;obtain⟨b1,b2,b3⟩:=h'.QX.2 h'.num;simp only [Hx.fe,h.num,h'.num,a1,b1,BEq.rfl,Bool.true_and]
  by_cases e:i.n=i'.n
  ·grind
  ·grind[beq_eq_false_iff_ne,Hx.Si]
 cases w with
 |none=>cases w' with
  |none=>grind[iW,dm,AK.same,Hx.dj,Bool.and_assoc]
  |some t'=>simp[iW,dm,AK.same,Hx.dj]
 |some t=>cases w' with
  |none=>simp[iW,dm,AK.same,Hx.dj]
  |some t'=>
   have e0:Hx.fe t t'=true:=by
    obtain⟨a1,a2⟩:=h.was t rfl;obtain⟨b1,b2⟩:=h'.was t' rfl;simp[Hx.fe,a1,a2,b1,b2]
   grind[iW,dm,AK.same,Hx.dj,Bool.and_assoc]
structure CS where
 rows:Nat
 atoms:List AK
 cl:Int×Int
def CS.ref(s:CS)(bad:Bool)(code line:Int):CS:={s with cl:=gJ bad code line s.cl}
def CS.addAtom(s:CS)(k:AK):CS:=if s.atoms.any (λa=>a.same k)then s else{s with atoms:=s.atoms++[k]}
def dJ(vs:List az)(s:CS)(k:AK)(nl:Int)(num:Hx.Tok):CS:=
 let s1:=s.addAtom k
 ((s1.ref (decide (8<s1.atoms.length)) 1 nl).ref (!(vs.any (bK k.name))) 3 nl).ref (iA num.n) 4 num.line
def m6(vs:List az):Hx.G->Nat->CS->CS
 | .or l r,d,s=>m6 vs r d (m6 vs l d s)
 | .and l r,d,s=>m6 vs r d (m6 vs l d s)
 | .not g,d,s=>m6 vs g d s
 | .group t g,d,s=>m6 vs g (d+1) (s.ref (decide (6<=d)) 1 t.line)
 | .gZ,_,s=>s
 | .atom w n o i _,_,s=>dJ vs s (dm w n o i) n.line i
def eJ(vs:List az)(s:CS)(r:Hx.bD):CS:=m6 vs r.g 0 ({s with rows:=s.rows+1}.ref (decide (24<s.rows+1)) 1 r.wh.line)
def dK(vs:List az)(gs:List MG)(i:Nat)(m:MG)(s:CS):CS:=
 m.a.rows.foldl (eJ vs) ((s.ref (decide (12<=i)||decide (6<=m.a.depth)) 1 m.a.name.line).ref ((gs.take i).any (dV m.a.name.s)) 3 m.a.name.line)
def cK(vs:List az)(gs:List MG):Nat->List MG->CS->CS
 |_,[],s=>s
 |i,m::r,s=>cK vs gs (i+1) r (dK vs gs i m s)
def oL(vs:List az)(i:Nat)(v:az)(s:CS):CS:=
 ((((s.ref (decide (3<=i)) 1 v.name.line).ref ((vs.take i).any (bK v.name.s)) 3 v.name.line).ref (iA v.first.n) 4 v.first.line).ref (iA v.last.n) 4 v.last.line).ref (decide (v.last.n<v.first.n)) 4 v.last.line
def de(vs:List az):Nat->List az->CS->CS
 |_,[],s=>s
 |i,v::r,s=>de vs (i+1) r (oL vs i v s)
def cg(gs:List MG)(r:Hx.bD):Bool:=match r.dest with|none=>false|some a=>!(gs.any (dV a.s))
def da(r:Hx.bD):Int:=match r.dest with|none=>0|some a=>a.line
def dT(gs:List MG)(l:List MG)(s:CS):CS:=l.foldl (λs m=>m.a.rows.foldl (λs r=>s.ref (cg gs r) 3 (da r)) s) s
def inner(gs:List MG)(i:Nat):List MG:=gs.filter λg=>decide (g.a.outer=(i:Int))
def nF(gs:List MG)(i:Nat):Nat:=((inner gs i).filter λg=>g.a.dflt).length
def iX(gs:List MG):Nat->List MG->CS->CS
 |_,[],s=>s
 |i,m::r,s=>iX gs (i+1) r (s.ref (decide (0<(inner gs i).length)&&(decide (nF gs i≠1))) 5 m.a.name.line)
def jl(vs:List az)(gs:List MG):CS:=iX gs 0 gs (dT gs gs (cK vs gs 0 gs (de vs 0 vs ⟨0,[],(0,0)⟩)))
theorem afa(c:CS)(code line:Int):c.ref false code line=c:=rfl
theorem t9{c:CS}{b:Bool}{code line:Int}(h:c.cl.1≠0):c.ref b code line=c:=by
 simp_all[CS.ref,gJ]
theorem jM{b:Bool}{code:Nat}(h:s.code≠0):s.aS b code line=s:=by simp[Hx.St.aS,h]
theorem fD{b:Bool}{code:Nat}(h:(s.aS b code line).code=0)(hc:code≠0):s.code=0/\b=false:=by
 grind[absurd,Hx.St.aS]
def zx(s:Hx.St)(c:CS):Prop:=(s.code:Int)=c.cl.1/\(s.line:Int)=c.cl.2
theorem zx.step{c:CS}{b:Bool}{code:Nat}(h:zx s c)(hb:s.code=0->b=b'):zx (s.aS b code line) (c.ref b' code line):=by
 by_cases h0:s.code=0
 ·obtain rfl:=hb h0
  grind[afa,Hx.St.aS,zx,CS.ref,gJ]
 ·have h1:c.cl.1≠0:=by rw[<-h.1];omega
  grind[jM,t9]
structure AQ where
 w:Option Hx.Tok
 n:Hx.Tok
 o:Hx.Tok
 i:Hx.Tok
 ok:Hx.jZ w n o i
def AQ.gy(q:AQ):List Hx.Tok:=iW q.w q.n q.o q.i
def AQ.key(q:AQ):AK:=dm q.w q.n q.o q.i
theorem GZ(L:List AQ)(q:AQ):(L.map AQ.gy).any (λa=>Hx.dj a q.gy)=(L.map AQ.key).any (λa=>a.same q.key):=by
 rw[List.any_map,List.any_map];congr 1;funext a;exact Sj a.ok q.ok
structure Live(vs:List az)(s:Hx.St)(c:CS):Prop where
 oM:s.rows<=24
 len:c.atoms.length<=8
 ok:∀k∈c.atoms,vs.any (bK k.name)=true/\iA k.num=false
structure pB(vs:List az)(s:Hx.St)(c:CS):Prop where
 eq:zx s c
 rows:c.rows=s.rows
 rel:∃L:List AQ,s.atoms=L.map AQ.gy/\c.atoms=L.map AQ.key
 live:s.code=0->Live vs s c
def HV(vs:List az)(s:Hx.St):Prop:=∀n,s.hasVar n=vs.any (bK n)
theorem pB.step{vs:List az}{c:CS}{b:Bool}{code:Nat}(h:pB vs s c)(hb:s.code=0->b=b')(hc:code≠0):pB vs (s.aS b code line) (c.ref b' code line):=
 ⟨h.eq.step hb,by rw[Hx.St.dC];exact h.rows,by rw[Hx.St.bN];exact h.rel,λh0=>by
  obtain⟨h1,rfl⟩:=fD h0 hc;obtain⟨a2,a3,a5⟩:=h.live h1
  exact⟨by grind[Hx.St.dC],a3,a5⟩⟩
theorem xH(n:Int):Hx.lT n (-1000)=iA n:=by
 grind[Hx.lT,iA]
theorem xI(h:s.code≠0)(l:List Hx.Tok)(a b:Hx.Tok):(s.atom l a b).code=s.code/\(s.atom l a b).line=s.line:=by
 unfold Hx.St.atom;split
 ·omega
 ·simp[Hx.St.number,jM h]
theorem KV(c:CS)(k:AK):(c.addAtom k).cl=c.cl:=by grind[CS.addAtom]
theorem ED{vs:List az}{c:CS}(h:c.cl.1≠0)(k:AK)(nl:Int)(i:Hx.Tok):(dJ vs c k nl i).cl=c.cl:=by
 grind[dJ,t9,KV]
theorem Sl{vs:List az}{c:CS}(h:pB vs s c)(hv:HV vs s)(q:AQ):pB vs (s.atom q.gy q.n q.i) (dJ vs c q.key q.n.line q.i):=by
 obtain⟨L,a4,a4'⟩:=h.rel;have afb:s.code≠0->zx (s.atom q.gy q.n q.i) (dJ vs c q.key q.n.line q.i)/\(s.atom q.gy q.n q.i).code≠0:=λh0=>by
  have h1:c.cl.1≠0:=by rw[<-h.eq.1];omega
  have e1:=xI h0 q.gy q.n q.i;have e2:=ED (vs:=vs) h1 q.key q.n.line q.i;exact⟨⟨by rw[e1.1,e2];exact h.eq.1,by rw[e1.2,e2];exact h.eq.2⟩,by omega⟩
 cases nO:s.atoms.any (λa=>Hx.dj a q.gy)with
 |true=>
  have e1:s.atom q.gy q.n q.i=s:=by unfold Hx.St.atom;rw[if_pos nO]
  have Sm:c.atoms.any (λa=>a.same q.key)=true:=by rw[a4',<-GZ,<-a4];exact nO
  have e2:c.addAtom q.key=c:=by unfold CS.addAtom;rw[if_pos Sm]
  have bu:(dJ vs c q.key q.n.line q.i).atoms=c.atoms:=by simp only [dJ,e2];rfl
  have G6:(dJ vs c q.key q.n.line q.i).rows=c.rows:=by simp only [dJ,e2];rfl
  by_cases h0:s.code=0
  ·obtain⟨a2,a3,a5⟩:=h.live h0
   obtain⟨k,hk,hs⟩:=List.any_eq_true.1 Sm;obtain⟨b1,b2⟩:=a5 k hk;have J2:=by simpa[AK.same]using hs
   have e3:vs.any (bK q.key.name)=true:=by
    rw[<-b1];congr 1;funext v;simp only [bK,J2.1.1.2]
   have e4:iA q.i.n=false:=by rw[<-b2,J2.2];rfl
   have e5:dJ vs c q.key q.n.line q.i=c:=by
    simp only [dJ,e2,e3,e4,decide_eq_false (show¬8<c.atoms.length by omega)];rfl
   grind
  ·obtain⟨x1,x2⟩:=afb h0
   refine⟨x1,by rw[G6,e1];exact h.rows,⟨L,by grind,by grind⟩,λhz=>absurd hz x2⟩
 |false=>
  have Sm:c.atoms.any (λa=>a.same q.key)=false:=by rw[a4',<-GZ,<-a4];exact nO
  have e2:c.addAtom q.key={c with atoms:=c.atoms++[q.key]}:=by unfold CS.addAtom;rw[if_neg (by grind)]
  have bu:(dJ vs c q.key q.n.line q.i).atoms=c.atoms++[q.key]:=by simp only [dJ,e2];rfl
  have G6:(dJ vs c q.key q.n.line q.i).rows=c.rows:=by simp only [dJ,e2];rfl
  have hl:s.atoms.length=c.atoms.length:=by rw[a4,a4'];simp
  have r1:(s.atom q.gy q.n q.i).atoms=(L++[q]).map AQ.gy:=by rw[Hx.St.rZ s _ _ _ nO];simp[Hx.St.iU,Hx.St.bN,a4]
  refine⟨?_,by rw[G6,Hx.St.pA];exact h.rows,⟨L++[q],r1,by grind⟩,λhz=>?_⟩
  ·by_cases h0:s.code=0
   ·obtain⟨a2,a3,a5⟩:=h.live h0
    have x1:(s.atoms.length==8)=decide (8<(c.atoms++[q.key]).length):=by
     rw[hl,List.length_append]
     by_cases h8:c.atoms.length=8
     ·grind
     ·grind
    have x2:(!s.hasVar q.n.s)=!(vs.any (bK q.key.name)):=by rw[hv];rfl
    rw[Hx.St.rZ s _ _ _ nO];have hE:zx (((s.aS (s.atoms.length==8) 1 q.n.line).aS (!s.hasVar q.n.s) 3 q.n.line).number q.i (-1000)) (dJ vs c q.key q.n.line q.i):=by
     simp only [dJ,e2];refine zx.step (zx.step (zx.step ?_ (λ_=>x1)) (λ_=>x2)) (λ_=>xH _);exact h.eq
    exact hE
   grind
  ·rw[Hx.St.rZ s _ _ _ nO]at hz
   have hz':((((s.aS (s.atoms.length==8) 1 q.n.line).aS (!s.hasVar q.n.s) 3 q.n.line).aS (Hx.lT q.i.n (-1000)) 4 q.i.line)).code=0:=hz;obtain⟨z1,y3⟩:=fD hz' (by decide);obtain⟨z2,y2⟩:=fD z1 (by decide);obtain⟨z3,y1⟩:=fD z2 (by decide);obtain⟨a2,a3,a5⟩:=h.live z3;have n8:=beq_eq_false_iff_ne.1 y1;refine⟨by grind[Hx.St.pA],by grind,?_⟩;intro k hk;rw[bu]at hk;rcases List.mem_append.1 hk with hk|hk
   ·grind
   ·rw[List.mem_singleton]at hk
    subst hk;refine⟨?_,?_⟩
    ·rw[hv]at y2
     have:vs.any (bK q.n.s)=true:=by simpa using y2
     exact this
    ·rw[xH]at y3;exact y3
theorem DC(g:Hx.G):∀(d:Int)(s:Hx.St),s.code≠0->(g.pC d s).code=s.code/\(g.pC d s).line=s.line:=by
 induction g with
 |or l r h1 h2=>intro d s h;have a:=h1 d s h;have b:=h2 d (l.pC d s) (by omega);exact⟨b.1.trans a.1,b.2.trans a.2⟩
 |and l r h1 h2=>intro d s h;have a:=h1 d s h;have b:=h2 d (l.pC d s) (by omega);exact⟨b.1.trans a.1,b.2.trans a.2⟩
 |not g ih=>intro d s h;exact ih d s h
 |group t g ih=>grind[Hx.G.pC,jM]
 |gZ=>intro d s h;exact⟨rfl,rfl⟩
 |atom w n o i ok=>intro d s h;cases w<;>exact xI h _ _ _
theorem G7(g:Hx.G):∀d s,(g.pC d s).vars=s.vars:=by
 induction g with
 |or l r h1 h2=>grind[Hx.G.pC]
 |and l r h1 h2=>grind[Hx.G.pC]
 |not g h=>grind[Hx.G.pC]
 |group t g h=>grind[Hx.G.pC,Hx.St.bR]
 |gZ=>intro d s;rfl
 |atom w n o i ok=>intro d s;cases w<;>exact Hx.St.mv _ _ _ _
theorem HV.of{vs:List az}{s':Hx.St}(h:HV vs s)(e:s'.vars=s.vars):HV vs s':=λn=>by rw[<-h n];grind[Hx.St.hasVar]
theorem ZR{vs:List az}(g:Hx.G):∀(d:Nat)(s:Hx.St)(c:CS),pB vs s c->HV vs s->(s.code≠0\/d<=6)->pB vs (g.pC d s) (m6 vs g d c):=by
 have two:∀(l r:Hx.G),(∀(d:Nat)(s:Hx.St)(c:CS),pB vs s c->HV vs s->(s.code≠0\/d<=6)->pB vs (l.pC d s) (m6 vs l d c))->(∀(d:Nat)(s:Hx.St)(c:CS),pB vs s c->HV vs s->(s.code≠0\/d<=6)->pB vs (r.pC d s) (m6 vs r d c))->
   ∀(d:Nat)(s:Hx.St)(c:CS),pB vs s c->HV vs s->(s.code≠0\/d<=6)->pB vs (r.pC d (l.pC d s)) (m6 vs r d (m6 vs l d c)):=by
  intro l r h1 h2 d s c h hv hd;exact h2 d _ _ (h1 d s c h hv hd) (hv.of (G7 l d s)) (hd.imp (λh0=>by grind[DC]) id)
 induction g with
 |or l r h1 h2=>exact two l r h1 h2
 |and l r h1 h2=>exact two l r h1 h2
 |not g ih=>exact ih
 |group t g ih=>
  intro d s c h hv hd
  have hs:=pB.step (b:=((d:Int)==6)) (b':=decide (6<=d)) (code:=1) (line:=t.line) h (λh0=>by
   grind) (by decide)
  refine ih (d+1) _ _ hs (hv.of (Hx.St.bR _ _ _ _)) ?_
  grind[jM,absurd,id,Hx.St.aS]
 |gZ=>intro d s c h _ _;exact h
 |atom w n o i ok=>
  intro d s c h hv _;have:=Sl h hv ⟨w,n,o,i,ok⟩
  cases w<;>exact this
theorem Sn{vs:List az}{c:CS}(h:pB vs s c)(t:Hx.Tok):pB vs (s.ff t) ({c with rows:=c.rows+1}.ref (decide (24<c.rows+1)) 1 t.line):=by
 have hE:zx (s.aS (s.rows==24) 1 t.line) ({c with rows:=c.rows+1}.ref (decide (24<c.rows+1)) 1 t.line):=by
  refine zx.step h.eq (λh0=>?_);have:=(h.live h0).oM;rw[h.rows]
  by_cases e:s.rows=24
  ·grind
  ·grind
 refine⟨hE,?_,?_,λhz=>?_⟩
 ·show c.rows+1=(s.aS (s.rows==24) 1 t.line).rows+1
  rw[Hx.St.dC,h.rows]
 ·show∃L:List AQ,(s.aS (s.rows==24) 1 t.line).atoms=_/\_
  rw[Hx.St.bN];exact h.rel
 ·obtain⟨h0,hb⟩:=fD (hz) (by decide)
  obtain⟨a2,a3,a5⟩:=h.live h0;have hn:=beq_eq_false_iff_ne.1 hb;refine⟨?_,a3,a5⟩;show(s.aS (s.rows==24) 1 t.line).rows+1<=24;rw[Hx.St.dC];omega
theorem G8(s:Hx.St)(q:Nat)(r:Hx.bD):(s.row q r).vars=s.vars:=by
 simp[Hx.St.row,G7,Hx.St.ff,Hx.St.bR]
theorem ZT{vs:List az}{c:CS}(h:pB vs s c)(hv:HV vs s)(q:Nat)(r:Hx.bD):pB vs (s.row q r) (eJ vs c r):=by
 have h1:=ZR r.g 0 _ _ (Sn h r.wh) (hv.of (by simp[Hx.St.ff,Hx.St.bR])) (.inr (by omega));exact⟨h1.eq,h1.rows,h1.rel,λh0=>by obtain⟨a2,a3,a5⟩:=h1.live h0;exact⟨a2,a3,a5⟩⟩
theorem Sp(h:s.code≠0)(q:Nat)(r:Hx.bD):(s.row q r).code≠0:=by
 grind[Hx.St.row,DC,Hx.St.ff,jM]
theorem Sq{vs:List az}(q:Nat)(rs:List Hx.bD):∀(s:Hx.St)(c:CS),pB vs s c->HV vs s->pB vs (s.jn q rs) (rs.foldl (eJ vs) c)/\HV vs (s.jn q rs)/\(s.code≠0->(s.jn q rs).code≠0):=by
 induction rs with
 |nil=>intro s c h hv;exact⟨h,hv,id⟩
 |cons r rs ih=>
  intro s c h hv;obtain⟨i1,i2,i3⟩:=ih (s.row q r) (eJ vs c r) (ZT h hv q r) (hv.of (G8 s q r));exact⟨i1,i2,λh0=>i3 (Sp h0 q r)⟩
theorem DD(gs:List MG)(n:ByteArray):(((gs.map (·.a.p)).map (·.name)).any λa=>a.toList==n.toList)=gs.any (dV n):=by
 rw[List.any_map,List.any_map];rfl
theorem Oz{vs:List az}(hl:Links gs)(l:List MG):∀(pre:List MG)(s:Hx.St)(c:CS),gs=pre++l->pB vs s c->HV vs s->s.af=pre.map (·.a.p)->(s.code=0->pre.length<=12/\∀g∈pre,g.a.depth<=5)->
  pB vs (s.cT (l.map (·.a))) (cK vs gs pre.length l c):=by
 induction l with
 |nil=>intro pre s c _ h _ _ _;exact h
 |cons m r ih=>
  intro pre s c hg h hv hm hd;have hlen:s.af.length=pre.length:=by rw[hm];simp
  have ajC:gs.take pre.length=pre:=by rw[hg];simp
  have QY:gs[pre.length]?=some m:=by rw[hg];simp
  have hk:=hl pre.length m.key (by grind);have hd6:s.code=0->pre.length<=12/\m.a.depth<=6:=λh0=>by
   obtain⟨d1,d2⟩:=hd h0;refine⟨d1,?_⟩
   cases hmd:m.a.depth with
   |zero=>omega
   |succ d=>
    obtain⟨j,ko,j1,j2,j3⟩:=hk.deep d hmd;rw[List.getElem?_map]at j2;obtain⟨g,g1,g2⟩:=Option.map_eq_some_iff.1 j2;rw[hg,List.getElem?_append_left j1]at g1;have:=d2 g (List.mem_of_getElem? g1);have e:g.a.depth=ko.depth:=by rw[<-g2];rfl
    omega
  have s1:=pB.step (b:=(s.af.length==12||((m.a.depth):Int)==6)) (b':=(decide (12<=pre.length)||decide (6<=m.a.depth))) (code:=1) (line:=m.a.name.line) h (λh0=>by
   grind) (by decide)
  have s2:=pB.step (b:=s.dx m.a.name.s) (b':=(gs.take pre.length).any (dV m.a.name.s)) (code:=3) (line:=m.a.name.line) s1 (λ_=>by
   grind[DD,Hx.St.dx]) (by decide)
  have s3:pB vs (s.bT m.a.name m.a.outer m.a.depth m.a.dflt) ((c.ref (decide (12<=pre.length)||decide (6<=m.a.depth)) 1 m.a.name.line).ref ((gs.take pre.length).any (dV m.a.name.s)) 3 m.a.name.line):=
   ⟨s2.eq,s2.rows,s2.rel,λh0=>by obtain⟨a2,a3,a5⟩:=s2.live h0;exact⟨a2,a3,a5⟩⟩
  have ZU:HV vs (s.bT m.a.name m.a.outer m.a.depth m.a.dflt):=hv.of (by simp[Hx.St.bT,Hx.St.bR]);obtain⟨r1,r2,r3⟩:=Sq s.af.length m.a.rows _ _ s3 ZU;have hmm:=Hx.qW s m.a
  have:=ih (pre++[m]) (s.mode m.a) (dK vs gs pre.length m c) (by grind) r1 r2 (by grind) (λh0=>by
   have hz:(s.bT m.a.name m.a.outer m.a.depth m.a.dflt).code=0:=by
    by_cases e:(s.bT m.a.name m.a.outer m.a.depth m.a.dflt).code=0
    ·exact e
    ·exact absurd h0 (r3 e)
   obtain⟨z1,_⟩:=fD (hz) (by decide)
   grind[List.mem_singleton,beq_eq_false_iff_ne,Bool.or_eq_false_iff,fD])
  rw[List.length_append]at this;exact this
def az.p(v:az):Hx.Sd:=⟨v.name.s,v.first.n,v.last.n⟩
theorem G9(vs:List az)(n:ByteArray):(((vs.map az.p).map (·.name)).any λa=>a.toList==n.toList)=vs.any (bK n):=by
 rw[List.any_map,List.any_map];rfl
theorem afc(c:CS)(a b:Bool)(code line:Int)(_:code≠0):(c.ref a code line).ref b code line=c.ref (a||b) code line:=by
 grind[CS.ref,gJ,t9]
theorem Sr{vs:List az}(l:List az):∀(pre:List az)(s:Hx.St)(c:CS),vs=pre++l->pB vs s c->s.vars=pre.map az.p->(s.code=0->pre.length<=3)->
  pB vs (fY s l) (de vs pre.length l c)/\(fY s l).vars=vs.map az.p:=by
 induction l with
 |nil=>intro pre s c hg h hm _;refine⟨h,?_⟩;rw[hg,List.append_nil];exact hm
 |cons v r ih=>
  intro pre s c hg h hm hd;have hlen:s.vars.length=pre.length:=by rw[hm];simp
  have ajC:vs.take pre.length=pre:=by rw[hg];simp
  have s1:=pB.step (b:=(s.vars.length==3)) (b':=decide (3<=pre.length)) (code:=1) (line:=v.name.line) h (λh0=>by
   grind) (by decide)
  have s2:=pB.step (b:=s.hasVar v.name.s) (b':=(vs.take pre.length).any (bK v.name.s)) (code:=3) (line:=v.name.line) s1 (λ_=>by
   grind[G9,Hx.St.hasVar]) (by decide)
  have s3:=pB.step (b':=iA v.first.n) (code:=4) (line:=v.first.line) s2 (λ_=>xH _) (by decide);have s4:=pB.step (b:=Hx.lT v.last.n v.first.n) (b':=(iA v.last.n||decide (v.last.n<v.first.n))) (code:=4) (line:=v.last.line) s3 (λ_=>rfl) (by decide);have e5:oL vs pre.length v c=((((c.ref (decide (3<=pre.length)) 1 v.name.line).ref ((vs.take pre.length).any (bK v.name.s)) 3 v.name.line).ref (iA v.first.n) 4 v.first.line).ref (iA v.last.n||decide (v.last.n<v.first.n)) 4 v.last.line):=by
   simp only [oL];rw[afc _ _ _ _ _ (by decide)]
  have s5:pB vs (s.addVar v.name v.first v.last) (oL vs pre.length v c):=by
   rw[e5];exact⟨s4.eq,s4.rows,s4.rel,λh0=>by obtain⟨a2,a3,a5⟩:=s4.live h0;exact⟨a2,a3,a5⟩⟩
  have:=ih (pre++[v]) (s.addVar v.name v.first v.last) (oL vs pre.length v c) (by grind) s5 (by simp[Hx.St.addVar,Hx.St.jL,Hx.St.bR,hm,az.p]) (λh0=>by
   obtain⟨z1,_⟩:=fD (show((((s.aS (s.vars.length==3) 1 v.name.line).aS (s.hasVar v.name.s) 3 v.name.line).aS (Hx.lT v.first.n (-1000)) 4 v.first.line).aS (Hx.lT v.last.n v.first.n) 4 v.last.line).code=0 from h0) (by decide)
   grind[beq_eq_false_iff_ne,fD])
  rw[List.length_append]at this;exact this
theorem KW(h0:s0.af=gs.map (·.a.p))(r:Hx.bD):(!(r.p.to.toList==[])&& !(s0.dx r.p.to))=cg gs r:=by
 cases hd:r.dest with
 |none=>
  grind[cg,Hx.bD.p,Lib.toList_data]
 |some a=>
  have hne:=r.ok a hd
  grind[beq_eq_false_iff_ne,Hx.St.dx,DD,cg,Hx.bD.p]
theorem EE(r:Hx.bD):((r.p.line:Nat):Int)=da r:=by
 grind[da,Hx.bD.p]
theorem EF(h0:s0.af=gs.map (·.a.p))(rs:List Hx.bD):∀(s:Hx.St)(c:CS),zx s c->
  zx ((rs.map Hx.bD.p).foldl (λs r=>s.aS (!(r.to.toList==[])&& !(s0.dx r.to)) 3 r.line) s) (rs.foldl (λs r=>s.ref (cg gs r) 3 (da r)) c):=by
 induction rs with
 |nil=>simp
 |cons r rs ih=>
  intro s c h;simp only [List.map_cons,List.foldl_cons];refine ih _ _ ?_;rw[KW h0,<-EE];exact zx.step h (λ_=>rfl)
theorem Ha(h0:s0.af=gs.map (·.a.p))(l:List MG):∀(s:Hx.St)(c:CS),zx s c->zx ((l.map (·.a.p)).foldl (eR s0) s) (dT gs l c):=by
 induction l with
 |nil=>intro s c h;exact h
 |cons m r ih=>
  intro s c h;exact ih _ _ (EF h0 m.a.rows s c h)
theorem Ss(h0:s0.af=gs.map (·.a.p))(l:List MG):∀(i:Nat)(s:Hx.St)(c:CS),zx s c->zx (kQ s0 i (l.map (·.a.p)) s) (iX gs i l c):=by
 induction l with
 |nil=>intro i s c h;exact h
 |cons m r ih=>
  intro i s c h;refine ih (i+1) _ _ ?_;have e1:(s0.af.filter λk=>decide (k.outer=(i:Int)))=(inner gs i).map (·.a.p):=by
   rw[h0,List.filter_map];rfl
  have e2:(((s0.af.filter λk=>decide (k.outer=(i:Int))).filter λk=>k.dflt).length)=nF gs i:=by
   rw[e1,List.filter_map,List.length_map];rfl
  simp only [oK];rw[e2,e1,List.length_map];exact zx.step h (λ_=>rfl)
theorem afd(f:Nat):∀prev l d s s2 l2,Hx.gF f prev l d s=some (s2,l2)->s2.atoms.length+l2.length<=s.atoms.length+l.length/\s2.rows=s.rows/\l2.length<=l.length:=by
 induction f with
 |zero=>grind[Hx.gF]
 |succ f ih=>
  intro prev l d s s2 l2 h
  cases l with
  |nil=>simp[Hx.gF]at h
  |cons t r=>
   simp only [Hx.gF]at h;split at h
   ·grind[List.length_cons,Hx.St.bN,Hx.St.dC]
   ·split at h
    ·grind
    ·split at h
     ·split at h
      ·rename_i a b r'
       have h1:=ih _ _ _ _ _ _ h;rw[Hx.St.pA]at h1;have h2:=Hx.St.oH s (if Hx.eQ prev Hx.ew then [prev,t,a,b]else [t,a,b]) t b
       grind
      ·cases h
     grind
theorem Sv(f:Nat):∀l inn d dear s S,Hx.dk f l inn d dear s=some S->S.atoms.length<=s.atoms.length+l.length/\S.rows<=s.rows+l.length:=by
 induction f with
 |zero=>grind[Hx.dk]
 |succ f ih=>
  intro l inn d dear s S h
  cases l with
  |nil=>simp[Hx.dk]at h
  |cons t r=>
   by_cases h1:t.k=101
   ·grind[List.length_cons,Hx.Ez]
   ·cases e1:(t.s.toList==Hx.eE)with
    |true=>
     obtain⟨a,b,c,d',e,r',rfl,h2⟩:=Hx.wI h h1 e1
     grind[List.length_cons,Hx.St.addVar,Hx.St.iU,Hx.St.oF,Hx.St.bN,Hx.St.dC]
    |false=>
     cases e2:(t.s.toList==Hx.aO)with
     |true=>have:=ih _ _ _ _ _ _ (Hx.lE h h1 e1 e2);grind
     |false=>
      cases e3:(t.s.toList==Hx.cS)with
      |true=>
       obtain⟨a,b,r',rfl,h2⟩:=Hx.r5 h h1 e1 e2 e3
       grind[List.length_cons,Hx.St.bT,Hx.St.bN,Hx.St.dC]
      |false=>
       cases e4:(t.s.toList==Hx.dB)with
       |true=>
        obtain⟨_,_,s2,d',a,r',hg,h2⟩:=Hx.r7 h h1 e1 e2 e3 e4;have h3:=afd _ _ _ _ _ _ _ hg;simp only [Hx.St.ff,Hx.St.bN,Hx.St.dC,List.length_cons]at h3
        grind
       |false=>
        obtain⟨_,_,h2⟩:=Hx.r8 h h1 e1 e2 e3 e4
        grind
theorem DF(vs:List az)(gs:List MG)(hl:Links gs):pB vs ((fY Hx.St.zero vs).cT (gs.map (·.a))) (cK vs gs 0 gs (de vs 0 vs ⟨0,[],(0,0)⟩))/\((fY Hx.St.zero vs).cT (gs.map (·.a))).af=gs.map (·.a.p)/\(fY Hx.St.zero vs).vars=vs.map az.p:=by
 have z:pB vs Hx.St.zero ⟨0,[],(0,0)⟩:=⟨⟨rfl,rfl⟩,rfl,⟨[],rfl,rfl⟩,λ_=>⟨by decide,by simp,by simp⟩⟩;obtain⟨v1,v2⟩:=Sr (vs:=vs) vs [] Hx.St.zero _ rfl z rfl (λ_=>by simp);have hv:HV vs (fY Hx.St.zero vs):=λn=>by grind[G9,Hx.St.hasVar]
 have nP:∀(l:List az)(s:Hx.St),(fY s l).af=s.af:=by
  intro l
  induction l with
  |nil=>intro s;rfl
  |cons v r ih=>simp_all[Hx.St.addVar,Hx.St.iT,Hx.St.bw,fY,List.foldl_cons]
 exact⟨Oz hl gs [] (fY Hx.St.zero vs) _ rfl v1 hv (nP vs _) (λ_=>by simp),by simp_all[Hx.St.zero,Hx.lF],v2⟩
theorem xJ(vs:List az)(gs:List MG)(hl:Links gs):zx (fi ((fY Hx.St.zero vs).cT (gs.map (·.a)))) (jl vs gs)/\
  (cK vs gs 0 gs (de vs 0 vs ⟨0,[],(0,0)⟩)).atoms.length=((fY Hx.St.zero vs).cT (gs.map (·.a))).atoms.length/\(cK vs gs 0 gs (de vs 0 vs ⟨0,[],(0,0)⟩)).rows=((fY Hx.St.zero vs).cT (gs.map (·.a))).rows:=by
 obtain⟨m1,hm,_⟩:=DF vs gs hl;refine⟨?_,?_,m1.rows⟩
 ·have h1:=Ha hm gs _ _ m1.eq
  grind[fi,jl,Ss]
 ·obtain⟨L,e1,e2⟩:=m1.rel
  grind
namespace Cx
def bV(b:UInt8):Value:=.int .u8 (b.toNat:Int)
def lR(x:Int)(d:Int):UInt8:=UInt8.ofNat (x/d%256).toNat
theorem DG(x d:Int):bV (lR x d)=.int .u8 (x/d%256):=by
 grind[UInt8.toNat_ofNat',Nat.mod_eq_of_lt,Int.emod_lt_of_pos,Int.emod_nonneg,bV,lR]
theorem mx(n:Nat):bV (UInt8.ofNat n)=.int .u8 ((n:Int)%256):=by
 grind[UInt8.toNat_ofNat',bV]
def two(n:Int):List UInt8:=[lR n 1,lR n 256]
theorem afe(n:Int):(two n).map bV=[.int .u8 (n%256),.int .u8 (n/256%256)]:=by simp[two,DG]
theorem M7(l:List UInt8):∀u∈l.map bV,u.oneCell'=true:=by
 intro u hu;obtain⟨b,_,rfl⟩:=List.mem_map.1 hu;rfl
end Cx
end
section
open Go.RowKit
structure Gr(base:Nat)(w w':World)(e size:Nat)(v v':Value)(n:Nat)(xs:List Value):Prop where
 own:w'.ownsRow base e size v' n xs
 kept:Kp (λk=>v.ownBlock=some k) w w'
 spot:v'.ownBlock=v.ownBlock\/∃k,v'.ownBlock=some k/\w.heap.size<=k
theorem Gr.trans(h:Gr base w w1 e size v v1 n xs)(k:Gr base w1 w2 e size v1 v2 m ys):Gr base w w2 e size v v2 m ys:=by
 refine⟨k.own,h.kept.trans k.kept (λb hb=>?_),?_⟩
 ·rcases h.spot with e|⟨c,e,hc⟩
  all_goals grind
 ·rcases k.spot with e2|⟨c,e2,hc⟩
  ·rw[e2];exact h.spot
  ·exact .inr ⟨c,e2,Nat.le_trans h.kept.size hc⟩
theorem Gr.after(h:Below w.heap.size w w1)(k:Gr base w1 w2 e size v v2 n ys):Gr base w w2 e size v v2 n ys:=
 ⟨k.own,(Kp.aK h).trans k.kept (λ_ e=>.inl e),k.spot.imp id (λ⟨c,e,hc⟩=>⟨c,e,Nat.le_trans h.size hc⟩)⟩
theorem Gr.below(h:Gr base w w1 e size v v1 n ys)(k:Below w1.heap.size w1 w2):Gr base w w2 e size v v1 n ys:=
 ⟨ah h.own k,h.kept.below k,h.spot⟩
theorem eF{o:Obj}(aJ:w3.ownsRow base e size v' n xs)(hg:(w.alloc o).grownBy w3 v.ownBlock)(bu:v'.ownBlock=v.ownBlock\/v'.ownBlock=some (w.heap.size+1)):Gr base w w3 e size v v' n xs:=
 ⟨aJ,((Kp.refl _ _).alloc o).grown hg (λ_ e=>.inl e),bu.imp id (λe=>⟨_,e,Nat.le_succ _⟩)⟩
theorem dO(aJ:w3.ownsRow base e size v' n xs)(hg:w.grownBy w3 v.ownBlock)(bu:v'.ownBlock=v.ownBlock\/v'.ownBlock=some w.heap.size):Gr base w w3 e size v v' n xs:=
 ⟨aJ,(Kp.refl _ _).grown hg (λ_ e=>.inl e),bu.imp id (λe=>⟨_,e,Nat.le_refl _⟩)⟩
theorem eV(w:World)(base n:Nat)(v:Value)(xs:List Value)(num:Int)(ho:w.ownsRow base 5 1 v n xs)(hb:base<=w.heap.size)(hn:n<=100000):
  Calls Tryz.prog 122 #[v,.int .i64 num] w λe w'=>∃v',e=.returned v'/\Gr base w w' 5 1 v v' (n+2) (xs++(Cx.two num).map Cx.bV):=by
 rw[Cx.afe];obtain⟨i0,dl,eu,dA,eg⟩:=info_parts Tryz.infoByte;have HO:=ae ho;clear ho;go_enter Tryz.func122,Tryz.ntmps122;go_wp2_with (at_builtin;refine wpList_append_own_at _ rfl _ _ 64 rfl base 5 i0 _ 1 1 Tryz.underlying64 dl eu dA eg rfl (by decide) _ n xs rfl (ah HO.out ((Below.refl _ _).alloc (Nat.le_refl _) _)) ⟨w.heap.size,0,none⟩ 2 2 [.int .u8 (num%256),.int .u8 (num/256%256)] rfl rfl (aF _ _ rfl [_,_] _) ?c2 ?c3 ?c4 ?c5 ?_)
 case c2=>intro u hu;simp at hu;rcases hu with rfl|rfl<;>rfl
 case c3=>grind[maxLen]
 case c4=>omega
 case c5=>simp;omega
 intro v' w3 aJ ax _ bu;have hG:Gr base w w3 5 1 v v' (n+2) (xs++[.int .u8 (num%256),.int .u8 (num/256%256)]):=eF aJ ax bu;have HG:=ae hG;clear aJ ax bu hG;go_wp2_with fail;go_ret;exact⟨_,rfl,HG.out⟩
def qV(which:Nat)(same:Bool)(num:Int)(bF:Bool):Value:=.agg #[.int .i64 which,.bool same,.int .i64 num,.bool bF]
def r9(which:Nat)(same:Bool)(num:Int)(bF:Bool):List UInt8:=[if same then 8 else 7,UInt8.ofNat which]++Cx.two num++(if bF then [5]else [])
theorem cZ(X:World)(o:Obj):Below X.heap.size X (X.alloc o).drew:=((Below.refl _ _).alloc (Nat.le_refl _) o).drew
theorem am1(X:World)(o:Obj):(X.alloc o).drew.heap.size=X.heap.size+1:=by simp
theorem sb(W:World)(n:Nat)(hn:n=W.heap.size)(cs:List Value)(t:Nat):∀j u,cs[j]?=some u->(W.alloc (.cells cs.toArray t)).drew.cell? ((⟨n,0,none⟩:Addr).add j)=some u:=aF W n hn cs t
theorem uR{b:Value}(ha:a.oneCell'=true)(hb:b.oneCell'=true):∀u∈[a,b],u.oneCell'=true:=by
 grind
theorem Hb{o:Obj}(aJ:w7.ownsRow base e size v7 n xs)(hg:(X.alloc o).drew.grownBy w7 v.ownBlock)(bu:v7.ownBlock=v.ownBlock\/v7.ownBlock=some (X.alloc o).drew.heap.size)
  (hb:b<X.heap.size) (hv:∀k,v.ownBlock=some k->k<b):Gr base X w7 e size v v7 n xs/\∀o,w7.cell? ⟨b,o,none⟩=X.cell? ⟨b,o,none⟩:=by
 have hG:Gr base X w7 e size v v7 n xs:=eF aJ ⟨hg.os,hg.tape,hg.output,hg.size,hg.block⟩ (by simp_all);exact⟨hG,λo=>hG.kept.cell hb (λe=>by grind)⟩
theorem Sw{w8:World}{v8:Value}(h:Gr base X w7 e size v v7 n xs)(k:Gr base w7 w8 e size v7 v8 m ys)(hb:b<X.heap.size)(hv:∀k,v.ownBlock=some k->k<b):Gr base X w8 e size v v8 m ys/\∀o,w8.cell? ⟨b,o,none⟩=X.cell? ⟨b,o,none⟩:=
 ⟨h.trans k,λo=>(h.trans k).kept.cell hb (λe=>by grind)⟩
theorem qX(w:World)(base n:Nat)(v:Value)(xs:List Value)(which:Nat)(same:Bool)(num:Int)(bF:Bool)(ho:w.ownsRow base 5 1 v n xs)(hb:base<=w.heap.size)(hn:n<=90000):
  Calls Tryz.prog 213 #[v,qV which same num bF] w λe w'=>∃v',e=.returned v'/\Gr base w w' 5 1 v v' (n+(r9 which same num bF).length) (xs++(r9 which same num bF).map Cx.bV):=by
 obtain⟨i0,dl,eu,dA,eg⟩:=info_parts Tryz.infoByte;obtain⟨av,cv,rfl,_,_⟩:=aj ho;have xi:=λk hk=>(ho.lt k hk).2
 have HB:Hid (Below w.heap.size w (w.alloc (.cells #[.int .i64 which,.bool same,.int .i64 num,.bool bF] 314))):=ae ((Below.refl _ _).alloc (Nat.le_refl _) _);have HX:=ae (heap_alloc_new w (.cells #[.int .i64 which,.bool same,.int .i64 num,.bool bF] 314));have hz:(w.alloc (.cells #[.int .i64 which,.bool same,.int .i64 num,.bool bF] 314)).heap.size=w.heap.size+1:=by simp
 have HO:=ae (ah ho HB.out);clear ho;obtain⟨X,hX⟩:∃X,X=w.alloc (.cells #[.int .i64 which,.bool same,.int .i64 num,.bool bF] 314):=⟨_,rfl⟩;rw[<-hX]at HB HX hz HO;have hqc:(r9 which same num bF).map Cx.bV=[.int .u8 (if same then 8 else 7),.int .u8 ((which)%256)]++(Cx.two num).map Cx.bV++(if bF then [.int .u8 5]else []):=by
  rw[<-Cx.mx,r9]
  cases same<;>cases bF<;>simp only [List.map_append,List.map_cons,List.map_nil,if_true,if_false,Bool.false_eq_true]<;>rfl
 have hql:(r9 which same num bF).length=4+(if bF then 1 else 0):=by cases bF<;>simp[r9,Cx.two]
 rw[hqc,hql];clear hqc hql;unfold qV;have qN:w.heap.size<X.heap.size:=by omega
 have KX:base<=X.heap.size:=by omega
 have Sx:base<=X.heap.size+1:=by omega
 have iq:n+2<=maxLen:=by unfold maxLen;omega
 have qP:(n+2)*1<=140737488355328:=by omega
 cases same with
 |true=>
  go_enter Tryz.func213,Tryz.ntmps213;go_upto_region 4 with(fail);rw[<-hX];clear hX;obtain⟨x0,-,x2⟩:=GK HX.out
  go_region_held3 (λY=>Y.cell? ⟨w.heap.size,0,none⟩=some (.int .i64 which)/\Y.cell? ⟨w.heap.size,2,none⟩=some (.int .i64 num)) (first|go_keep|(exact⟨by with_reducible assumption,by with_reducible assumption⟩))
   (first
    |(go_at_call 122;refine(eV _ base _ _ _ num Do.own ?_ ?_).mono ?_;exact Nat.le_trans KX Do.kept.size;omega;rintro e w8 ⟨v8,rfl,Ew⟩;obtain⟨hGG,ZV⟩:=Sw Do Ew qN xi;have z0:=(ZV 0).trans x0;have z2:=(ZV 2).trans x2)
    |(refine aD rfl _ _ 64 rfl base 5 i0 _ 1 1 Tryz.underlying64 dl eu dA eg rfl (by decide) _ n xs rfl (ah HO.out (cZ _ _)) ⟨_,0,none⟩ 2 2 [.int .u8 8,.int .u8 (IntKind.u8.wrap which)] rfl rfl (sb _ _ hz.symm [.int .u8 8,.int .u8 (IntKind.u8.wrap which)] _) (uR rfl rfl) iq qP (Nat.le_trans KX (cZ _ _).size) ?_;intro v7 w7 aJ ax bu;obtain⟨Do,OA⟩:=Hb aJ ax bu qN xi;have y0:=(OA 0).trans x0;have y2:=(OA 2).trans x2;clear aJ ax bu OA))
  have z3:=(ZV 3).trans (show X.cell? ⟨w.heap.size,3,none⟩=some (.bool bF)from Lib.cell_of_heap HX.out 3);have Sy:Hid (Gr base w w8 5 1 (.slice av n cv) v8 (n+2+2) (xs++[.int .u8 8,.int .u8 ((which)%256)]++(Cx.two num).map Cx.bV)):=ae (hGG.after HB.out);have hs8:=Nat.le_trans hb Sy.out.kept.size;clear Do Ew hGG ZV x0 x2 y0 y2 z0 z2 HO HX;obtain⟨a8,c8,rfl,_,_⟩:=aj Sy.out.own
  cases bF with
  |false=>
   go_wp2_with fail;go_ret;exact⟨_,rfl,by simpa using Sy.out⟩
  |true=>
   go_wp2_with (at_builtin;refine wpList_append_own_at _ rfl _ _ 64 rfl base 5 i0 _ 1 1 Tryz.underlying64 dl eu dA eg rfl (by decide) _ (n+2+2) _ rfl (ah Sy.out.own ((Below.refl _ _).alloc (Nat.le_refl _) _)) ⟨w8.heap.size,0,none⟩ 1 1 [.int .u8 5] rfl rfl (aF _ _ rfl [_] _) ?c2 ?c3 ?c4 ?c5 ?_)
   case c2=>intro u hu;simp at hu;rcases hu with rfl;rfl
   case c3=>grind[maxLen]
   case c4=>omega
   case c5=>simp;omega
   intro v9 w9 aJ ax _ bu;have ZW:=ae (Sy.out.trans (eF aJ ax (by omega)));clear aJ ax bu;go_wp2_with fail;go_ret;exact⟨_,rfl,by simpa using ZW.out⟩
 |false=>
  go_enter Tryz.func213,Tryz.ntmps213;go_upto_region 4 with(fail);rw[<-hX];clear hX;obtain⟨x0,-,x2⟩:=GK HX.out
  go_region_held3 (λY=>Y.cell? ⟨w.heap.size,0,none⟩=some (.int .i64 which)/\Y.cell? ⟨w.heap.size,2,none⟩=some (.int .i64 num)) (first|go_keep|(exact⟨by with_reducible assumption,by with_reducible assumption⟩))
   (first
    |(go_at_call 122;refine(eV _ base _ _ _ num Do.own ?_ ?_).mono ?_;exact Nat.le_trans KX Do.kept.size;omega;rintro e w8 ⟨v8,rfl,Ew⟩;obtain⟨hGG,ZV⟩:=Sw Do Ew qN xi;have z0:=(ZV 0).trans x0;have z2:=(ZV 2).trans x2)
    |(refine aD rfl _ _ 64 rfl base 5 i0 _ 1 1 Tryz.underlying64 dl eu dA eg rfl (by decide) _ n xs rfl (ah HO.out (cZ _ _)) ⟨_,0,none⟩ 2 2 [.int .u8 7,.int .u8 (IntKind.u8.wrap which)] rfl rfl (sb _ _ hz.symm [.int .u8 7,.int .u8 (IntKind.u8.wrap which)] _) (uR rfl rfl) iq qP (Nat.le_trans KX (cZ _ _).size) ?_;intro v7 w7 aJ ax bu;obtain⟨Do,OA⟩:=Hb aJ ax bu qN xi;have y0:=(OA 0).trans x0;have y2:=(OA 2).trans x2;clear aJ ax bu OA))
  have z3:=(ZV 3).trans (show X.cell? ⟨w.heap.size,3,none⟩=some (.bool bF)from Lib.cell_of_heap HX.out 3);have Sy:Hid (Gr base w w8 5 1 (.slice av n cv) v8 (n+2+2) (xs++[.int .u8 7,.int .u8 ((which)%256)]++(Cx.two num).map Cx.bV)):=ae (hGG.after HB.out);have hs8:=Nat.le_trans hb Sy.out.kept.size;clear Do Ew hGG ZV x0 x2 y0 y2 z0 z2 HO HX;obtain⟨a8,c8,rfl,_,_⟩:=aj Sy.out.own
  cases bF with
  |false=>
   go_wp2_with fail;go_ret;exact⟨_,rfl,by simpa using Sy.out⟩
  |true=>
   go_wp2_with (at_builtin;refine wpList_append_own_at _ rfl _ _ 64 rfl base 5 i0 _ 1 1 Tryz.underlying64 dl eu dA eg rfl (by decide) _ (n+2+2) _ rfl (ah Sy.out.own ((Below.refl _ _).alloc (Nat.le_refl _) _)) ⟨w8.heap.size,0,none⟩ 1 1 [.int .u8 5] rfl rfl (aF _ _ rfl [_] _) ?c2 ?c3 ?c4 ?c5 ?_)
   case c2=>intro u hu;simp at hu;rcases hu with rfl;rfl
   case c3=>grind[maxLen]
   case c4=>omega
   case c5=>simp;omega
   intro v9 w9 aJ ax _ bu;have ZW:=ae (Sy.out.trans (eF aJ ax (by omega)));clear aJ ax bu;go_wp2_with fail;go_ret;exact⟨_,rfl,by simpa using ZW.out⟩
theorem bm(X:World):Below X.heap.size X X.drew:=⟨rfl,rfl,rfl,Nat.le_refl _,λ_ _=>rfl⟩
theorem ag(X:World)(o:Obj):Below X.heap.size X (X.alloc o):=(Below.refl _ _).alloc (Nat.le_refl _) o
theorem j6{s:Nat}(h:Gr c Y w' e s v v' m ys)(hb:b<Y.heap.size)(hv:∀k,v.ownBlock=some k->k≠b):(∀o,w'.cell? ⟨b,o,none⟩=Y.cell? ⟨b,o,none⟩)/\(∀k,v'.ownBlock=some k->k≠b)/\b<w'.heap.size:=by
 refine⟨λo=>h.kept.cell hb (λe=>hv _ e rfl),λk hk=>?_,Nat.lt_of_lt_of_le hb h.kept.size⟩;rcases h.spot with e|⟨q,e,hq⟩
 all_goals grind
theorem m9{s:Nat}(h:Gr c Y w' e s v v' m ys)(k:Below X.heap.size X Y)(hb:b<X.heap.size)(hv:∀k,v.ownBlock=some k->k≠b):(∀o,w'.cell? ⟨b,o,none⟩=X.cell? ⟨b,o,none⟩)/\(∀k,v'.ownBlock=some k->k≠b)/\b<w'.heap.size:=by
 obtain⟨h1,h2,h3⟩:=j6 h (Nat.lt_of_lt_of_le hb k.size) hv;exact⟨λo=>(h1 o).trans (k.cell hb),h2,h3⟩
theorem xK{s:Nat}(ht:t0=X.heap.size)(h1:Gr c (X.alloc (.cells #[a] t)).drew w1 e s v v1 m ys)(h2:Gr c w1 w2 e s v1 v2 m2 zs)(hv:∀k,v.ownBlock=some k->k<X.heap.size):
  ∀j u,[a][j]?=some u->w2.cell? ((⟨t0,0,none⟩:Addr).add j)=some u:=by
 subst ht;intro j u hu;obtain⟨iH,nG,bH⟩:=j6 (b:=X.heap.size) h1 (by simp) (λk hk=>by grind);obtain⟨lQ,_,_⟩:=j6 h2 bH nG;have:=sb X X.heap.size rfl [a] t j u hu
 grind[Addr.add]
theorem ado{s:Nat}(ht:t0=X.heap.size)(h1:Gr c (X.alloc (.cells #[a] t)).drew w1 e s v v1 m ys)(hv:∀k,v.ownBlock=some k->k<X.heap.size):
  ∀j u,[a][j]?=some u->w1.cell? ((⟨t0,0,none⟩:Addr).add j)=some u:=by
 subst ht;intro j u hu;obtain⟨iH,_,_⟩:=j6 (b:=X.heap.size) h1 (by simp) (λk hk=>by grind);have:=sb X X.heap.size rfl [a] t j u hu
 grind[Addr.add]
theorem se{s:Nat}(h1:Gr c Y w1 e s v v1 m ys)(h2:Gr c (w1.alloc (.cells #[a] t)) w2 e s v1 v2 m2 zs):
  ∀j u,[a][j]?=some u->w2.cell? ((⟨w1.heap.size,0,none⟩:Addr).add j)=some u:=by
 intro j u hu;obtain⟨lQ,_,_⟩:=j6 (b:=w1.heap.size) h2 (by simp) (λk hk=>by have:=(h1.own.lt k hk).2;omega);have:=aF w1 w1.heap.size rfl [a] t j u hu
 grind[Addr.add]
theorem M8(n:Nat)(a b:List UInt8)(x:UInt8):n+(a++b++[x]).length=n+a.length+b.length+1:=by grind
theorem M9(xs:List Value)(a b:List UInt8)(x:UInt8):xs++(a++b++[x]).map Cx.bV=xs++a.map Cx.bV++b.map Cx.bV++[Cx.bV x]:=by simp
theorem ZX(n:Nat)(a:List UInt8)(x:UInt8):n+(a++[x]).length=n+a.length+1:=by grind
theorem ZY(xs:List Value)(a:List UInt8)(x:UInt8):xs++(a++[x]).map Cx.bV=xs++a.map Cx.bV++[Cx.bV x]:=by simp
theorem eI(ha:a.oneCell'=true):∀u∈[a],u.oneCell'=true:=by
 grind
theorem pD{s m1 m3:Nat}{Y0 Y1 Y2:World}{v3:Value}{x1 x2 x3:List Value}(h0:Below X.heap.size X Y0)(h1:Gr c Y0 w1 e s v v1 m1 x1)(k1:Below w1.heap.size w1 Y1)(h2:Gr c Y1 w2 e s v1 v2 m2 x2)(k2:Below w2.heap.size w2 Y2)
  (aJ:w3.ownsRow c e s v3 m3 x3) (hg:Y2.grownBy w3 v2.ownBlock) (bu:v3.ownBlock=v2.ownBlock\/v3.ownBlock=some Y2.heap.size) (hb:b<X.heap.size) (hv:∀k,v.ownBlock=some k->k<b):Gr c X w3 e s v v3 m3 x3/\∀o,w3.cell? ⟨b,o,none⟩=X.cell? ⟨b,o,none⟩:=by
 have h3:=dO aJ hg bu;have hG:=((h1.after h0).below k1).trans ((h2.below k2).trans h3);exact⟨hG,λo=>hG.kept.cell hb (λe=>by grind)⟩
namespace Cx
def oN(y:Int):Int:=if bits BinOp.and IntKind.u32 y 1==1 then bits BinOp.xor IntKind.u32 (y/2) 3988292384 else y/2
def lG:Nat->Int->Int
 |0,y=>y
 |n+1,y=>oN (lG n y)
def sf(y:Int)(b:UInt8):Int:=lG 8 (bits BinOp.xor IntKind.u32 y ((b.toNat:Int)%4294967296))
def nc(l:List UInt8):Int:=l.foldl sf 4294967295
theorem EG(l:List UInt8)(k:Nat)(h:k<l.length):nc (l.take (k+1))=sf (nc (l.take k)) l[k]:=by
 grind[Option.toList,List.take_add_one,List.getElem?_eq_getElem,nc]
def Dg(l:List UInt8):Int:=bits BinOp.xor IntKind.u32 IntKind.u32.max (nc l)
def fd(l:List UInt8):List UInt8:=[lR (Dg l) 1,lR (Dg l) 256,lR (Dg l) 65536,lR (Dg l) 16777216]
end Cx
theorem ZZ(w:World)(g cap:Nat)(l:List UInt8)(hc:∀i (hi:i<l.length),w.cell? ⟨g,i,none⟩=some (Cx.bV l[i]))(hl:l.length<=100000):
  Calls Tryz.prog 172 #[.slice (some ⟨g,0,none⟩) l.length cap] w λe w'=>e=.returned (.int .u32 (Cx.Dg l))/\w'=w:=by
 have HC:=ae hc;clear hc;go_enter Tryz.func172,Tryz.ntmps172;go_wp2
 go_loop [3,9] (λv3 v9=>∃(k:Nat),k<=l.length/\v9=.int .i64 k/\v3=.int .u32 (Cx.nc (l.take k))) (λ_ v9=>l.length-(intOf v9).toNat)
 case atStart=>exact⟨0,by omega,rfl,rfl⟩
 case round=>
  obtain⟨k,hk,rfl,rfl⟩:=hrel
  by_cases hlt:k<l.length
  ·have x0:w.cell? ⟨g,k,none⟩=some (.int .u8 (l[k].toNat)):=HC.out k hlt
   have rM:(k:Int)<l.length:=by omega
   have jf:(0:Int)<=k:=by omega
   have HF:=ae (Cx.EG l k hlt);generalize l[k]=c at*;generalize Cx.nc (l.take k)=x at*;go_wp2
   go_loop [3,17] (λv3 v17=>∃(j:Nat),j<=8/\v17=.int .i64 j/\v3=.int .u32 (Cx.lG j (bits BinOp.xor IntKind.u32 x ((c.toNat:Int)%4294967296)))) (λ_ v17=>8-(intOf v17).toNat)
   case atStart=>exact⟨0,by omega,rfl,rfl⟩
   case round=>
    obtain⟨j,hj,rfl,rfl⟩:=hrel
    by_cases h8:j<8
    ·have h8i:(j:Int)<8:=by omega
     have HB:Hid (Cx.lG (j+1) (bits BinOp.xor IntKind.u32 x ((c.toNat)%4294967296))=Cx.oN (Cx.lG j (bits BinOp.xor IntKind.u32 x ((c.toNat)%4294967296)))):=ae rfl;generalize Cx.lG j (bits BinOp.xor IntKind.u32 x ((c.toNat:Int)%4294967296))=y at*
     cases hq:(bits BinOp.and IntKind.u32 y 1==1)with
     |true=>
      have HQ:Hid (Cx.oN y=bits BinOp.xor IntKind.u32 (y/2) 3988292384):=ae (by rw[Cx.oN,if_pos hq]);go_wp2;exact⟨⟨j+1,by omega,by go_num,by rw[HB.out,HQ.out]⟩,by grind[intOf]⟩
     |false=>
      have HQ:Hid (Cx.oN y=y/2):=ae (by simp_all[Cx.oN]);go_wp2;exact⟨⟨j+1,by omega,by go_num,by rw[HB.out,HQ.out]⟩,by grind[intOf]⟩
    ·have h8i:¬(j:Int)<8:=by omega
     obtain rfl:j=8:=by omega
     go_wp2;exact⟨⟨k+1,by omega,by go_num,by rw[HF.out];rfl⟩,by grind[intOf]⟩
  ·have rM:¬(k:Int)<l.length:=by omega
   obtain rfl:k=l.length:=by omega
   rw[List.take_length];go_wp2;go_ret;exact⟨rfl,rfl⟩
theorem EH(w:World)(g cap:Nat)(l:List UInt8)(hc:∀i (hi:i<l.length),w.cell? ⟨g,i,none⟩=some (Cx.bV l[i]))(hl:l.length<=100000):
  Calls Tryz.prog 123 #[.slice (some ⟨g,0,none⟩) l.length cap] w λe w'=>e=.returned (.slice (some ⟨w.heap.size,0,none⟩) 4 4)/\w'=w.alloc (.cells ((Cx.fd l).map Cx.bV).toArray 5):=by
 have HS:=ae (ZZ w g cap l hc hl);have HE:Hid (((Cx.fd l).map Cx.bV).toArray=#[.int .u8 (Cx.Dg l%256),.int .u8 (Cx.Dg l/256%256),.int .u8 (Cx.Dg l/65536%256),.int .u8 (Cx.Dg l/16777216%256)]):=ae (by simp[Cx.fd,Cx.DG]);clear hc;go_enter Tryz.func123,Tryz.ntmps123;go_wp2_with fail;refine HS.out.mono ?_;rintro e w1 ⟨rfl,rfl⟩;generalize Cx.Dg l=x at*;go_wp2_with fail;go_ret;exact⟨rfl,by rw[HE.out]⟩
end
section
namespace Cx
open Hx
def aZ(ms:List MA)(i:Nat):Int:=match ms[i]? with|some m=>m.outer|none=>-1
def j7(ms:List MA)(i:Nat):Bool:=match ms[i]? with|some m=>m.dflt|none=>false
def bp(ms:List MA)(i:Nat):List Nat:=(ms.zipIdx.filter λp=>decide (p.1.outer=(i:Int))).map (·.2)
def eW(ms:List MA)(i:Nat):Bool:=(bp ms i).isEmpty
def dR(ms:List MA)(n:Nat):List Nat:=(List.range n).filter (eW ms)
def leaves(ms:List MA):List Nat:=dR ms ms.length
def nH(ms:List MA):Nat->Nat->List Nat
 |0,i=>[i]
 |f+1,i=>if aZ ms i<0 then [i]else nH ms f (aZ ms i).toNat++[i]
def path(ms:List MA)(i:Nat):List Nat:=nH ms i i
def QZ(ms:List MA)(i:Nat):Nat:=((bp ms i).find? (j7 ms)).getD 0
def nd(ms:List MA):Nat->Nat->Nat
 |0,i=>i
 |f+1,i=>if eW ms i then i else nd ms f (QZ ms i)
def enter(ms:List MA)(i:Nat):Nat:=nd ms (ms.length-i) i
structure Q where
 which:Nat
 same:Bool
 num:Int
 bF:Bool
def dY(vs:List az)(n:ByteArray):Nat:=vs.findIdx (bK n)
def fx(o:ByteArray)(l:List UInt8):Bool:=o.toList==l
def nQ(vs:List az)(was:Bool)(nm op num:Tok):Q:=
 ⟨dY vs nm.s+(if was then 0 else vs.length),fx op.s [61,61]||fx op.s [33,61],(if fx op.s [60,61]||fx op.s [62]then num.n+1 else num.n),fx op.s [33,61]||fx op.s [62,61]||fx op.s [62]⟩
def Q.answer(q:Q)(xs:List Int):Bool:=let n:=xs.getD q.which 0;if q.same then(n==q.num) !=q.bF else decide (n<q.num) !=q.bF
def Q.jh(q:Q):List Int:=if q.same then [q.num,q.num+1]else [q.num]
def Q.code(q:Q):List UInt8:=r9 q.which q.same q.num q.bF
def aY(vs:List az):G->List UInt8
 | .or l r=>aY vs l++aY vs r++[4]
 | .and l r=>aY vs l++aY vs r++[3]
 | .not g=>aY vs g++[5]
 | .group _ g=>aY vs g
 | .gZ=>[6]
 | .atom w nm op num _=>(nQ vs w.isSome nm op num).code
def fE(ms:List MA)(n:ByteArray):Nat:=ms.findIdx λm=>m.name.s.toList==n.toList
def numberOf(ms:List MA)(i:Nat):Nat:=(leaves ms).findIdx (λj=>j==enter ms i)
def iY(ms:List MA)(r:bD):List UInt8:=match r.dest with|none=>[0]|some t=>[1,UInt8.ofNat (numberOf ms (fE ms t.s))]
def bO(vs:List az)(ms:List MA)(r:bD):List UInt8:=aY vs r.g++[2]++two (iY ms r).length++iY ms r
def rowsOf(ms:List MA)(i:Nat):List bD:=match ms[i]? with|some m=>m.rows|none=>[]
def program(vs:List az)(ms:List MA)(i:Nat):List UInt8:=((path ms i).flatMap λj=>(rowsOf ms j).flatMap (bO vs ms))++[0]
def nameOf(ms:List MA)(i:Nat):ByteArray:=match ms[i]? with|some m=>m.name.s|none=>⟨#[]⟩
