/- The checker as a plain function, and that it finds the document's first fault; nothing of the program's memory is asked here. -/
import Derived.Test.YtdjaiolfdbamcaaGreatDoorZWChk1
import Derived.Test.YtdjaiolfdbamcaaGreatDoorZBase
namespace Go.Proofs.YtdjaiolfdbamcaaGreatDoor
section
namespace Hx
theorem numOf_decN (f:Nat):∀ n,n<10 ^ (f+1)->numOf (decN f n)=n:=by
 have hd:∀ n:Nat,((UInt8.ofNat (48+n % 10)).toNat:Int)=48+(n % 10:Nat):=by
  intro n;have:n % 10<10:=Nat.mod_lt _ (by omega);rw [UInt8.toNat_ofNat_of_lt' (by simp [UInt8.size];omega)];omega
 induction f with
 | zero=>intro n h;simp only [decN];have:=numOf_snoc [] (UInt8.ofNat (48+n % 10));simp only [List.nil_append] at this;rw [this,hd];simp [numOf];omega
 | succ f ih =>
  intro n h;simp only [decN];rw [numOf_snoc,hd];split
  ·rw [ih (n/10) (by rw [Nat.pow_succ] at h;omega)];omega
  ·simp [numOf];omega
theorem decN_big (f:Nat):∀ n,∀ c∈decN f n,c≠45:=by
 have hd:∀ n:Nat,UInt8.ofNat (48+n % 10)≠45:=by
  intro n e;have:n % 10<10:=Nat.mod_lt _ (by omega);have h2:=congrArg UInt8.toNat e;rw [UInt8.toNat_ofNat_of_lt' (by simp [UInt8.size];omega)] at h2;have:(45:UInt8).toNat=45:=rfl;omega
 induction f with
 | zero=>intro n c hc;simp only [decN,List.mem_singleton] at hc;subst hc;exact hd n
 | succ f ih =>
  intro n c hc;simp only [decN,List.mem_append,List.mem_singleton] at hc;rcases hc with hc | hc
  ·split at hc
   ·exact ih _ c hc
   ·simp at hc
  ·subst hc;exact hd n
theorem decI_inj {a b:Int} (ha : -9999<=a/\a<=9999) (hb : -9999<=b/\b<=9999) (h:decI a=decI b):a=b:=by
 have na:=numOf_decN 4 a.natAbs (by omega);have nb:=numOf_decN 4 b.natAbs (by omega);have hne:∀ n:Nat,∀ l,decN 4 n≠45::l:=fun n l e=>decN_big 4 n 45 (by rw [e];simp) rfl
 unfold decI at h
 by_cases h1:a<0
 ·by_cases h2:b<0
  ·rw [if_pos h1,if_pos h2] at h
   simp only [List.cons.injEq,true_and] at h;rw [h] at na;omega
  ·rw [if_pos h1,if_neg h2] at h;exact absurd h.symm (hne _ _)
 ·by_cases h2:b<0
  ·rw [if_neg h1,if_pos h2] at h;exact absurd h (hne _ _)
  ·rw [if_neg h1,if_neg h2] at h
   rw [h] at na;omega
end Hx
structure AK where
 was:Bool
 name:ByteArray
 op:ByteArray
 num:Int
def AK.same (a b:AK):Bool:=a.was == b.was && a.name.toList == b.name.toList && a.op.toList == b.op.toList && a.num == b.num
def atomToks (was:Option Hx.Tok) (nm op num:Hx.Tok):List Hx.Tok:=match was with | some w=>[w,nm,op,num] | none=>[nm,op,num]
def atomKey (was:Option Hx.Tok) (nm op num:Hx.Tok):AK:=⟨was.isSome,nm.s,op.s,num.n⟩
theorem same_key {w w':Option Hx.Tok} {n o i n' o' i':Hx.Tok} (h:Hx.AtomOk w n o i) (h':Hx.AtomOk w' n' o' i'):Hx.sameToks (atomToks w n o i) (atomToks w' n' o' i')=(atomKey w n o i).same (atomKey w' n' o' i'):=by
 have e1:Hx.sameTok n n'=(n.s.toList == n'.s.toList):=by simp [Hx.sameTok,h.nm,h'.nm]
 have e2:Hx.sameTok o o'=(o.s.toList == o'.s.toList):=by simp [Hx.sameTok,h.op,h'.op]
 have e3:Hx.sameTok i i'=(i.n == i'.n):=by
  obtain ⟨a1,a2,a3⟩:=h.txt.2 h.num;obtain ⟨b1,b2,b3⟩:=h'.txt.2 h'.num;simp only [Hx.sameTok,h.num,h'.num,a1,b1,BEq.rfl,Bool.true_and]
  by_cases e:i.n=i'.n
  ·rw [e];simp
  ·rw [beq_eq_false_iff_ne.2 e,beq_eq_false_iff_ne.2 (fun h=>e (Hx.decI_inj ⟨a2,a3⟩ ⟨b2,b3⟩ h))]
 cases w with
 | none=>cases w' with
  | none=>simp [atomToks,atomKey,AK.same,Hx.sameToks,e1,e2,e3,Bool.and_assoc]
  | some t'=>simp [atomToks,atomKey,AK.same,Hx.sameToks]
 | some t=>cases w' with
  | none=>simp [atomToks,atomKey,AK.same,Hx.sameToks]
  | some t' =>
   have e0:Hx.sameTok t t'=true:=by
    obtain ⟨a1,a2⟩:=h.was t rfl;obtain ⟨b1,b2⟩:=h'.was t' rfl;simp [Hx.sameTok,a1,a2,b1,b2]
   simp [atomToks,atomKey,AK.same,Hx.sameToks,e0,e1,e2,e3,Bool.and_assoc]
structure CS where
 rows:Nat
 atoms:List AK
 cl:Int×Int
def CS.ref (s:CS) (bad:Bool) (code line:Int):CS:={ s with cl:=refuseP bad code line s.cl }
def CS.addAtom (s:CS) (k:AK):CS:=if s.atoms.any (fun a=>a.same k) then s else { s with atoms:=s.atoms++[k] }
def ckAtom (vs:List VarA) (s:CS) (k:AK) (nl:Int) (num:Hx.Tok):CS :=
 let s1:=s.addAtom k
 ((s1.ref (decide (8<s1.atoms.length)) 1 nl).ref (!(vs.any (sameV k.name))) 3 nl).ref (badB num.n) 4 num.line
def ckG (vs:List VarA):Hx.G->Nat->CS->CS
 | .or l r,d,s=>ckG vs r d (ckG vs l d s)
 | .and l r,d,s=>ckG vs r d (ckG vs l d s)
 | .not g,d,s=>ckG vs g d s
 | .group t g,d,s=>ckG vs g (d+1) (s.ref (decide (6<=d)) 1 t.line)
 | .tru,_,s=>s
 | .atom w n o i _,_,s=>ckAtom vs s (atomKey w n o i) n.line i
def ckRow (vs:List VarA) (s:CS) (r:Hx.RowA):CS:=ckG vs r.g 0 ({ s with rows:=s.rows+1 }.ref (decide (24<s.rows+1)) 1 r.wh.line)
def ckMode (vs:List VarA) (gs:List MG) (i:Nat) (m:MG) (s:CS):CS :=
 m.a.rows.foldl (ckRow vs) ((s.ref (decide (12<=i) || decide (6<=m.a.depth)) 1 m.a.name.line).ref ((gs.take i).any (sameM m.a.name.s)) 3 m.a.name.line)
def ckModes (vs:List VarA) (gs:List MG):Nat->List MG->CS->CS
 | _,[],s=>s
 | i,m::r,s=>ckModes vs gs (i+1) r (ckMode vs gs i m s)
def ckVar (vs:List VarA) (i:Nat) (v:VarA) (s:CS):CS :=
 ((((s.ref (decide (3<=i)) 1 v.name.line).ref ((vs.take i).any (sameV v.name.s)) 3 v.name.line).ref (badB v.first.n) 4 v.first.line).ref (badB v.last.n) 4 v.last.line).ref (decide (v.last.n<v.first.n)) 4 v.last.line
def ckVars (vs:List VarA):Nat->List VarA->CS->CS
 | _,[],s=>s
 | i,v::r,s=>ckVars vs (i+1) r (ckVar vs i v s)
def destBad (gs:List MG) (r:Hx.RowA):Bool:=match r.dest with | none=>false | some a=>!(gs.any (sameM a.s))
def destLine (r:Hx.RowA):Int:=match r.dest with | none=>0 | some a=>a.line
def ckTargets (gs:List MG) (l:List MG) (s:CS):CS:=l.foldl (fun s m=>m.a.rows.foldl (fun s r=>s.ref (destBad gs r) 3 (destLine r)) s) s
def inner (gs:List MG) (i:Nat):List MG:=gs.filter fun g=>decide (g.a.outer=(i:Int))
def dears (gs:List MG) (i:Nat):Nat:=((inner gs i).filter fun g=>g.a.dflt).length
def ckTree (gs:List MG):Nat->List MG->CS->CS
 | _,[],s=>s
 | i,m::r,s=>ckTree gs (i+1) r (s.ref (decide (0<(inner gs i).length) && (decide (dears gs i≠1))) 5 m.a.name.line)
def ckAll (vs:List VarA) (gs:List MG):CS:=ckTree gs 0 gs (ckTargets gs gs (ckModes vs gs 0 gs (ckVars vs 0 vs ⟨0,[],(0,0)⟩)))
end
section
theorem ref_no (c:CS) (code line:Int):c.ref false code line=c:=rfl
theorem ref_stuck {c:CS} {b:Bool} {code line:Int} (h:c.cl.1≠0):c.ref b code line=c:=by
 obtain ⟨r,a,cl⟩:=c;have:(cl.1 == 0)=false:=beq_eq_false_iff_ne.2 h;simp [CS.ref,refuseP,this]
theorem wrong_stuck {s:Hx.St} {b:Bool} {code line:Nat} (h:s.code≠0):s.wrong b code line=s:=by simp [Hx.St.wrong,h]
theorem wrong_live {s:Hx.St} {b:Bool} {code line:Nat} (h:(s.wrong b code line).code=0) (hc:code≠0):s.code=0/\b=false:=by
 unfold Hx.St.wrong at h;split at h
 ·exact absurd h hc
 ·rename_i hn
  refine ⟨h,?_⟩
  cases b with
  | false=>rfl
  | true=>simp [h] at hn
def Eqf (s:Hx.St) (c:CS):Prop:=(s.code:Int)=c.cl.1/\(s.line:Int)=c.cl.2
theorem Eqf.step {s:Hx.St} {c:CS} {b b':Bool} {code line:Nat} (h:Eqf s c) (hb:s.code=0->b=b'):Eqf (s.wrong b code line) (c.ref b' code line):=by
 by_cases h0:s.code=0
 ·obtain rfl:=hb h0
  have h1:c.cl.1=0:=by rw [<- h.1,h0];rfl
  cases b with
  | false=>rw [ref_no];simpa [Hx.St.wrong] using h
  | true=>simp [Eqf,Hx.St.wrong,CS.ref,refuseP,h0,h1]
 ·have h1:c.cl.1≠0:=by rw [<- h.1];omega
  rw [wrong_stuck h0,ref_stuck h1];exact h
structure AQ where
 w:Option Hx.Tok
 n:Hx.Tok
 o:Hx.Tok
 i:Hx.Tok
 ok:Hx.AtomOk w n o i
def AQ.toks (q:AQ):List Hx.Tok:=atomToks q.w q.n q.o q.i
def AQ.key (q:AQ):AK:=atomKey q.w q.n q.o q.i
theorem any_same (L:List AQ) (q:AQ):(L.map AQ.toks).any (fun a=>Hx.sameToks a q.toks)=(L.map AQ.key).any (fun a=>a.same q.key):=by
 rw [List.any_map,List.any_map];congr 1;funext a;exact same_key a.ok q.ok
structure Live (vs:List VarA) (s:Hx.St) (c:CS):Prop where
 few:s.rows<=24
 len:c.atoms.length<=8
 ok:∀ k∈c.atoms,vs.any (sameV k.name)=true/\badB k.num=false
structure Sim (vs:List VarA) (s:Hx.St) (c:CS):Prop where
 eq:Eqf s c
 rows:c.rows=s.rows
 rel:∃ L:List AQ,s.atoms=L.map AQ.toks/\c.atoms=L.map AQ.key
 live:s.code=0->Live vs s c
def HV (vs:List VarA) (s:Hx.St):Prop:=∀ n,s.hasVar n=vs.any (sameV n)
theorem Sim.step {vs:List VarA} {s:Hx.St} {c:CS} {b b':Bool} {code line:Nat} (h:Sim vs s c) (hb:s.code=0->b=b') (hc:code≠0):Sim vs (s.wrong b code line) (c.ref b' code line) :=
 ⟨h.eq.step hb,by rw [Hx.St.wrong_rows];exact h.rows,by rw [Hx.St.wrong_atoms];exact h.rel,fun h0=>by
  obtain ⟨h1,rfl⟩:=wrong_live h0 hc;obtain ⟨a2,a3,a5⟩:=h.live h1
  exact ⟨by rw [Hx.St.wrong_rows];exact a2,a3,a5⟩⟩
theorem bad_same (n:Int):Hx.badInt n (-1000)=badB n:=by
 unfold Hx.badInt badB
 by_cases h1:1000<n <;> by_cases h2:n < -1000 <;> simp [h1,h2]
theorem atom_stuck {s:Hx.St} (h:s.code≠0) (l:List Hx.Tok) (a b:Hx.Tok):(s.atom l a b).code=s.code/\(s.atom l a b).line=s.line:=by
 unfold Hx.St.atom;split
 ·exact ⟨rfl,rfl⟩
 ·simp [Hx.St.number,wrong_stuck h]
theorem addAtom_cl (c:CS) (k:AK):(c.addAtom k).cl=c.cl:=by unfold CS.addAtom;split <;> rfl
theorem ckAtom_stuck {vs:List VarA} {c:CS} (h:c.cl.1≠0) (k:AK) (nl:Int) (i:Hx.Tok):(ckAtom vs c k nl i).cl=c.cl:=by
 have h1:(c.addAtom k).cl.1≠0:=by rw [addAtom_cl];exact h
 simp only [ckAtom,ref_stuck h1,addAtom_cl]
theorem atom_sim {vs:List VarA} {s:Hx.St} {c:CS} (h:Sim vs s c) (hv:HV vs s) (q:AQ):Sim vs (s.atom q.toks q.n q.i) (ckAtom vs c q.key q.n.line q.i):=by
 obtain ⟨L,a4,a4'⟩:=h.rel;have hstuck:s.code≠0->Eqf (s.atom q.toks q.n q.i) (ckAtom vs c q.key q.n.line q.i)/\(s.atom q.toks q.n q.i).code≠0:=fun h0=>by
  have h1:c.cl.1≠0:=by rw [<- h.eq.1];omega
  have e1:=atom_stuck h0 q.toks q.n q.i;have e2:=ckAtom_stuck (vs:=vs) h1 q.key q.n.line q.i;exact ⟨⟨by rw [e1.1,e2];exact h.eq.1,by rw [e1.2,e2];exact h.eq.2⟩,by rw [e1.1];exact h0⟩
 cases hany:s.atoms.any (fun a=>Hx.sameToks a q.toks) with
 | true =>
  have e1:s.atom q.toks q.n q.i=s:=by unfold Hx.St.atom;rw [if_pos hany]
  have hany2:c.atoms.any (fun a=>a.same q.key)=true:=by rw [a4',<- any_same,<- a4];exact hany
  have e2:c.addAtom q.key=c:=by unfold CS.addAtom;rw [if_pos hany2]
  have hat:(ckAtom vs c q.key q.n.line q.i).atoms=c.atoms:=by simp only [ckAtom,e2];rfl
  have hro:(ckAtom vs c q.key q.n.line q.i).rows=c.rows:=by simp only [ckAtom,e2];rfl
  by_cases h0:s.code=0
  ·obtain ⟨a2,a3,a5⟩:=h.live h0
   obtain ⟨k,hk,hs⟩:=List.any_eq_true.1 hany2;obtain ⟨b1,b2⟩:=a5 k hk;have hs':((k.was=q.key.was/\k.name.toList=q.key.name.toList)/\k.op.toList=q.key.op.toList)/\k.num=q.key.num:=by simpa [AK.same] using hs
   have e3:vs.any (sameV q.key.name)=true:=by
    rw [<- b1];congr 1;funext v;simp only [sameV,hs'.1.1.2]
   have e4:badB q.i.n=false:=by rw [<- b2,hs'.2];rfl
   have e5:ckAtom vs c q.key q.n.line q.i=c:=by
    simp only [ckAtom,e2,e3,e4,decide_eq_false (show ¬ 8<c.atoms.length by omega)];rfl
   rw [e1,e5];exact h
  ·obtain ⟨x1,x2⟩:=hstuck h0
   refine ⟨x1,by rw [hro,e1];exact h.rows,⟨L,by rw [e1];exact a4,by rw [hat];exact a4'⟩,fun hz=>absurd hz x2⟩
 | false =>
  have hany2:c.atoms.any (fun a=>a.same q.key)=false:=by rw [a4',<- any_same,<- a4];exact hany
  have e2:c.addAtom q.key={ c with atoms:=c.atoms++[q.key] }:=by unfold CS.addAtom;rw [if_neg (by simp [hany2])]
  have hat:(ckAtom vs c q.key q.n.line q.i).atoms=c.atoms++[q.key]:=by simp only [ckAtom,e2];rfl
  have hro:(ckAtom vs c q.key q.n.line q.i).rows=c.rows:=by simp only [ckAtom,e2];rfl
  have hl:s.atoms.length=c.atoms.length:=by rw [a4,a4'];simp
  have r1:(s.atom q.toks q.n q.i).atoms=(L++[q]).map AQ.toks:=by rw [Hx.St.atom_new s _ _ _ hany];simp [Hx.St.number_atoms,Hx.St.wrong_atoms,a4]
  refine ⟨?_,by rw [hro,Hx.St.atom_rows];exact h.rows,⟨L++[q],r1,by rw [hat,a4'];simp⟩,fun hz=>?_⟩
  ·by_cases h0:s.code=0
   ·obtain ⟨a2,a3,a5⟩:=h.live h0
    have x1:(s.atoms.length == 8)=decide (8<(c.atoms++[q.key]).length):=by
     rw [hl,List.length_append]
     by_cases h8:c.atoms.length=8
     ·rw [h8];rfl
     ·rw [beq_eq_false_iff_ne.2 h8,decide_eq_false (by simp;omega)]
    have x2:(!s.hasVar q.n.s)=!(vs.any (sameV q.key.name)):=by rw [hv];rfl
    rw [Hx.St.atom_new s _ _ _ hany];have hE:Eqf (((s.wrong (s.atoms.length == 8) 1 q.n.line).wrong (!s.hasVar q.n.s) 3 q.n.line).number q.i (-1000)) (ckAtom vs c q.key q.n.line q.i):=by
     simp only [ckAtom,e2];refine Eqf.step (Eqf.step (Eqf.step ?_ (fun _=>x1)) (fun _=>x2)) (fun _=>bad_same _);exact h.eq
    exact hE
   ·exact (hstuck h0).1
  ·rw [Hx.St.atom_new s _ _ _ hany] at hz
   have hz':((((s.wrong (s.atoms.length == 8) 1 q.n.line).wrong (!s.hasVar q.n.s) 3 q.n.line).wrong (Hx.badInt q.i.n (-1000)) 4 q.i.line)).code=0:=hz;obtain ⟨z1,y3⟩:=wrong_live hz' (by decide);obtain ⟨z2,y2⟩:=wrong_live z1 (by decide);obtain ⟨z3,y1⟩:=wrong_live z2 (by decide);obtain ⟨a2,a3,a5⟩:=h.live z3;have n8:s.atoms.length≠8:=beq_eq_false_iff_ne.1 y1;refine ⟨by rw [Hx.St.atom_rows];exact a2,by rw [hat,List.length_append];simp;omega,?_⟩;intro k hk;rw [hat] at hk;rcases List.mem_append.1 hk with hk | hk
   ·exact a5 k hk
   ·rw [List.mem_singleton] at hk
    subst hk;refine ⟨?_,?_⟩
    ·rw [hv] at y2
     have:vs.any (sameV q.n.s)=true:=by simpa using y2
     exact this
    ·rw [bad_same] at y3;exact y3
theorem sen_stuck (g:Hx.G):∀ (d:Int) (s:Hx.St),s.code≠0->(g.sen d s).code=s.code/\(g.sen d s).line=s.line:=by
 induction g with
 | or l r h1 h2=>intro d s h;have a:=h1 d s h;have b:=h2 d (l.sen d s) (by rw [a.1];exact h);exact ⟨b.1.trans a.1,b.2.trans a.2⟩
 | and l r h1 h2=>intro d s h;have a:=h1 d s h;have b:=h2 d (l.sen d s) (by rw [a.1];exact h);exact ⟨b.1.trans a.1,b.2.trans a.2⟩
 | not g ih=>intro d s h;exact ih d s h
 | group t g ih=>intro d s h;rw [Hx.G.sen,wrong_stuck h];exact ih _ s h
 | tru=>intro d s h;exact ⟨rfl,rfl⟩
 | atom w n o i ok=>intro d s h;cases w <;> exact atom_stuck h _ _ _
theorem sen_vars (g:Hx.G):∀ d s,(g.sen d s).vars=s.vars:=by
 induction g with
 | or l r h1 h2=>intro d s;rw [Hx.G.sen,h2,h1]
 | and l r h1 h2=>intro d s;rw [Hx.G.sen,h2,h1]
 | not g h=>intro d s;rw [Hx.G.sen,h]
 | group t g h=>intro d s;rw [Hx.G.sen,h,Hx.St.wrong_vars]
 | tru=>intro d s;rfl
 | atom w n o i ok=>intro d s;cases w <;> exact Hx.St.atom_vars _ _ _ _
theorem HV.of {vs:List VarA} {s s':Hx.St} (h:HV vs s) (e:s'.vars=s.vars):HV vs s':=fun n=>by rw [<- h n];simp only [Hx.St.hasVar,e]
theorem sen_sim {vs:List VarA} (g:Hx.G):∀ (d:Nat) (s:Hx.St) (c:CS),Sim vs s c->HV vs s->(s.code≠0\/d<=6)->Sim vs (g.sen d s) (ckG vs g d c):=by
 have two:∀ (l r:Hx.G),(∀ (d:Nat) (s:Hx.St) (c:CS),Sim vs s c->HV vs s->(s.code≠0\/d<=6)->Sim vs (l.sen d s) (ckG vs l d c))->(∀ (d:Nat) (s:Hx.St) (c:CS),Sim vs s c->HV vs s->(s.code≠0\/d<=6)->Sim vs (r.sen d s) (ckG vs r d c)) ->
   ∀ (d:Nat) (s:Hx.St) (c:CS),Sim vs s c->HV vs s->(s.code≠0\/d<=6)->Sim vs (r.sen d (l.sen d s)) (ckG vs r d (ckG vs l d c)):=by
  intro l r h1 h2 d s c h hv hd;exact h2 d _ _ (h1 d s c h hv hd) (hv.of (sen_vars l d s)) (hd.imp (fun h0=>by rw [(sen_stuck l d s h0).1];exact h0) id)
 induction g with
 | or l r h1 h2=>exact two l r h1 h2
 | and l r h1 h2=>exact two l r h1 h2
 | not g ih=>exact ih
 | group t g ih =>
  intro d s c h hv hd
  have hs:=Sim.step (b:=((d:Int) == 6)) (b':=decide (6<=d)) (code:=1) (line:=t.line) h (fun h0=>by
   have hd6:d<=6:=hd.elim (fun h=>absurd h0 h) id
   by_cases e:d=6
   ·subst e;rfl
   ·rw [beq_eq_false_iff_ne.2 (by omega),decide_eq_false (by omega)]) (by decide)
  refine ih (d+1) _ _ hs (hv.of (Hx.St.wrong_vars _ _ _ _)) ?_
  by_cases h0:s.code=0
  ·have hd6:d<=6:=hd.elim (fun h=>absurd h0 h) id
   by_cases e:d=6
   ·left;subst e;simp [Hx.St.wrong,h0]
   ·right;omega
  ·left;rw [wrong_stuck h0];exact h0
 | tru=>intro d s c h _ _;exact h
 | atom w n o i ok =>
  intro d s c h hv _;have:=atom_sim h hv ⟨w,n,o,i,ok⟩
  cases w <;> exact this
theorem when_sim {vs:List VarA} {s:Hx.St} {c:CS} (h:Sim vs s c) (t:Hx.Tok):Sim vs (s.addWhen t) ({ c with rows:=c.rows+1 }.ref (decide (24<c.rows+1)) 1 t.line):=by
 have hE:Eqf (s.wrong (s.rows == 24) 1 t.line) ({ c with rows:=c.rows+1 }.ref (decide (24<c.rows+1)) 1 t.line):=by
  refine Eqf.step (c:={ c with rows:=c.rows+1 }) h.eq (fun h0=>?_);have:=(h.live h0).few;rw [h.rows]
  by_cases e:s.rows=24
  ·rw [e];rfl
  ·rw [beq_eq_false_iff_ne.2 e,decide_eq_false (by omega)]
 refine ⟨hE,?_,?_,fun hz=>?_⟩
 ·show c.rows+1=(s.wrong (s.rows == 24) 1 t.line).rows+1
  rw [Hx.St.wrong_rows,h.rows]
 ·show ∃ L:List AQ,(s.wrong (s.rows == 24) 1 t.line).atoms=_/\_
  rw [Hx.St.wrong_atoms];exact h.rel
 ·obtain ⟨h0,hb⟩:=wrong_live (show (s.wrong (s.rows == 24) 1 t.line).code=0 from hz) (by decide)
  obtain ⟨a2,a3,a5⟩:=h.live h0;have hn:s.rows≠24:=beq_eq_false_iff_ne.1 hb;refine ⟨?_,a3,a5⟩;show (s.wrong (s.rows == 24) 1 t.line).rows+1<=24;rw [Hx.St.wrong_rows];omega
theorem row_vars (s:Hx.St) (q:Nat) (r:Hx.RowA):(s.row q r).vars=s.vars:=by
 simp [Hx.St.row,sen_vars,Hx.St.addWhen,Hx.St.wrong_vars]
theorem row_sim {vs:List VarA} {s:Hx.St} {c:CS} (h:Sim vs s c) (hv:HV vs s) (q:Nat) (r:Hx.RowA):Sim vs (s.row q r) (ckRow vs c r):=by
 have h1:=sen_sim r.g 0 _ _ (when_sim h r.wh) (hv.of (by simp [Hx.St.addWhen,Hx.St.wrong_vars])) (.inr (by omega));exact ⟨h1.eq,h1.rows,h1.rel,fun h0=>by obtain ⟨a2,a3,a5⟩:=h1.live h0;exact ⟨a2,a3,a5⟩⟩
theorem row_code {s:Hx.St} (h:s.code≠0) (q:Nat) (r:Hx.RowA):(s.row q r).code≠0:=by
 have h1:(s.addWhen r.wh).code=s.code:=by simp [Hx.St.addWhen,wrong_stuck h]
 have:=(sen_stuck r.g 0 (s.addWhen r.wh) (by rw [h1];exact h)).1;simp only [Hx.St.row,this,h1];exact h
theorem rows_sim {vs:List VarA} (q:Nat) (rs:List Hx.RowA):∀ (s:Hx.St) (c:CS),Sim vs s c->HV vs s->Sim vs (s.rowsS q rs) (rs.foldl (ckRow vs) c)/\HV vs (s.rowsS q rs)/\(s.code≠0->(s.rowsS q rs).code≠0):=by
 induction rs with
 | nil=>intro s c h hv;exact ⟨h,hv,id⟩
 | cons r rs ih =>
  intro s c h hv;obtain ⟨i1,i2,i3⟩:=ih (s.row q r) (ckRow vs c r) (row_sim h hv q r) (hv.of (row_vars s q r));exact ⟨i1,i2,fun h0=>i3 (row_code h0 q r)⟩
theorem modeP_any (gs:List MG) (n:ByteArray):(((gs.map (·.a.p)).map (·.name)).any fun a=>a.toList == n.toList)=gs.any (sameM n):=by
 rw [List.any_map,List.any_map];rfl
theorem modes_sim {vs:List VarA} {gs:List MG} (hl:Links gs) (l:List MG):∀ (pre:List MG) (s:Hx.St) (c:CS),gs=pre++l->Sim vs s c->HV vs s->s.modes=pre.map (·.a.p)->(s.code=0->pre.length<=12/\∀ g∈pre,g.a.depth<=5) ->
  Sim vs (s.modesS (l.map (·.a))) (ckModes vs gs pre.length l c):=by
 induction l with
 | nil=>intro pre s c _ h _ _ _;exact h
 | cons m r ih =>
  intro pre s c hg h hv hm hd;have hlen:s.modes.length=pre.length:=by rw [hm];simp
  have htake:gs.take pre.length=pre:=by rw [hg];simp
  have hgm:gs[pre.length]? = some m:=by rw [hg];simp
  have hk:=hl pre.length m.key (by rw [List.getElem?_map,hgm];rfl);have hd6:s.code=0->pre.length<=12/\m.a.depth<=6:=fun h0=>by
   obtain ⟨d1,d2⟩:=hd h0;refine ⟨d1,?_⟩
   cases hmd:m.a.depth with
   | zero=>omega
   | succ d =>
    obtain ⟨j,ko,j1,j2,j3⟩:=hk.deep d hmd;rw [List.getElem?_map] at j2;obtain ⟨g,g1,g2⟩:=Option.map_eq_some_iff.1 j2;rw [hg,List.getElem?_append_left j1] at g1;have:=d2 g (List.mem_of_getElem? g1);have e:g.a.depth=ko.depth:=by rw [<- g2];rfl
    omega
  have s1:=Sim.step (b:=(s.modes.length == 12 || ((m.a.depth:Nat):Int) == 6)) (b':=(decide (12<=pre.length) || decide (6<=m.a.depth))) (code:=1) (line:=m.a.name.line) h (fun h0=>by
   obtain ⟨d1,d2⟩:=hd6 h0;rw [hlen];have x1:(pre.length == 12)=decide (12<=pre.length):=by
    by_cases e:pre.length=12
    ·rw [e];rfl
    ·rw [beq_eq_false_iff_ne.2 e,decide_eq_false (by omega)]
   have x2:(((m.a.depth:Nat):Int) == 6)=decide (6<=m.a.depth):=by
    by_cases e:m.a.depth=6
    ·rw [e];rfl
    ·rw [beq_eq_false_iff_ne.2 (by omega),decide_eq_false (by omega)]
   rw [x1,x2]) (by decide)
  have s2:=Sim.step (b:=s.hasMode m.a.name.s) (b':=(gs.take pre.length).any (sameM m.a.name.s)) (code:=3) (line:=m.a.name.line) s1 (fun _=>by
   rw [htake,Hx.St.hasMode,hm];exact modeP_any pre _) (by decide)
  have s3:Sim vs (s.addMode m.a.name m.a.outer m.a.depth m.a.dflt) ((c.ref (decide (12<=pre.length) || decide (6<=m.a.depth)) 1 m.a.name.line).ref ((gs.take pre.length).any (sameM m.a.name.s)) 3 m.a.name.line) :=
   ⟨s2.eq,s2.rows,s2.rel,fun h0=>by obtain ⟨a2,a3,a5⟩:=s2.live h0;exact ⟨a2,a3,a5⟩⟩
  have hv3:HV vs (s.addMode m.a.name m.a.outer m.a.depth m.a.dflt):=hv.of (by simp [Hx.St.addMode,Hx.St.wrong_vars]);obtain ⟨r1,r2,r3⟩:=rows_sim s.modes.length m.a.rows _ _ s3 hv3;have hmm:=Hx.mode_modes s m.a
  have:=ih (pre++[m]) (s.mode m.a) (ckMode vs gs pre.length m c) (by rw [hg];simp) r1 r2 (by rw [hmm,hm];simp) (fun h0=>by
   have hz:(s.addMode m.a.name m.a.outer m.a.depth m.a.dflt).code=0:=by
    by_cases e:(s.addMode m.a.name m.a.outer m.a.depth m.a.dflt).code=0
    ·exact e
    ·exact absurd h0 (r3 e)
   obtain ⟨z1,_⟩:=wrong_live (show ((s.wrong (s.modes.length == 12 || ((m.a.depth:Nat):Int) == 6) 1 m.a.name.line).wrong (s.hasMode m.a.name.s) 3 m.a.name.line).code=0 from hz) (by decide);obtain ⟨z2,y2⟩:=wrong_live z1 (by decide);obtain ⟨d1,d2⟩:=hd z2;have d6:=(hd6 z2).2;rw [Bool.or_eq_false_iff] at y2;have n1:s.modes.length≠12:=beq_eq_false_iff_ne.1 y2.1;have n2:((m.a.depth:Nat):Int)≠6:=beq_eq_false_iff_ne.1 y2.2;refine ⟨by simp;omega,fun g hgm=>?_⟩;rcases List.mem_append.1 hgm with h | h
   ·exact d2 g h
   ·rw [List.mem_singleton] at h;subst h;omega)
  rw [List.length_append] at this;exact this
def VarA.p (v:VarA):Hx.VarP:=⟨v.name.s,v.first.n,v.last.n⟩
theorem varP_any (vs:List VarA) (n:ByteArray):(((vs.map VarA.p).map (·.name)).any fun a=>a.toList == n.toList)=vs.any (sameV n):=by
 rw [List.any_map,List.any_map];rfl
theorem ref_or (c:CS) (a b:Bool) (code line:Int) (h:code≠0):(c.ref a code line).ref b code line=c.ref (a || b) code line:=by
 cases a with
 | false=>rfl
 | true =>
  by_cases h0:c.cl.1=0
  ·have:(c.ref true code line).cl.1≠0:=by simp [CS.ref,refuseP,h0,h]
   rw [ref_stuck this];rfl
  ·have:(c.ref true code line).cl.1≠0:=by rw [ref_stuck h0];exact h0
   rw [ref_stuck this];rfl
theorem vars_sim {vs:List VarA} (l:List VarA):∀ (pre:List VarA) (s:Hx.St) (c:CS),vs=pre++l->Sim vs s c->s.vars=pre.map VarA.p->(s.code=0->pre.length<=3) ->
  Sim vs (varsS s l) (ckVars vs pre.length l c)/\(varsS s l).vars=vs.map VarA.p:=by
 induction l with
 | nil=>intro pre s c hg h hm _;refine ⟨h,?_⟩;rw [hg,List.append_nil];exact hm
 | cons v r ih =>
  intro pre s c hg h hm hd;have hlen:s.vars.length=pre.length:=by rw [hm];simp
  have htake:vs.take pre.length=pre:=by rw [hg];simp
  have s1:=Sim.step (b:=(s.vars.length == 3)) (b':=decide (3<=pre.length)) (code:=1) (line:=v.name.line) h (fun h0=>by
   have d1:=hd h0;rw [hlen]
   by_cases e:pre.length=3
   ·rw [e];rfl
   ·rw [beq_eq_false_iff_ne.2 e,decide_eq_false (by omega)]) (by decide)
  have s2:=Sim.step (b:=s.hasVar v.name.s) (b':=(vs.take pre.length).any (sameV v.name.s)) (code:=3) (line:=v.name.line) s1 (fun _=>by
   rw [htake,Hx.St.hasVar,hm];exact varP_any pre _) (by decide)
  have s3:=Sim.step (b:=Hx.badInt v.first.n (-1000)) (b':=badB v.first.n) (code:=4) (line:=v.first.line) s2 (fun _=>bad_same _) (by decide);have s4:=Sim.step (b:=Hx.badInt v.last.n v.first.n) (b':=(badB v.last.n || decide (v.last.n<v.first.n))) (code:=4) (line:=v.last.line) s3 (fun _=>rfl) (by decide);have e5:ckVar vs pre.length v c=((((c.ref (decide (3<=pre.length)) 1 v.name.line).ref ((vs.take pre.length).any (sameV v.name.s)) 3 v.name.line).ref (badB v.first.n) 4 v.first.line).ref (badB v.last.n || decide (v.last.n<v.first.n)) 4 v.last.line):=by
   simp only [ckVar];rw [ref_or _ _ _ _ _ (by decide)]
  have s5:Sim vs (s.addVar v.name v.first v.last) (ckVar vs pre.length v c):=by
   rw [e5];exact ⟨s4.eq,s4.rows,s4.rel,fun h0=>by obtain ⟨a2,a3,a5⟩:=s4.live h0;exact ⟨a2,a3,a5⟩⟩
  have:=ih (pre++[v]) (s.addVar v.name v.first v.last) (ckVar vs pre.length v c) (by rw [hg];simp) s5 (by simp [Hx.St.addVar,Hx.St.number_vars,Hx.St.wrong_vars,hm,VarA.p]) (fun h0=>by
   obtain ⟨z1,_⟩:=wrong_live (show ((((s.wrong (s.vars.length == 3) 1 v.name.line).wrong (s.hasVar v.name.s) 3 v.name.line).wrong (Hx.badInt v.first.n (-1000)) 4 v.first.line).wrong (Hx.badInt v.last.n v.first.n) 4 v.last.line).code=0 from h0) (by decide);obtain ⟨z2,_⟩:=wrong_live z1 (by decide);obtain ⟨z3,_⟩:=wrong_live z2 (by decide);obtain ⟨z4,y4⟩:=wrong_live z3 (by decide);have n1:s.vars.length≠3:=beq_eq_false_iff_ne.1 y4;have:=hd z4
   simp;omega)
  rw [List.length_append] at this;exact this
theorem linkRow_eq {gs:List MG} {s0:Hx.St} (h0:s0.modes=gs.map (·.a.p)) (r:Hx.RowA):(!(r.p.to.toList == []) && !(s0.hasMode r.p.to))=destBad gs r:=by
 cases hd:r.dest with
 | none =>
  have he:(⟨#[]⟩ : ByteArray).toList=[]:=by rw [Lib.toList_data]
  simp only [destBad,Hx.RowA.p,hd,he];rfl
 | some a =>
  have hne:=r.ok a hd;simp only [destBad,Hx.RowA.p,hd];rw [beq_eq_false_iff_ne.2 hne,Hx.St.hasMode,h0,modeP_any];rfl
theorem linkRow_line (r:Hx.RowA):((r.p.line:Nat):Int)=destLine r:=by
 cases hd:r.dest with
 | none=>simp only [destLine,Hx.RowA.p,hd];rfl
 | some a=>simp only [destLine,Hx.RowA.p,hd]
theorem linkRows_sim {gs:List MG} {s0:Hx.St} (h0:s0.modes=gs.map (·.a.p)) (rs:List Hx.RowA):∀ (s:Hx.St) (c:CS),Eqf s c ->
  Eqf ((rs.map Hx.RowA.p).foldl (fun s r=>s.wrong (!(r.to.toList == []) && !(s0.hasMode r.to)) 3 r.line) s) (rs.foldl (fun s r=>s.ref (destBad gs r) 3 (destLine r)) c):=by
 induction rs with
 | nil=>intro s c h;exact h
 | cons r rs ih =>
  intro s c h;simp only [List.map_cons,List.foldl_cons];refine ih _ _ ?_;rw [linkRow_eq h0,<- linkRow_line];exact Eqf.step h (fun _=>rfl)
theorem linkAll_sim {gs:List MG} {s0:Hx.St} (h0:s0.modes=gs.map (·.a.p)) (l:List MG):∀ (s:Hx.St) (c:CS),Eqf s c->Eqf ((l.map (·.a.p)).foldl (linkRows s0) s) (ckTargets gs l c):=by
 induction l with
 | nil=>intro s c h;exact h
 | cons m r ih =>
  intro s c h;exact ih _ _ (linkRows_sim h0 m.a.rows s c h)
theorem tree_sim {gs:List MG} {s0:Hx.St} (h0:s0.modes=gs.map (·.a.p)) (l:List MG):∀ (i:Nat) (s:Hx.St) (c:CS),Eqf s c->Eqf (linkTs s0 i (l.map (·.a.p)) s) (ckTree gs i l c):=by
 induction l with
 | nil=>intro i s c h;exact h
 | cons m r ih =>
  intro i s c h;refine ih (i+1) _ _ ?_;have e1:(s0.modes.filter fun k=>decide (k.outer=(i:Int)))=(inner gs i).map (·.a.p):=by
   rw [h0,List.filter_map];rfl
  have e2:(((s0.modes.filter fun k=>decide (k.outer=(i:Int))).filter fun k=>k.dflt).length)=dears gs i:=by
   rw [e1,List.filter_map,List.length_map];rfl
  simp only [linkT];rw [e2,e1,List.length_map];exact Eqf.step h (fun _=>rfl)
theorem gF_len (f:Nat):∀ prev l d s s2 l2,Hx.gF f prev l d s=some (s2,l2)->s2.atoms.length+l2.length<=s.atoms.length+l.length/\s2.rows=s.rows/\l2.length<=l.length:=by
 induction f with
 | zero=>intro prev l d s s2 l2 h;simp [Hx.gF] at h
 | succ f ih =>
  intro prev l d s s2 l2 h
  cases l with
  | nil=>simp [Hx.gF] at h
  | cons t r =>
   simp only [Hx.gF] at h;split at h
   ·have:=ih _ _ _ _ _ _ h;rw [Hx.St.wrong_atoms,Hx.St.wrong_rows] at this;simp only [List.length_cons];omega
   ·split at h
    ·have:=ih _ _ _ _ _ _ h;simp only [List.length_cons];omega
    ·split at h
     ·split at h
      ·rename_i a b r'
       have h1:=ih _ _ _ _ _ _ h;rw [Hx.St.atom_rows] at h1;have h2:=Hx.St.atom_len s (if Hx.isW prev Hx.ywas then [prev,t,a,b] else [t,a,b]) t b;simp only [List.length_cons];omega
      ·cases h
     ·split at h
      ·have:=ih _ _ _ _ _ _ h;simp only [List.length_cons];omega
      ·simp only [Option.some.injEq,Prod.mk.injEq] at h;obtain ⟨rfl,rfl⟩:=h;omega
theorem senF_len (f:Nat):∀ l inn d dear s S,Hx.senF f l inn d dear s=some S->S.atoms.length<=s.atoms.length+l.length/\S.rows<=s.rows+l.length:=by
 induction f with
 | zero=>intro l inn d dear s S h;simp [Hx.senF] at h
 | succ f ih =>
  intro l inn d dear s S h
  cases l with
  | nil=>simp [Hx.senF] at h
  | cons t r =>
   by_cases h1:t.k=101
   ·have:=Hx.sen_end h h1;subst this;simp only [List.length_cons];omega
   ·cases e1:(t.s.toList == Hx.yvar) with
    | true =>
     obtain ⟨a,b,c,d',e,r',rfl,h2⟩:=Hx.sen_var h h1 e1;have:=ih _ _ _ _ _ _ h2;simp only [Hx.St.addVar,Hx.St.number_atoms,Hx.St.number_rows,Hx.St.wrong_atoms,Hx.St.wrong_rows] at this;simp only [List.length_cons];omega
    | false =>
     cases e2:(t.s.toList == Hx.ydefault) with
     | true=>have:=ih _ _ _ _ _ _ (Hx.sen_default h h1 e1 e2);simp only [List.length_cons];omega
     | false =>
      cases e3:(t.s.toList == Hx.ymode) with
      | true =>
       obtain ⟨a,b,r',rfl,h2⟩:=Hx.sen_mode h h1 e1 e2 e3;have:=ih _ _ _ _ _ _ h2;simp only [Hx.St.addMode,Hx.St.wrong_atoms,Hx.St.wrong_rows] at this;simp only [List.length_cons];omega
      | false =>
       cases e4:(t.s.toList == Hx.ywhen) with
       | true =>
        obtain ⟨_,_,s2,d',a,r',hg,h2⟩:=Hx.sen_when h h1 e1 e2 e3 e4;have h3:=gF_len _ _ _ _ _ _ _ hg;simp only [Hx.St.addWhen,Hx.St.wrong_atoms,Hx.St.wrong_rows,List.length_cons] at h3;rcases h2 with ⟨_,b,r'',rfl,h2⟩ | ⟨_,h2⟩
        ·have:=ih _ _ _ _ _ _ h2;simp only [List.length_cons] at *;omega
        ·have:=ih _ _ _ _ _ _ h2;simp only [List.length_cons] at *;omega
       | false =>
        obtain ⟨_,_,h2⟩:=Hx.sen_shut h h1 e1 e2 e3 e4;have:=ih _ _ _ _ _ _ h2;simp only [List.length_cons];omega
theorem check_same (vs:List VarA) (gs:List MG) (hl:Links gs):Eqf (linkS ((varsS Hx.St.zero vs).modesS (gs.map (·.a)))) (ckAll vs gs) /\
  (ckModes vs gs 0 gs (ckVars vs 0 vs ⟨0,[],(0,0)⟩)).atoms.length=((varsS Hx.St.zero vs).modesS (gs.map (·.a))).atoms.length/\(ckModes vs gs 0 gs (ckVars vs 0 vs ⟨0,[],(0,0)⟩)).rows=((varsS Hx.St.zero vs).modesS (gs.map (·.a))).rows:=by
 have z:Sim vs Hx.St.zero ⟨0,[],(0,0)⟩:=⟨⟨rfl,rfl⟩,rfl,⟨[],rfl,rfl⟩,fun _=>⟨by decide,by simp,by simp⟩⟩;obtain ⟨v1,v2⟩:=vars_sim (vs:=vs) vs [] Hx.St.zero _ rfl z rfl (fun _=>by simp);have hv:HV vs (varsS Hx.St.zero vs):=fun n=>by rw [Hx.St.hasVar,v2];exact varP_any vs n
 have hvm:∀ (l:List VarA) (s:Hx.St),(varsS s l).modes=s.modes:=by
  intro l
  induction l with
  | nil=>intro s;rfl
  | cons v r ih=>intro s;simp only [varsS,List.foldl_cons] at ih |-;rw [ih];simp [Hx.St.addVar,Hx.St.number_modes,Hx.St.wrong_modes]
 have m1:=modes_sim hl gs [] (varsS Hx.St.zero vs) _ rfl v1 hv (hvm vs _) (fun _=>by simp);have hm:((varsS Hx.St.zero vs).modesS (gs.map (·.a))).modes=gs.map (·.a.p):=by rw [Hx.modes_modes,hvm];simp [Hx.St.zero]
 refine ⟨?_,?_,m1.rows⟩
 ·have h1:=linkAll_sim hm gs _ _ m1.eq
  have h2:=tree_sim hm gs 0 _ _ h1;unfold linkS ckAll;rw [hm];exact h2
 ·obtain ⟨L,e1,e2⟩:=m1.rel
  have e2':(ckModes vs gs 0 gs (ckVars vs 0 vs ⟨0,[],(0,0)⟩)).atoms=L.map AQ.key:=e2;rw [e1,e2'];simp
end
end Go.Proofs.YtdjaiolfdbamcaaGreatDoor
