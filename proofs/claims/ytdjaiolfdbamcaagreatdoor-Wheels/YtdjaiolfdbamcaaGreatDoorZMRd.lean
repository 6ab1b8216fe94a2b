/- Images as they are read, programs that are right, and how they run, as plain functions; nothing of the program is asked here. -/
import Derived.Test.YtdjaiolfdbamcaaGreatDoorZBase
import Derived.Test.YtdjaiolfdbamcaaGreatDoorZCA
namespace Go.Proofs.YtdjaiolfdbamcaaGreatDoor
section
namespace Mx
def two (a b:UInt8):Nat:=a.toNat+256*b.toNat
def sgn (n:Nat):Int:=if n<32768 then (n:Int) else (n:Int)-65536
structure Shape where
 width:Nat
 takes:Nat
 puts:Nat
 ends:Bool
def shapeOf (b:UInt8):Option Shape :=
 if b=0 then some ⟨0,0,0,true⟩ else if b=1 then some ⟨1,0,0,true⟩ else if b=2 then some ⟨2,1,0,false⟩ else if b=3\/b=4 then some ⟨0,2,1,false⟩
 else if b=5 then some ⟨0,1,1,false⟩ else if b=6 then some ⟨0,0,1,false⟩ else if b=7\/b=8 then some ⟨3,0,1,false⟩ else none
def named (p:List UInt8) (leaves numbers at_:Nat):Bool :=
 if p.getD at_ 0=1 then decide ((p.getD (at_+1) 0).toNat<leaves) else if p.getD at_ 0=7\/p.getD at_ 0=8 then decide ((p.getD (at_+1) 0).toNat<numbers) else true
abbrev Aw:=List (Nat×Nat)
def Aw.get (a:Aw) (k:Nat):Option Nat:=List.lookup k a
def Aw.del (a:Aw) (k:Nat):Aw:=a.filter fun q=>q.1 != k
def Aw.set (a:Aw) (k v:Nat):Aw:=(k,v)::a.del k
theorem Aw.get_del (a:Aw) (k j:Nat):(a.del k).get j=if j=k then none else a.get j:=by
 unfold Aw.get Aw.del
 induction a with
 | nil=>simp
 | cons q r ih =>
  obtain ⟨x,y⟩:=q
  by_cases hx:x=k
  ·rw [List.filter_cons_of_neg (by simp [hx]),ih]
   by_cases hj:j=k
   ·simp [hj]
   ·simp only [hj,if_false,List.lookup_cons]
    rw [beq_eq_false_iff_ne.2 (by omega)]
  ·rw [List.filter_cons_of_pos (by simp [hx])]
   simp only [List.lookup_cons]
   by_cases hj:j=x
   ·subst hj;simp [hx]
   ·rw [beq_eq_false_iff_ne.2 hj];exact ih
theorem Aw.get_set (a:Aw) (k v j:Nat):(a.set k v).get j=if j=k then some v else a.get j:=by
 have h:=Aw.get_del a k j;unfold Aw.set;unfold Aw.get at h |-;rw [List.lookup_cons]
 by_cases hj:j=k
 ·subst hj;simp
 ·rw [beq_eq_false_iff_ne.2 hj];simpa [hj] using h
def come (a:Aw) (k c:Nat):Option Aw:=if 32<c then none else match a.get k with
 | some d=>if d=c then some (a.set k c) else none
 | none=>some (a.set k c)
def goOver (p:List UInt8) (leaves numbers at_:Nat) (a:Aw):Option (Nat×Aw):=match shapeOf (p.getD at_ 0),a.get at_ with
 | some s,some c =>
  if p.length<at_+1+s.width\/c<s.takes\/named p leaves numbers at_=false then none
  else if s.ends=true then some (at_+1+s.width,a.del at_)
  else (match (if p.getD at_ 0=2 then come (a.del at_) (at_+1+s.width+two (p.getD (at_+1) 0) (p.getD (at_+2) 0)) (c-s.takes+s.puts) else some (a.del at_)) with
   | some a2=>(come a2 (at_+1+s.width) (c-s.takes+s.puts)).map fun a3=>(at_+1+s.width,a3)
   | none=>none)
 | _,_=>none
def rightF (p:List UInt8) (leaves numbers:Nat):Nat->Nat->Aw->Bool
 | 0,_,_=>false
 | f+1,at_,a=>if at_<p.length then (match goOver p leaves numbers at_ a with | some (b,a2)=>rightF p leaves numbers f b a2 | none=>false) else a.isEmpty
def isRight (p:List UInt8) (leaves numbers:Nat):Bool:=rightF p leaves numbers (p.length+1) 0 [(0,0)]
inductive Safe (p:List UInt8) (leaves numbers:Nat):Nat->Nat->Prop
 | ends {k c:Nat} {s:Shape} (hk:k<p.length) (hs:shapeOf (p.getD k 0)=some s) (hl:k+1+s.width<=p.length) (hn:named p leaves numbers k=true) (he:s.ends=true):Safe p leaves numbers k c
 | goes {k c:Nat} {s:Shape} (hk:k<p.length) (hs:shapeOf (p.getD k 0)=some s) (hl:k+1+s.width<=p.length) (hc:s.takes<=c) (hn:named p leaves numbers k=true) (he:s.ends=false) (h32:c-s.takes+s.puts<=32) (h2:p.getD k 0=2->Safe p leaves numbers (k+1+s.width+two (p.getD (k+1) 0) (p.getD (k+2) 0)) (c-s.takes+s.puts))
   (h:Safe p leaves numbers (k+1+s.width) (c-s.takes+s.puts)):Safe p leaves numbers k c
theorem come_some {a a2:Aw} {k c:Nat} (h:come a k c=some a2):c<=32/\a2=a.set k c/\∀ d,a.get k=some d->d=c:=by
 unfold come at h;split at h
 ·cases h
 ·rename_i h32
  split at h
  ·rename_i d hd
   split at h
   ·rename_i e
    cases h
    exact ⟨by omega,rfl,fun x hx=>by rw [hd] at hx;cases hx;exact e⟩
   ·cases h
  ·rename_i hn
   cases h
   exact ⟨by omega,rfl,fun x hx=>by rw [hn] at hx;cases hx⟩
theorem come_get {a a2:Aw} {k c:Nat} (h:come a k c=some a2):a2.get k=some c/\∀ j d,a.get j=some d->a2.get j=some d:=by
 obtain ⟨_,rfl,hd⟩:=come_some h;refine ⟨by rw [Aw.get_set,if_pos rfl],fun j d hj=>?_⟩;rw [Aw.get_set];split
 ·rename_i e;subst e;rw [hd d hj]
 ·exact hj
theorem rightF_safe (p:List UInt8) (leaves numbers:Nat):∀ f k (a:Aw),rightF p leaves numbers f k a=true->∀ j d,a.get j=some d->Safe p leaves numbers j d:=by
 intro f
 induction f with
 | zero=>intro k a h;cases h
 | succ f ih =>
  intro k a h;simp only [rightF] at h;split at h
  ·rename_i hk
   split at h
   ·rename_i b a3 hg
    have IH:=ih b a3 h;unfold goOver at hg;split at hg
    ·rename_i s c hs hc
     split at hg
     ·cases hg
     ·rename_i hno
      have hno1:k+1+s.width<=p.length:=by omega
      have hno2:s.takes<=c:=by omega
      have hno3:named p leaves numbers k=true:=by
       cases hx:named p leaves numbers k with
       | true=>rfl
       | false=>exact (hno (.inr (.inr hx))).elim
      split at hg
      ·rename_i he
       cases hg
       intro j d hj
       by_cases e:j=k
       ·subst e
        exact .ends hk hs hno1 hno3 he
       ·exact IH j d (by rw [Aw.get_del,if_neg e];exact hj)
      ·rename_i he
       split at hg
       ·rename_i a2 ha2
        rw [Option.map_eq_some_iff] at hg;obtain ⟨a4,h4,e4⟩:=hg
        cases e4
        obtain ⟨g1,g2⟩:=come_get h4;obtain ⟨h32,_,_⟩:=come_some h4;have hkeep:∀ j d,(a.del k).get j=some d->a2.get j=some d:=by
         intro j d hj;split at ha2
         ·exact (come_get ha2).2 j d hj
         ·cases ha2;exact hj
        intro j d hj
        by_cases e:j=k
        ·subst e
         obtain rfl:c=d:=by rw [hc] at hj;cases hj;rfl
         refine .goes hk hs hno1 hno2 hno3 (by simpa using he) h32 (fun e2=>?_) (IH _ _ g1);rw [if_pos e2] at ha2;exact IH _ _ (g2 _ _ (come_get ha2).1)
        ·exact IH j d (g2 _ _ (hkeep _ _ (by rw [Aw.get_del,if_neg e];exact hj)))
       ·cases hg
    ·cases hg
   ·cases h
  ·intro j d hj
   have:a=[]:=by simpa using h
   subst this;simp [Aw.get] at hj
theorem right_safe {p:List UInt8} {leaves numbers:Nat} (h:isRight p leaves numbers=true):Safe p leaves numbers 0 0:=rightF_safe _ _ _ _ _ _ h 0 0 rfl
theorem goOver_gt {p:List UInt8} {leaves numbers k b:Nat} {a a2:Aw} (h:goOver p leaves numbers k a=some (b,a2)):k<b/\b<=p.length:=by
 unfold goOver at h;split at h
 ·split at h
  ·cases h
  ·rename_i hno
   split at h
   ·cases h;omega
   ·split at h
    ·rw [Option.map_eq_some_iff] at h
     obtain ⟨_,_,e⟩:=h
     cases e;omega
    ·cases h
 ·cases h
def step (p:List UInt8) (xs:List Int) (k:Nat) (st:List Bool) (leaf:Nat):Nat×List Bool×Nat×Bool :=
 let b:=p.getD k 0
 if b=0 then (k+1,st,leaf,true)
 else if b=1 then (k+2,st,(p.getD (k+1) 0).toNat,true)
 else if b=2 then (if st.headD false then k+3 else k+3+two (p.getD (k+1) 0) (p.getD (k+2) 0),st.drop 1,leaf,false)
 else if b=3 then (k+1,((st.drop 1).headD false && st.headD false)::st.drop 2,leaf,false)
 else if b=4 then (k+1,((st.drop 1).headD false || st.headD false)::st.drop 2,leaf,false)
 else if b=5 then (k+1,(!st.headD false)::st.drop 1,leaf,false)
 else if b=6 then (k+1,true::st,leaf,false)
 else if b=7 then (k+4,decide (xs.getD (p.getD (k+1) 0).toNat 0<sgn (two (p.getD (k+2) 0) (p.getD (k+3) 0)))::st,leaf,false)
 else (k+4,(xs.getD (p.getD (k+1) 0).toNat 0 == sgn (two (p.getD (k+2) 0) (p.getD (k+3) 0)))::st,leaf,false)
def runF (p:List UInt8) (xs:List Int):Nat->Nat->List Bool->Nat->Nat
 | 0,_,_,leaf=>leaf
 | f+1,k,st,leaf=>let q:=step p xs k st leaf;if q.2.2.2 then q.2.2.1 else runF p xs f q.1 q.2.1 q.2.2.1
def run (p:List UInt8) (xs:List Int) (leaf:Nat):Nat:=runF p xs p.length 0 [] leaf
theorem safe_step {p:List UInt8} {leaves numbers k:Nat} {st:List Bool} {leaf:Nat} {xs:List Int} (h:Safe p leaves numbers k st.length) (hl:leaf<leaves) :
  let q:=step p xs k st leaf
  q.2.2.1<leaves/\k<q.1/\(q.2.2.2=false->Safe p leaves numbers q.1 q.2.1.length):=by
 simp only;have hsh:∀ s,shapeOf (p.getD k 0)=some s->p.getD k 0=0\/p.getD k 0=1\/p.getD k 0=2\/p.getD k 0=3\/p.getD k 0=4\/p.getD k 0=5\/p.getD k 0=6\/p.getD k 0=7\/p.getD k 0=8:=by
  intro s hs;unfold shapeOf at hs;generalize p.getD k 0=b at *
  by_cases h0:b=0
  ·simp [h0]
  by_cases h1:b=1
  ·simp [h1]
  by_cases h2:b=2
  ·simp [h2]
  by_cases h3:b=3\/b=4
  ·rcases h3 with h3 | h3 <;> simp [h3]
  by_cases h5:b=5
  ·simp [h5]
  by_cases h6:b=6
  ·simp [h6]
  by_cases h7:b=7\/b=8
  ·rcases h7 with h7 | h7 <;> simp [h7]
  rw [if_neg h0,if_neg h1,if_neg h2,if_neg h3,if_neg h5,if_neg h6,if_neg h7] at hs
  cases hs
 cases h with
 | ends hk hs hw hn he =>
  rcases hsh _ hs with e | e | e | e | e | e | e | e | e <;> unfold step <;> simp only [e] <;> unfold shapeOf at hs <;> simp only [e] at hs <;> simp at hs <;> subst hs <;> simp at he
  ·simp;exact hl
  ·simp;unfold named at hn;rw [if_pos e] at hn;simpa using hn
 | goes hk hs hw hc hn he h32 h2 h =>
  rcases hsh _ hs with e | e | e | e | e | e | e | e | e <;> unfold step <;> simp only [e] <;> unfold shapeOf at hs <;> simp only [e] at hs <;> simp at hs <;> subst hs <;> simp at he hc h h2 |-
  ·refine ⟨hl,?_,?_⟩
   ·split <;> omega
   ·have h2:=h2 e
    split
    ·exact h
    ·rw [Nat.add_assoc k 1 2] at h2;exact h2
  ·refine ⟨hl,?_⟩
   rw [show st.length-2+1=st.length-2+1 from rfl];exact h
  ·exact ⟨hl,h⟩
  ·exact ⟨hl,h⟩
  ·exact ⟨hl,h⟩
  ·exact ⟨hl,h⟩
  ·exact ⟨hl,h⟩
end Mx
end
section
namespace Mx
structure Rd where
 rest:List UInt8
 wrong:Bool
def Rd.take (r:Rd) (n:Nat):List UInt8×Rd:=if r.rest.length<n then ([],⟨r.rest,true⟩) else (r.rest.take n,⟨r.rest.drop n,r.wrong⟩)
def Rd.one (r:Rd):Nat×Rd:=(((r.take 1).1.headD 0).toNat,(r.take 1).2)
def Rd.two (r:Rd):Nat×Rd:=(Mx.two ((r.take 2).1.getD 0 0) ((r.take 2).1.getD 1 0),(r.take 2).2)
def Rd.count (r:Rd) (most:Nat):Nat×Rd:=if most<r.one.1 then (0,⟨r.one.2.rest,true⟩) else r.one
def Rd.var (r:Rd):(Int×Int)×Rd:=((sgn r.two.1,sgn r.two.2.two.1),r.two.2.two.2)
def Rd.leaf (r:Rd):(List UInt8×List UInt8)×Rd :=
 let a:=r.count 8
 let b:=a.2.take a.1
 let c:=b.2.two
 let d:=c.2.take c.1
 ((b.1,d.1),d.2)
def many {α : Type} (f:Rd -> α × Rd):Nat->Rd->List α × Rd
 | 0,r=>([],r)
 | n+1,r=>((f r).1::(many f n (f r).2).1,(many f n (f r).2).2)
theorem many_len {α : Type} (f:Rd -> α × Rd) (n:Nat):∀ r,(many f n r).1.length=n:=by
 induction n with
 | zero=>intro _;rfl
 | succ n ih=>intro r;simp [many,ih]
theorem many_snoc {α : Type} (f:Rd -> α × Rd) (n:Nat):∀ r,many f (n+1) r=((many f n r).1++[(f (many f n r).2).1],(f (many f n r).2).2):=by
 induction n with
 | zero=>intro _;rfl
 | succ n ih=>intro r;rw [many,ih];simp [many]
structure Img where
 vars:List (Int×Int)
 leaves:List (List UInt8×List UInt8)
 first:Nat
def hd:List UInt8:=[72,69,76,77,49]
def Rd.afterHead (r:Rd):Rd:=⟨(r.take 5).2.rest,(r.take 5).1 != hd⟩
def Rd.mark (r:Rd) (b:Bool):Rd:=⟨r.rest,r.wrong || b⟩
def Rd.vs (r:Rd):List (Int×Int)×Rd:=many Rd.var (r.afterHead.count 3).1 (r.afterHead.count 3).2
def Rd.nl (r:Rd):Nat×Rd:=r.vs.2.count 12
def Rd.fst (r:Rd):Nat×Rd:=r.nl.2.one
def Rd.ls (r:Rd):List (List UInt8×List UInt8)×Rd:=many Rd.leaf r.nl.1 (r.fst.2.mark (decide (r.nl.1<=r.fst.1)))
def Rd.image (r:Rd):Img×Rd:=(⟨r.vs.1,r.ls.1,r.fst.1⟩,r.ls.2)
theorem take_len (r:Rd) (n:Nat):(r.take n).1.length<=n/\(r.take n).1.length+(r.take n).2.rest.length=r.rest.length:=by
 unfold Rd.take;split
 ·simp
 ·rename_i h;simp;omega
theorem take_wrong (r:Rd) (n:Nat) (h:r.wrong=true):(r.take n).2.wrong=true:=by
 unfold Rd.take;split <;> simp [h]
theorem one_wrong (r:Rd) (h:r.wrong=true):r.one.2.wrong=true:=take_wrong r 1 h
theorem two_wrong (r:Rd) (h:r.wrong=true):r.two.2.wrong=true:=take_wrong r 2 h
theorem count_wrong (r:Rd) (m:Nat) (h:r.wrong=true):(r.count m).2.wrong=true:=by
 unfold Rd.count;split
 ·rfl
 ·exact one_wrong r h
theorem leaf_wrong (r:Rd) (h:r.wrong=true):r.leaf.2.wrong=true:=by
 simp only [Rd.leaf];exact take_wrong _ _ (two_wrong _ (take_wrong _ _ (count_wrong _ _ h)))
theorem many_wrong {α : Type} (f:Rd -> α × Rd) (hf:∀ r,r.wrong=true->(f r).2.wrong=true) (n:Nat):∀ r,r.wrong=true->(many f n r).2.wrong=true:=by
 induction n with
 | zero=>intro r h;exact h
 | succ n ih=>intro r h;simp only [many];exact ih _ (hf r h)
theorem count_le (r:Rd) (m:Nat):(r.count m).1<=m:=by
 unfold Rd.count;split
 ·exact Nat.zero_le _
 ·rename_i h;omega
theorem leaf_name (r:Rd):r.leaf.1.1.length<=8:=by
 simp only [Rd.leaf];exact Nat.le_trans (take_len _ _).1 (count_le r 8)
theorem u8_lt (b:UInt8):b.toNat<256:=b.toNat_lt
theorem two_lt (a b:UInt8):two a b<65536:=by
 have:=u8_lt a;have:=u8_lt b;unfold two;omega
def Short (l:List UInt8×List UInt8):Prop:=l.2.length<65536
theorem leaf_prog (r:Rd):Short r.leaf.1:=by
 unfold Short;simp only [Rd.leaf];exact Nat.lt_of_le_of_lt (take_len _ _).1 (two_lt _ _)
theorem many_all {α : Type} (f:Rd -> α × Rd) (P : α -> Prop) (hf:∀ r,P (f r).1) (n:Nat):∀ r,∀ x∈(many f n r).1,P x:=by
 induction n with
 | zero=>intro r x hx;cases hx
 | succ n ih =>
  intro r x hx;simp only [many,List.mem_cons] at hx;rcases hx with rfl | hx
  ·exact hf r
  ·exact ih _ x hx
structure Img.Ok (im:Img):Prop where
 vars:im.vars.length<=3
 leaves:im.leaves.length<=12
 first:im.first<im.leaves.length
 names:∀ l∈im.leaves,l.1.length<=8
 progs:∀ l∈im.leaves,Short l
theorem leaf_both (r:Rd):r.leaf.1.1.length<=8/\Short r.leaf.1:=⟨leaf_name r,leaf_prog r⟩
theorem image_parts (v:List (Int×Int)) (c n:Nat) (r:Rd) (hv:v.length<=3) (hn:n<=12) (hw:(many Rd.leaf n (r.mark (decide (n<=c)))).2.wrong=false):(Img.mk v (many Rd.leaf n (r.mark (decide (n<=c)))).1 c).Ok:=by
 have h:=many_all Rd.leaf (fun l=>l.1.length<=8/\Short l) leaf_both n (r.mark (decide (n<=c)));have hl:=many_len Rd.leaf n (r.mark (decide (n<=c)));refine ⟨hv,by rw [hl];exact hn,?_,fun l hl=>(h l hl).1,fun l hl=>(h l hl).2⟩;rw [hl];rcases Nat.lt_or_ge c n with hc | hc
 ·exact hc
 ·rw [many_wrong _ leaf_wrong _ _ (by simp only [Rd.mark];rw [decide_eq_true hc];simp)] at hw
  cases hw
theorem vs_len (r:Rd):r.vs.1.length<=3:=by
 unfold Rd.vs;rw [many_len];exact count_le _ _
theorem nl_le (r:Rd):r.nl.1<=12:=count_le r.vs.2 12
theorem image_ok (r:Rd) (hw:r.image.2.wrong=false):r.image.1.Ok:=by
 unfold Rd.image Rd.ls at hw |-;dsimp only at hw |-;exact image_parts r.vs.1 r.fst.1 r.nl.1 r.fst.2 (vs_len r) (nl_le r) hw
end Mx
end
section
namespace Mx
theorem goOver_le {p:List UInt8} {leaves numbers k b:Nat} {a a2:Aw} (h:goOver p leaves numbers k a=some (b,a2)) (ha:∀ j d,a.get j=some d->d<=32):∀ j d,a2.get j=some d->d<=32:=by
 have hd:∀ j d,(a.del k).get j=some d->d<=32:=by
  intro j d hj;rw [Aw.get_del] at hj;split at hj
  ·cases hj
  ·exact ha j d hj
 have hc:∀ {x y:Aw} {q c:Nat},come x q c=some y->(∀ j d,x.get j=some d->d<=32)->∀ j d,y.get j=some d->d<=32:=by
  intro x y q c h hx j d hj;obtain ⟨h1,rfl,_⟩:=come_some h;rw [Aw.get_set] at hj;split at hj
  ·cases hj;exact h1
  ·exact hx j d hj
 unfold goOver at h;split at h
 ·split at h
  ·cases h
  ·split at h
   ·cases h;exact hd
   ·split at h
    ·rename_i a3 h3
     rw [Option.map_eq_some_iff] at h;obtain ⟨a4,h4,e⟩:=h
     cases e
     refine hc h4 ?_;split at h3
     ·exact hc h3 hd
     ·cases h3;exact hd
    ·cases h
 ·cases h
def isSample (vs:List (Int×Int)) (xs:List Int):Bool:=xs.length == vs.length && (vs.zip xs).all fun q=>decide (q.1.1<=q.2) && decide (q.2<=q.1.2)
structure Mst where
 at_:Nat
 ahead:Option (List Int)
def Img.leaf (im:Img) (k:Nat):List UInt8×List UInt8:=im.leaves.getD k ([],[])
def mstep (im:Img) (s:Mst) (xs:List Int):Option Mst :=
 if isSample im.vars xs then some ⟨run (im.leaf s.at_).2 (s.ahead.getD xs++xs) s.at_,some xs⟩ else none
theorem runF_lt {p:List UInt8} {leaves numbers:Nat} {xs:List Int}:∀ f k st leaf,Safe p leaves numbers k st.length->leaf<leaves->runF p xs f k st leaf<leaves:=by
 intro f
 induction f with
 | zero=>intro k st leaf _ h;exact h
 | succ f ih =>
  intro k st leaf hs hl;have h:=safe_step (xs:=xs) hs hl;simp only at h;simp only [runF];split
  ·exact h.1
  ·rename_i he
   exact ih _ _ _ (h.2.2 (by simpa using he)) h.1
theorem run_lt {p:List UInt8} {leaves numbers leaf:Nat} {xs:List Int} (hs:Safe p leaves numbers 0 0) (hl:leaf<leaves):run p xs leaf<leaves:=runF_lt _ _ _ _ hs hl
theorem safe_lt {p:List UInt8} {leaves numbers k c:Nat} (h:Safe p leaves numbers k c):k<p.length:=by
 cases h <;> assumption
structure Img.Good (im:Img):Prop where
 ok:im.Ok
 safe:∀ k,k<im.leaves.length->Safe (im.leaf k).2 im.leaves.length (2*im.vars.length) 0 0
theorem Img.leaf_at {im:Img} {k:Nat} (hk:k<im.leaves.length):im.leaf k=im.leaves[k]:=by
 unfold Img.leaf;rw [List.getD_eq_getElem?_getD,List.getElem?_eq_getElem hk];rfl
theorem Img.Good.name {im:Img} (h:im.Good) (k:Nat):(im.leaf k).1.length<=8:=by
 by_cases hk:k<im.leaves.length
 ·rw [Img.leaf_at hk];exact h.ok.names _ (List.getElem_mem hk)
 ·unfold Img.leaf
  rw [List.getD_eq_getElem?_getD,List.getElem?_eq_none (by omega)];simp
end Mx
end
section
namespace Mx
def decode (bs:List UInt8):Option Img :=
 if bs.length<4\/60000<bs.length\/Cx.sumCode (bs.take (bs.length-4))≠bs.drop (bs.length-4) then none
 else
  let q:=(Rd.mk (bs.take (bs.length-4)) false).image
  if q.2.wrong=true\/q.2.rest≠[] then none else some q.1
def load (bs:List UInt8):Option Img:=match decode bs with
 | some im=>if im.leaves.all (fun l=>isRight l.2 im.leaves.length (2*im.vars.length)) then some im else none
 | none=>none
theorem decode_ok {bs:List UInt8} {im:Img} (h:decode bs=some im):im.Ok:=by
 unfold decode at h;split at h
 ·cases h
 ·simp only at h
  split at h
  ·cases h
  ·rename_i hq
   cases h
   have hw:(Rd.mk (bs.take (bs.length-4)) false).image.2.wrong=false:=by
    cases hx:(Rd.mk (bs.take (bs.length-4)) false).image.2.wrong with
    | false=>rfl
    | true=>exact (hq (.inl hx)).elim
   exact image_ok _ hw
theorem load_ok {bs:List UInt8} {im:Img} (h:load bs=some im):im.Ok/\∀ l∈im.leaves,Safe l.2 im.leaves.length (2*im.vars.length) 0 0:=by
 unfold load at h;split at h
 ·rename_i im' hd
  split at h
  ·rename_i ha
   cases h
   exact ⟨decode_ok hd,fun l hl=>right_safe (List.all_eq_true.1 ha l hl)⟩
  ·cases h
 ·cases h
end Mx
end
end Go.Proofs.YtdjaiolfdbamcaaGreatDoor
