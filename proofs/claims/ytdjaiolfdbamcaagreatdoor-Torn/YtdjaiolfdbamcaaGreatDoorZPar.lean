/- The parser's grammar by what the stack of symbols answers; guards as trees and what they ask; nothing of the program is asked here. -/
import Derived.Test.YtdjaiolfdbamcaaGreatDoorZBase
import Derived.Test.YtdjaiolfdbamcaaGreatDoorZWJoin
import Derived.Test.YtdjaiolfdbamcaaGreatDoorZWScan7
namespace Go.Proofs.YtdjaiolfdbamcaaGreatDoor
section
namespace Hx
def Good (t:Tok):Prop:=t.k=101\/t.k=110\/t.k=105\/(t.k=119/\t.s.data.toList∈wWords)\/(t.k=115/\t.s.data.toList∈sgs)
def Txt (t:Tok):Prop:=(t.k=110->t.s.toList≠[])/\(t.k=105->t.s.toList=decI t.n /\ -9999<=t.n/\t.n<=9999)
structure TsOk (ts:List Tok):Prop where
 few:ts.length<=3001
 fin:∀ i (hi:i<ts.length),ts[i].k≠101->i+1<ts.length
 good:∀ t∈ts,Good t
 txt:∀ t∈ts,Txt t
theorem mark_word {t:Tok} (h:Good t) (m:List UInt8) (hm:m∈wWords):isMark t m=isW t m:=by
 unfold isMark isW;rw [Lib.toList_data];rcases h with h | h | h | ⟨h,hs⟩ | ⟨h,hs⟩
 ·rw [h];simp [kindA]
 ·rw [h];simp [kindA]
 ·rw [h];simp [kindA]
 ·rw [h];simp [kindA]
 ·rw [h]
  have:t.s.data.toList≠m:=fun e=>by
   rw [e] at hs;revert hs hm;have:∀ a∈wWords,a ∉ sgs:=by decide
   intro a b;exact this m a b
  simp [this]
theorem mark_sign {t:Tok} (h:Good t) (m:List UInt8) (hm:m∈sgs):isMark t m=isS t m:=by
 unfold isMark isS;rw [Lib.toList_data];rcases h with h | h | h | ⟨h,hs⟩ | ⟨h,hs⟩
 ·rw [h];simp [kindA]
 ·rw [h];simp [kindA]
 ·rw [h];simp [kindA]
 ·rw [h]
  have:t.s.data.toList≠m:=fun e=>by
   rw [e] at hs;revert hs hm;have:∀ a∈sgs,a ∉ wWords:=by decide
   intro a b;exact this m a b
  simp [this]
 ·rw [h];simp [kindA]
def Run (st:List (List UInt8)) (l:List Tok) (R:Nat):Prop:=∃ f,runF f st l=some R
def Ok (st:List (List UInt8)) (l l':List Tok):Prop:=∀ rest R,Run rest l' R->Run (st++rest) l R
def Bad (st:List (List UInt8)) (l:List Tok) (line:Nat):Prop:=∀ rest,Run (st++rest) l line
theorem Ok.nil (l:List Tok):Ok [] l l:=fun _ _ h=>h
theorem Ok.app {a b:List (List UInt8)} {l m n:List Tok} (h:Ok a l m) (k:Ok b m n):Ok (a++b) l n:=fun rest R h1=>by
 rw [List.append_assoc];exact h _ _ (k _ _ h1)
theorem Ok.cons {y:List UInt8} {b:List (List UInt8)} {l m n:List Tok} (h:Ok [y] l m) (k:Ok b m n):Ok (y::b) l n:=h.app k
theorem Ok.bad {a b:List (List UInt8)} {l m:List Tok} {line:Nat} (h:Ok a l m) (k:Bad b m line):Bad (a++b) l line:=fun rest=>by
 rw [List.append_assoc];exact h _ _ (k _)
theorem Ok.consBad {y:List UInt8} {b:List (List UInt8)} {l m:List Tok} {line:Nat} (h:Ok [y] l m) (k:Bad b m line):Bad (y::b) l line:=h.bad k
theorem Bad.app {a b:List (List UInt8)} {l:List Tok} {line:Nat} (h:Bad a l line):Bad (a++b) l line:=fun rest=>by
 rw [List.append_assoc];exact h _
theorem Bad.cons {y:List UInt8} {b:List (List UInt8)} {l:List Tok} {line:Nat} (h:Bad [y] l line):Bad (y::b) l line:=h.app
theorem Ok.becomes {y:List UInt8} {t:Tok} {r l':List Tok} {m:List (List UInt8)} (hm:becomesP y t=some m) (h:Ok m (t::r) l'):Ok [y] (t::r) l':=fun rest R hR=>by
 obtain ⟨f,hf⟩:=h rest R hR;exact ⟨f+1,by simp only [List.cons_append,List.nil_append,runF,hm];exact hf⟩
theorem Bad.becomes {y:List UInt8} {t:Tok} {r:List Tok} {m:List (List UInt8)} {line:Nat} (hm:becomesP y t=some m) (h:Bad m (t::r) line):Bad [y] (t::r) line:=fun rest=>by
 obtain ⟨f,hf⟩:=h rest;exact ⟨f+1,by simp only [List.cons_append,List.nil_append,runF,hm];exact hf⟩
theorem Ok.fits {y:List UInt8} {t:Tok} {r:List Tok} (hm:becomesP y t=none) (hf:fitsP y t=true):Ok [y] (t::r) r:=fun rest R hR=>by
 obtain ⟨f,h⟩:=hR;exact ⟨f+1,by simp only [List.cons_append,List.nil_append,runF,hm,hf,if_true];exact h⟩
theorem Bad.fits {y:List UInt8} {t:Tok} {r:List Tok} (hm:becomesP y t=none) (hf:fitsP y t=false):Bad [y] (t::r) t.line:=fun rest => 
 ⟨1,by simp only [List.cons_append,List.nil_append,runF,hm,hf];rfl⟩
structure AtomOk (w:Option Tok) (n o i:Tok):Prop where
 was:∀ t,w=some t->t.k=119/\t.s.toList=ywas
 nm:n.k=110
 op:o.k=115
 num:i.k=105
 txt:Txt i
inductive G where
 | or (l r:G)
 | and (l r:G)
 | not (g:G)
 | group (t:Tok) (g:G)
 | tru
 | atom (was:Option Tok) (nm op num:Tok) (ok:AtomOk was nm op num)
def G.deep:G->Nat
 | .or l r=>l.deep+r.deep
 | .and l r=>l.deep+r.deep
 | .not g=>g.deep
 | .group _ g=>g.deep+1
 | .tru=>0
 | .atom _ _ _ _ _=>0
def G.sen:G->Int->St->St
 | .or l r,d,s=>r.sen d (l.sen d s)
 | .and l r,d,s=>r.sen d (l.sen d s)
 | .not g,d,s=>g.sen d s
 | .group t g,d,s=>g.sen (d+1) (s.wrong (d == 6) 1 t.line)
 | .tru,_,s=>s
 | .atom (some w) nm op num _,_,s=>s.atom [w,nm,op,num] nm num
 | .atom none nm op num _,_,s=>s.atom [nm,op,num] nm num
def GS (l l':List Tok) (f:Int->St->St):Prop:=∀ prev d s,isW prev ywas=false->∃ prev',isW prev' ywas=false/\∀ k R,gF k prev' l' d (f d s)=some R->∃ k',gF k' prev l d s=some R
theorem GS.trans {l m n:List Tok} {f g:Int->St->St} (h:GS l m f) (k:GS m n g):GS l n (fun d s=>g d (f d s)):=fun prev d s hp=>by
 obtain ⟨p1,h1,e1⟩:=h prev d s hp;obtain ⟨p2,h2,e2⟩:=k p1 d (f d s) h1;refine ⟨p2,h2,fun j R hR=>?_⟩;obtain ⟨j1,hj1⟩:=e2 j R hR;exact e1 j1 R hj1
theorem GS.skip {t:Tok} {r:List Tok} (h1:t.k=119) (h2:wSkip.contains t.s.data.toList=true) (h3:isW t ywas=false):GS (t::r) r (fun _ s=>s):=fun prev d s _ =>
 ⟨t,h3,fun k R hR=>⟨k+1,by
  have a1:isS t yLp=false:=by simp [isS,h1]
  have a2:isS t yRp=false:=by simp [isS,h1]
  simp only [gF,a1,a2,Bool.false_eq_true,if_false,h1,h2];simpa using hR⟩⟩
theorem GS.atom0 {n o i:Tok} {r:List Tok} (h1:n.k=110) (h2:i.k=105):GS (n::o::i::r) r (fun _ s=>s.atom [n,o,i] n i):=fun prev d s hp =>
 ⟨i,by simp [isW,h2],fun k R hR=>⟨k+1,by
  have a1:isS n yLp=false:=by simp [isS,h1]
  have a2:isS n yRp=false:=by simp [isS,h1]
  simp only [gF,a1,a2,Bool.false_eq_true,if_false,h1,if_true,hp];exact hR⟩⟩
theorem GS.atom1 {w n o i:Tok} {r:List Tok} (h0:isW w ywas=true) (h1:n.k=110) (h2:i.k=105):GS (w::n::o::i::r) r (fun _ s=>s.atom [w,n,o,i] n i):=fun prev d s hp =>
 ⟨i,by simp [isW,h2],fun k R hR=>⟨k+2,by
  have hw:w.k=119/\w.s.data.toList=ywas:=by simpa [isW] using h0
  have b1:isS w yLp=false:=by simp [isS,hw.1]
  have b2:isS w yRp=false:=by simp [isS,hw.1]
  have a1:isS n yLp=false:=by simp [isS,h1]
  have a2:isS n yRp=false:=by simp [isS,h1]
  have c1:(w.k == 119 && wSkip.contains w.s.data.toList)=true:=by rw [hw.1,hw.2];decide
  have c2:¬ w.k=110:=by omega
  rw [gF,if_neg (by simp [b1]),if_neg (by simp [b2]),if_neg c2,if_pos c1]
  simp only [gF,a1,a2,Bool.false_eq_true,if_false,h1,if_true,h0];exact hR⟩⟩
theorem GS.group {t p:Tok} {l r:List Tok} {f:Int->St->St} (ht:isS t yLp=true) (hp:isS p yRp=true) (h:GS l (p::r) f):GS (t::l) r (fun d s=>f (d+1) (s.wrong (d == 6) 1 t.line)):=fun prev d s _=>by
 have ht':t.k=115/\t.s.data.toList=yLp:=by simpa [isS] using ht
 have hp':p.k=115/\p.s.data.toList=yRp:=by simpa [isS] using hp
 obtain ⟨p1,h1,e1⟩:=h t (d+1) (s.wrong (d == 6) 1 t.line) (by simp [isW,ht'.1]);refine ⟨p,by simp [isW,hp'.1],fun k R hR=>?_⟩
 obtain ⟨k1,hk1⟩:=e1 (k+1) R (by
  have b1:isS p yLp=false:=by simp [isS,hp'.2]
  simp only [gF,b1,hp,Bool.false_eq_true,if_false,if_true];rw [Int.add_sub_cancel];exact hR)
 exact ⟨k1+1,by simp only [gF,ht,if_true];exact hk1⟩
theorem fits_mark {t:Tok} (h:Good t) (m:List UInt8) (hm:m∈wWords\/m∈sgs):fitsP m t=isMark t m/\becomesP m t=none:=by
 have hall:∀ a∈wWords++sgs,a≠YNAME/\a≠YINT/\a≠YOP/\a≠YTABLE/\a≠YMODE/\a≠YROWS/\a≠YMODES/\a≠YDOES/\a≠YGUARD/\a≠YORS/\a≠YCONJ/\a≠YANDS/\a≠YUNIT:=by decide
 obtain ⟨n1,n2,n3,n4,n5,n6,n7,n8,n9,n10,n11,n12,n13⟩:=hall m (by simpa using hm);constructor
 ·unfold fitsP isMark
  rw [if_neg n1,if_neg n2,if_neg n3,Lib.toList_data];rcases h with h | h | h | ⟨h,hs⟩ | ⟨h,hs⟩ <;> rw [h] <;> simp [kindA]
 ·unfold becomesP
  rw [if_neg n4,if_neg n5,if_neg n6,if_neg n7,if_neg n8,if_neg n9,if_neg n10,if_neg n11,if_neg n12,if_neg n13]
theorem mark_ok {t:Tok} (h:Good t) (m:List UInt8) (hm:m∈wWords\/m∈sgs) (r:List Tok) (e:isMark t m=true):Ok [m] (t::r) r :=
 Ok.fits (fits_mark h m hm).2 ((fits_mark h m hm).1.trans e)
theorem mark_bad {t:Tok} (h:Good t) (m:List UInt8) (hm:m∈wWords\/m∈sgs) (r:List Tok) (e:isMark t m=false):Bad [m] (t::r) t.line :=
 Bad.fits (fits_mark h m hm).2 ((fits_mark h m hm).1.trans e)
theorem name_fits {t:Tok} (h:Good t):fitsP YNAME t=(kindA t.k == 1):=by
 unfold fitsP;rw [if_pos rfl];rcases h with h | h | h | ⟨h,hs⟩ | ⟨h,hs⟩ <;> rw [h] <;> simp [kindA]
theorem int_fits {t:Tok} (h:Good t):fitsP YINT t=(kindA t.k == 2):=by
 unfold fitsP;rw [if_neg (by decide),if_pos rfl];rcases h with h | h | h | ⟨h,hs⟩ | ⟨h,hs⟩ <;> rw [h] <;> simp [kindA]
theorem name_ok {t:Tok} (h:Good t) (r:List Tok) (e:(kindA t.k == 1)=true):Ok [YNAME] (t::r) r:=Ok.fits rfl ((name_fits h).trans e)
theorem name_bad {t:Tok} (h:Good t) (r:List Tok) (e:(kindA t.k == 1)=false):Bad [YNAME] (t::r) t.line:=Bad.fits rfl ((name_fits h).trans e)
theorem int_ok {t:Tok} (h:Good t) (r:List Tok) (e:(kindA t.k == 2)=true):Ok [YINT] (t::r) r:=Ok.fits rfl ((int_fits h).trans e)
theorem int_bad {t:Tok} (h:Good t) (r:List Tok) (e:(kindA t.k == 2)=false):Bad [YINT] (t::r) t.line:=Bad.fits rfl ((int_fits h).trans e)
theorem kind_name {t:Tok} (h:Good t) (e:(kindA t.k == 1)=true):t.k=110:=by
 rcases h with h | h | h | ⟨h,hs⟩ | ⟨h,hs⟩ <;> rw [h] at e |- <;> simp [kindA] at e
theorem kind_int {t:Tok} (h:Good t) (e:(kindA t.k == 2)=true):t.k=105:=by
 rcases h with h | h | h | ⟨h,hs⟩ | ⟨h,hs⟩ <;> rw [h] at e |- <;> simp [kindA] at e
end Hx
end
section
namespace Hx
theorem gF_mono (f:Nat):∀ prev l d s R,gF f prev l d s=some R->∀ k,gF (f+k) prev l d s=some R:=by
 induction f with
 | zero=>intro prev l d s R h;simp [gF] at h
 | succ f ih =>
  intro prev l d s R h k;rw [Nat.add_right_comm]
  cases l with
  | nil=>simp [gF] at h
  | cons t r =>
   simp only [gF] at h |-;split
   ·rename_i h1;rw [if_pos h1] at h;exact ih _ _ _ _ _ h k
   ·rename_i h1;rw [if_neg h1] at h
    split
    ·rename_i h2;rw [if_pos h2] at h;exact ih _ _ _ _ _ h k
    ·rename_i h2;rw [if_neg h2] at h
     split
     ·rename_i h3
      rw [if_pos h3] at h;split at h
      ·exact ih _ _ _ _ _ h k
      ·cases h
     ·rename_i h3;rw [if_neg h3] at h
      split
      ·rename_i h4;rw [if_pos h4] at h;exact ih _ _ _ _ _ h k
      ·rename_i h4;rw [if_neg h4] at h;exact h
theorem senF_mono (f:Nat):∀ l inn d dear s S,senF f l inn d dear s=some S->∀ k,senF (f+k) l inn d dear s=some S:=by
 induction f with
 | zero=>intro l inn d dear s S h;simp [senF] at h
 | succ f ih =>
  intro l inn d dear s S h k;rw [Nat.add_right_comm]
  cases l with
  | nil=>simp [senF] at h
  | cons t r =>
   by_cases h1:t.k=101
   ·simp only [senF,if_pos h1] at h |-;exact h
   cases e1:(t.s.toList == yvar) with
   | true =>
    obtain ⟨a,b,c,d',e,r',rfl,hN⟩:=sen_var h h1 e1;simp only [senF,if_neg h1,e1,if_true];exact ih _ _ _ _ _ _ hN k
   | false =>
   cases e2:(t.s.toList == ydefault) with
   | true =>
    have hN:=sen_default h h1 e1 e2;simp only [senF,if_neg h1,e1,e2,if_true,Bool.false_eq_true,if_false];exact ih _ _ _ _ _ _ hN k
   | false =>
   cases e3:(t.s.toList == ymode) with
   | true =>
    obtain ⟨a,b,r',rfl,hN⟩:=sen_mode h h1 e1 e2 e3;simp only [senF,if_neg h1,e1,e2,e3,if_true,Bool.false_eq_true,if_false];exact ih _ _ _ _ _ _ hN k
   | false =>
   cases e4:(t.s.toList == ywhen) with
   | true =>
    obtain ⟨hi1,hi2,s2,d',a,r',hg,hN⟩:=sen_when h h1 e1 e2 e3 e4;simp only [senF,if_neg h1,e1,e2,e3,e4,if_true,Bool.false_eq_true,if_false,if_pos (And.intro hi1 hi2),gF_mono f _ _ _ _ _ hg k];rcases hN with ⟨hd,b,r'',rfl,hN⟩ | ⟨hd,hN⟩
    ·simp only [hd,if_true];exact ih _ _ _ _ _ _ hN k
    ·simp only [hd,Bool.false_eq_true,if_false];exact ih _ _ _ _ _ _ hN k
   | false =>
    obtain ⟨hi1,hi2,hN⟩:=sen_shut h h1 e1 e2 e3 e4;simp only [senF,if_neg h1,e1,e2,e3,e4,Bool.false_eq_true,if_false,dif_pos (And.intro hi1 hi2)];exact ih _ _ _ _ _ _ hN k
structure RowA where
 wh:Tok
 g:G
 dest:Option Tok
 ok:∀ a,dest=some a->a.s.toList≠[]
 deep:g.deep<=3001
structure MA where
 name:Tok
 dflt:Bool
 depth:Nat
 outer:Int
 rows:List RowA
def RowA.p (r:RowA):RowP:=match r.dest with | none=>⟨⟨#[]⟩,0⟩ | some a=>⟨a.s,a.line⟩
def St.row (s:St) (q:Nat) (r:RowA):St:=let s2:=r.g.sen 0 (s.addWhen r.wh);{ s2 with modes:=addRow s2.modes q r.p }
def St.rowsS (s:St) (q:Nat) (rs:List RowA):St:=rs.foldl (fun s r=>s.row q r) s
def St.mode (s:St) (m:MA):St:=(s.addMode m.name m.outer m.depth m.dflt).rowsS s.modes.length m.rows
def St.modesS (s:St) (ms:List MA):St:=ms.foldl St.mode s
def SS (l:List Tok) (inn d:Int) (dear:Bool) (s:St) (l':List Tok) (inn' d':Int) (dear':Bool) (s':St):Prop:=∀ f S,senF f l' inn' d' dear' s'=some S->∃ f',senF f' l inn d dear s=some S
theorem SS.refl (l:List Tok) (inn d:Int) (dear:Bool) (s:St):SS l inn d dear s l inn d dear s:=fun f _ h=>⟨f,h⟩
theorem SS.trans {l1 l2 l3:List Tok} {i1 i2 i3 d1 d2 d3:Int} {b1 b2 b3:Bool} {s1 s2 s3:St} (h:SS l1 i1 d1 b1 s1 l2 i2 d2 b2 s2) (k:SS l2 i2 d2 b2 s2 l3 i3 d3 b3 s3):SS l1 i1 d1 b1 s1 l3 i3 d3 b3 s3:=fun f S hS=>by
 obtain ⟨f1,h1⟩:=k f S hS;exact h f1 S h1
theorem word_of {t:Tok} {y:List UInt8} (hg:Good t) (hy:y∈wWords) (hm:isMark t y=true):t.k=119/\t.s.toList=y:=by
 rw [mark_word hg y hy] at hm;have:t.k=119/\t.s.data.toList=y:=by simpa [isW] using hm
 exact ⟨this.1,by rw [Lib.toList_data];exact this.2⟩
theorem SS.row {t d a:Tok} {l l1 r':List Tok} {g:G} {dest:Option Tok} {inn dp:Int} {dear:Bool} {s:St} (ht:t.k=119/\t.s.toList=ywhen) (hg:GS l (d::l1) g.sen) (hin:0<=inn/\inn<s.modes.length) (hdo:∀ a,dest=some a->a.s.toList≠[]) (hdp:g.deep<=3001)
  (hd:(d.k=119/\d.s.toList=ystay/\dest=none/\l1=a::r')\/(d.k=119/\d.s.toList=yto/\dest=some a/\∃ e,l1=a::e::r')) :
  SS (t::l) inn dp dear s r' inn dp dear (s.row inn.toNat ⟨t,g,dest,hdo,hdp⟩):=fun f S hS=>by
 obtain ⟨p1,_,e1⟩:=hg t 0 (s.addWhen t) (by rw [isW,ht.1,<- Lib.toList_data,ht.2];decide);have hk:d.k=119:=by rcases hd with h | h <;> exact h.1
 have hsk:wSkip.contains d.s.data.toList=false:=by rw [<- Lib.toList_data];rcases hd with h | h <;> rw [h.2.1] <;> decide
 obtain ⟨k,hk'⟩:=e1 1 (g.sen 0 (s.addWhen t),d::l1) (by
  have a1:isS d yLp=false:=by simp [isS,hk]
  have a2:isS d yRp=false:=by simp [isS,hk]
  simp only [gF,a1,a2,hk,hsk]
  simp)
 refine ⟨k+f+1,?_⟩;have n1:¬ t.k=101:=by omega
 have q1:(t.s.toList == yvar)=false:=by rw [ht.2];decide
 have q2:(t.s.toList == ydefault)=false:=by rw [ht.2];decide
 have q3:(t.s.toList == ymode)=false:=by rw [ht.2];decide
 have q4:(t.s.toList == ywhen)=true:=by rw [ht.2];decide
 simp only [senF,if_neg n1,q1,q2,q3,q4,if_true,Bool.false_eq_true,if_false,if_pos hin,gF_mono k _ _ _ _ _ hk' f];have hS':=senF_mono f _ _ _ _ _ _ hS k;rw [Nat.add_comm f k] at hS';rcases hd with ⟨_,h1,rfl,rfl⟩ | ⟨_,h1,rfl,e,rfl⟩
 ·simp only [h1];exact hS'
 ·simp only [h1];exact hS'
end Hx
end
section
namespace Hx
inductive Der:Nat->List Tok->G->List Tok->Prop
 | tru {t:Tok} {r:List Tok} (h:isMark t ytrue=true):Der 0 (t::r) .tru r
 | not {t:Tok} {r r':List Tok} {g:G} (h:isMark t ynot=true) (d:Der 0 r g r'):Der 0 (t::r) (.not g) r'
 | group {t p:Tok} {r r':List Tok} {g:G} (h:isMark t yLp=true) (d:Der 4 r g (p::r')) (hp:isMark p yRp=true):Der 0 (t::r) (.group t g) r'
 | atom0 {n o i:Tok} {r:List Tok} (ok:AtomOk none n o i):Der 0 (n::o::i::r) (.atom none n o i ok) r
 | atom1 {w n o i:Tok} {r:List Tok} (ok:AtomOk (some w) n o i):Der 0 (w::n::o::i::r) (.atom (some w) n o i ok) r
 | c0 {l l':List Tok} {g:G} (d:Der 0 l g l'):Der 1 l g l'
 | c1 {l m l':List Tok} {a:Tok} {g h:G} (d:Der 1 l g (a::m)) (ha:isMark a yand=true) (e:Der 0 m h l'):Der 1 l (.and g h) l'
 | c2 {l m:List Tok} {a:Tok} {g:G} (d:Der 1 l g (a::m)) (ha:isMark a yand=false):Der 2 l g (a::m)
 | g0 {l l':List Tok} {g:G} (d:Der 2 l g l'):Der 3 l g l'
 | g1 {l m l':List Tok} {a:Tok} {g h:G} (d:Der 3 l g (a::m)) (ha:isMark a yor=true) (e:Der 2 m h l'):Der 3 l (.or g h) l'
 | g2 {l m:List Tok} {a:Tok} {g:G} (d:Der 3 l g (a::m)) (ha:isMark a yor=false):Der 4 l g (a::m)
def lvOf (Y:List (List UInt8)):Nat:=if Y=[YGUARD] then 4 else if Y=[YCONJ] then 2 else 0
theorem lv_guard:lvOf [YGUARD]=4:=by decide
theorem lv_conj:lvOf [YCONJ]=2:=by decide
theorem lv_unit:lvOf [YUNIT]=0:=by decide
structure GD (Y:List (List UInt8)) (l l':List Tok) (g:G):Prop where
 gs:GS l l' g.sen
 der:Der (lvOf Y) l g l'
def DestD (l:List Tok) (dest:Option Tok) (l':List Tok):Prop :=
 (∃ t sc,l=t::sc::l'/\isMark t ystay=true/\isMark sc ySc=true/\dest=none)\/(∃ t a sc,l=t::a::sc::l'/\isMark t yto=true/\a.k=110/\isMark sc ySc=true/\dest=some a)
def RowD (l:List Tok) (r:RowA) (l':List Tok):Prop:=∃ l1 l2,l=r.wh::l1/\isMark r.wh ywhen=true/\Der 4 l1 r.g l2/\DestD l2 r.dest l'
inductive RowsD:List Tok->List RowA->List Tok->Prop
 | nil (l:List Tok):RowsD l [] l
 | snoc {l m l':List Tok} {rs:List RowA} {r:RowA} (h:RowsD l rs m) (k:RowD m r l'):RowsD l (rs++[r]) l'
inductive MD:Bool->List Tok->Int->Bool->Nat->Nat->List MA->List Tok->Prop
 | none (l:List Tok) (o:Int) (d n:Nat):MD true l o false d n [] l
 | dear {l m l':List Tok} {o:Int} {d n:Nat} {ext ex:List MA} {t:Tok} (h:MD true l o false d n ext (t::m)) (ht:isMark t ydefault=true) (k:MD false m o true d (n+ext.length) ex l'):MD true l o false d n (ext++ex) l'
 | more {l m l':List Tok} {o:Int} {d n:Nat} {ext ex:List MA} {t:Tok} (h:MD true l o false d n ext (t::m)) (ht:isMark t ydefault=false) (hm:isMark t ymode=true) (k:MD false (t::m) o false d (n+ext.length) ex l'):MD true l o false d n (ext++ex) l'
 | mode {t nm lb rb t2:Tok} {l1 l2 l':List Tok} {o:Int} {df:Bool} {d n:Nat} {rs:List RowA} {ext:List MA} (ht:isMark t ymode=true) (hn:nm.k=110) (hl:isMark lb yLb=true) (hr:RowsD l1 rs (t2::l2)) (h2:isMark t2 ywhen=false)
   (h:MD true (t2::l2) n false (d+1) (n+1) ext (rb::l')) (hb:isMark rb yRb=true):MD false (t::nm::lb::l1) o df d n (⟨nm,df,d,o,rs⟩::ext) l'
end Hx
end
end Go.Proofs.YtdjaiolfdbamcaaGreatDoor
