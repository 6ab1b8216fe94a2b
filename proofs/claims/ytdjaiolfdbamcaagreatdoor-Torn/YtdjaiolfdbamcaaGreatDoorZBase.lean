/- Short words for the moves of a drawn region by hand; nothing of the program is asked here. -/
import Derived.Deep.RegionHeld3
import Derived.KernelRfl
import Derived.WalkKit
import Derived.WalkSpells
import Derived.WalkLawsBesides
import Derived.Deep.QuietTactic
import Derived.BigQuiet
import Derived.Maps.AppendAt
import Derived.Lib.Strings
namespace Go.Proofs.YtdjaiolfdbamcaaGreatDoor
section
section
variable {α : Type}
theorem qA (l:List α) (i:Nat) (a : α):l.toArray.setIfInBounds i a=(l.set i a).toArray:=List.setIfInBounds_toArray l i a
theorem qB {x : α} {xs:List α} {a : α}:(x::xs).set 0 a=a::xs:=rfl
theorem qC {x : α} {xs:List α} {i:Nat} {a : α}:(x::xs).set (i+1) a=x::xs.set i a:=rfl
theorem qD {xs:List α} {i:Nat} (h:i<xs.toArray.size):xs.toArray[i]=xs[i]'(by simpa using h):=rfl
theorem qE (a : α) (as:List α) (h:0<(a::as).length):getElem (a::as) 0 h=a:=rfl
theorem qF (a : α) (as:List α) (i:Nat) (h:i+1<(a::as).length):getElem (a::as) (i+1) h=getElem as i (Nat.lt_of_succ_lt_succ h):=rfl
end
section
variable {P:Program} {md:Region.Mode} {ops:Array Oper} {Q:Exit->Act->World->Prop} {S:World->Prop} {oi:Oper} {n:Nat} {l:Array Bool} {a:Act} {w:World}
theorem tkR (i:Nat) (hi:ops[i]? = some oi) (v:Value) (hv:∀ w,S w->(execOp a.eval oi).run P w=.ok (.value v) w) (hS:S w) (h:wpAnyH P md ops Q S n (l.setIfInBounds i true) (a.put oi.dst v) w) (hs:Region.noSelect ops=true:=by kernel_rfl) (hf:Region.free md ops l i=true:=by kernel_rfl) (hr:(Region.ready md ops l).contains i=true:=by kernel_rfl) (hw:Region.wanted oi (yielded ops a.tmps)=true:=by rfl)
  (hQ:∀ c a w,Q (.panic c) (a.put oi.dst v) w->Q (.panic c) a w:=by exact fun _ _ _ h=>h):wpAnyH P md ops Q S (n+1) l a w:=wpAnyH_take hi hs hf hr hQ (.inl ⟨hw,hv⟩) hS h
theorem skR (i:Nat) (hi:ops[i]? = some oi) (hS:S w) (h:wpAnyH P md ops Q S n (l.setIfInBounds i true) (a.put oi.dst undef) w) (hs:Region.noSelect ops=true:=by kernel_rfl) (hf:Region.free md ops l i=true:=by kernel_rfl) (hr:(Region.ready md ops l).contains i=true:=by kernel_rfl) (hw:Region.wanted oi (yielded ops a.tmps)=false:=by rfl)
  (hQ:∀ c a w,Q (.panic c) (a.put oi.dst undef) w->Q (.panic c) a w:=by exact fun _ _ _ h=>h):wpAnyH P md ops Q S (n+1) l a w:=wpAnyH_take hi hs hf hr hQ (.inr ⟨hw,rfl⟩) hS h
end
end
section
open Go.RowKit
theorem own_below {w w':World} {base:Nat} {e:TypeId} {size:Nat} {v:Value} {n:Nat} {xs:List Value}
  (h:w.ownsRow base e size v n xs) (hb:Below w.heap.size w w'):w'.ownsRow base e size v n xs:=by
 refine ⟨h.1,?_⟩;rcases h.2 with hn | ⟨g,cap,cur,rfl,hbs,hgg,rest⟩
 ·exact .inl hn
 ·refine .inr ⟨g,cap,cur,rfl,hbs,?_,rest⟩
  rw [hb.block g (Array.getElem?_eq_some_iff.1 hgg).1];exact hgg
theorem below_drewN {B:Nat} {a w:World} (h:Below B a w) (n:Nat):Below B a (w.drewN n):=⟨h.os,h.tape,h.output,h.size,h.block⟩
theorem hide {p:Prop} (h:p):Hid p:=h
theorem news_new (W:World) (n:Nat) (hn:n=W.heap.size) (cs:List Value) (t:Nat):∀ j u,cs[j]? = some u->(W.alloc (.cells cs.toArray t)).cell? ((⟨n,0,none⟩ : Addr).add j)=some u:=by
 intro j u h;have e:((⟨n,0,none⟩ : Addr).add j)=⟨n,j,none⟩:=by simp [Addr.add];omega
 rw [e,World.cell?_alloc_at _ _ _ _ hn];simpa using h
theorem own_made (W:World) (B b:Nat) (hB:B<=W.heap.size) (hb:b=W.heap.size) (cs:List Value) (t size n:Nat) (hn:cs.length=n*size) (hm:n<=maxLen) :
  (W.alloc (.cells cs.toArray t)).ownsRow B t size (.slice (some ⟨b,0,none⟩) n n) n cs:=by
 subst hb;exact ⟨hn,.inr ⟨_,n,cs.toArray,rfl,hB,heap_alloc_new W _,Nat.le_refl _,hm,by simpa using hn,by simp [<- hn]⟩⟩
end
section
open Go.RowKit
structure Rw where
 e:Nat
 size:Nat
 n:Nat
 v:Value
 xs:List Value
def Rw.box (e:Nat) (b:Nat) (xs:List Value):Rw:=⟨e,xs.length,1,.slice (some ⟨b,0,none⟩) 1 1,xs⟩
structure MemIs (w:World) (base:Nat) (L:List Rw):Prop where
 own:∀ (i:Nat) (r:Rw),L[i]? = some r->w.ownsRow base r.e r.size r.v r.n r.xs
 apart:∀ (i j:Nat) (a b:Rw),i≠j->L[i]? = some a->L[j]? = some b->a.v.ownBlock=none\/a.v.ownBlock≠b.v.ownBlock
theorem MemIs.nil (w:World) (base:Nat):MemIs w base []:=⟨fun i r h=>by simp at h,fun i j a b _ h _=>by simp at h⟩
theorem MemIs.below {w w':World} {base:Nat} {L:List Rw} (h:MemIs w base L) (hb:Below w.heap.size w w'):MemIs w' base L :=
 ⟨fun i r hr=>own_below (h.own i r hr) hb,h.apart⟩
theorem MemIs.lt {w:World} {base:Nat} {L:List Rw} (h:MemIs w base L) {i:Nat} {r:Rw} (hr:L[i]? = some r) {k:Nat} (hk:r.v.ownBlock=some k):base<=k/\k<w.heap.size :=
 (h.own i r hr).lt k hk
theorem MemIs.grown {w w':World} {base:Nat} {L:List Rw} (h:MemIs w base L) {i:Nat} {r r':Rw} (hr:L[i]? = some r) (hg:w.grownBy w' r.v.ownBlock)
  (ho:w'.ownsRow base r'.e r'.size r'.v r'.n r'.xs) (hat:r'.v.ownBlock=r.v.ownBlock\/r'.v.ownBlock=some w.heap.size):MemIs w' base (L.set i r'):=by
 have hil:i<L.length:=(List.getElem?_eq_some_iff.1 hr).1;have key:∀ j b,j≠i->L[j]? = some b->b.v.ownBlock=none\/b.v.ownBlock≠r'.v.ownBlock:=by
  intro j b hji hb;rcases hat with e | e
  ·rw [e];exact h.apart j i b r hji hb hr
  ·cases hbk:b.v.ownBlock with
   | none=>left;rfl
   | some k =>
    right;have:=(h.lt hb hbk).2;rw [e];simp;omega
 refine ⟨fun j b hb=>?_,fun j k a b hjk ha hb=>?_⟩
 ·rw [List.getElem?_set] at hb
  by_cases e:i=j
  ·rw [if_pos e,if_pos hil] at hb;cases hb;exact ho
  ·rw [if_neg e] at hb
   exact (h.own j b hb).kept hg (h.apart j i b r (fun h=>e h.symm) hb hr)
 ·rw [List.getElem?_set] at ha hb
  by_cases ej:i=j
  ·subst ej
   rw [if_pos rfl,if_pos hil] at ha;rw [if_neg hjk] at hb
   cases ha
   rcases key k b (fun h=>hjk h.symm) hb with h1 | h1
   ·by_cases h2:r'.v.ownBlock=none
    ·left;exact h2
    ·right;rw [h1];exact h2
   ·right;exact h1.symm
  ·rw [if_neg ej] at ha
   by_cases ek:i=k
   ·subst ek
    rw [if_pos rfl,if_pos hil] at hb
    cases hb
    exact key j a (fun h=>ej h.symm) ha
   ·rw [if_neg ek] at hb
    exact h.apart j k a b hjk ha hb
theorem MemIs.addNil {w:World} {base:Nat} {L:List Rw} (h:MemIs w base L) (e size:Nat):MemIs w base (L++[⟨e,size,0,.slice none 0 0,[]⟩]):=by
 have hnew:∀ i a,(L++[(⟨e,size,0,.slice none 0 0,[]⟩ : Rw)])[i]? = some a->(L[i]? = some a)\/(i=L.length/\a=⟨e,size,0,.slice none 0 0,[]⟩):=by
  intro i a ha
  by_cases hi:i<L.length
  ·rw [List.getElem?_append_left hi] at ha;exact .inl ha
  ·rw [List.getElem?_append_right (by omega)] at ha
   right;have:i-L.length=0:=by
    cases hx:i-L.length with
    | zero=>rfl
    | succ k=>rw [hx] at ha;simp at ha
   rw [this] at ha;simp at ha;exact ⟨by omega,ha.symm⟩
 refine ⟨fun i r hr=>?_,fun i j a c hij ha hc=>?_⟩
 ·rcases hnew i r hr with h1 | ⟨_,rfl⟩
  ·exact h.own i r h1
  ·exact World.ownsRow_nil _ _ _ _
 ·rcases hnew i a ha with h1 | ⟨h1,rfl⟩ <;> rcases hnew j c hc with h2 | ⟨h2,rfl⟩
  ·exact h.apart i j a c hij h1 h2
  ·cases hbk:a.v.ownBlock with
   | none=>left;rfl
   | some k=>right;simp [Value.ownBlock]
  ·left;rfl
  ·omega
theorem grownBy_setCell (w:World) (a:Addr) (u:Value):w.grownBy (w.setCell a u) (some a.block) :=
 ⟨rfl,rfl,rfl,by simp [World.setCell],fun k _ hne=>Below.heap_setCell _ _ _ _ (fun e=>hne (by rw [e]))⟩
theorem MemIs.store {w:World} {base:Nat} {L:List Rw} (h:MemIs w base L) {i g cap j:Nat} {r:Rw} (hr:L[i]? = some r) (hv:r.v=.slice (some ⟨g,0,none⟩) r.n cap) (u:Value) :
  MemIs (w.setCell ⟨g,j,none⟩ u) base (L.set i { r with xs:=r.xs.set j u }):=by
 have ho:=h.own i r hr;rw [hv] at ho;refine h.grown hr (by rw [hv];exact grownBy_setCell w _ u) ?_ (.inl rfl);rw [hv];obtain ⟨hl,ho⟩:=ho;refine ⟨by simpa using hl,.inr ?_⟩;rcases ho with ⟨h0,_⟩ | ⟨g',cap',cur,he,hb,hg,h1,h2,h3,h4⟩
 ·cases h0
 ·cases he
  refine ⟨g,cap,cur.setIfInBounds j u,rfl,hb,?_,h1,h2,by simpa using h3,?_⟩
  ·simp only [World.setCell,Array.getElem?_modify,if_true,hg,Option.map_some];rfl
  ·rw [<- h4]
   simp [List.take_set]
theorem MemIs.cell {w:World} {base:Nat} {L:List Rw} (h:MemIs w base L) {i g cap:Nat} {r:Rw} (hr:L[i]? = some r) (hv:r.v=.slice (some ⟨g,0,none⟩) r.n cap) (j:Nat) (hj:j<r.n*r.size) :
  w.cell? ⟨g,j,none⟩=r.xs[j]? := by
 have ho:=h.own i r hr;rw [hv] at ho;exact ho.cellAt j hj
theorem MemIs.frozen {w:World} {base:Nat} {L:List Rw} (h:MemIs w base L) {i g cap:Nat} {r:Rw} (hr:L[i]? = some r) (hv:r.v=.slice (some ⟨g,0,none⟩) r.n cap) (j:Nat) :
  w.frozen? ⟨g,j,none⟩=false:=by
 have ho:=h.own i r hr;rw [hv] at ho;exact ho.frozenAt j
structure Kp (F:Nat->Prop) (w w':World):Prop where
 os:w'.os=w.os
 tape:w'.tape=w.tape
 output:w'.output=w.output
 size:w.heap.size<=w'.heap.size
 block:∀ k,k<w.heap.size->¬ F k->w'.heap[k]? = w.heap[k]?
def fresh (F:Nat->Prop) (w:World):Nat->Prop:=fun k=>F k\/w.heap.size<=k
def tight (F:Nat->Prop) (w:World):Nat->Prop:=fun k=>F k/\k<w.heap.size
theorem Kp.refl (F:Nat->Prop) (w:World):Kp F w w:=⟨rfl,rfl,rfl,Nat.le_refl _,fun _ _ _=>rfl⟩
theorem Kp.mono {F G:Nat->Prop} {w w':World} (h:Kp F w w') (hFG:∀ k,k<w.heap.size->F k->G k):Kp G w w' :=
 ⟨h.os,h.tape,h.output,h.size,fun k hk hn=>h.block k hk (fun hF=>hn (hFG k hk hF))⟩
theorem Kp.trans {F G:Nat->Prop} {w w1 w2:World} (h:Kp F w w1) (k:Kp G w1 w2) (hG:∀ k,G k->F k\/w.heap.size<=k):Kp F w w2 :=
 ⟨k.os.trans h.os,k.tape.trans h.tape,k.output.trans h.output,Nat.le_trans h.size k.size,fun i hi hn =>
  (k.block i (Nat.lt_of_lt_of_le hi h.size) (fun hg=>(hG i hg).elim hn (fun h=>by omega))).trans (h.block i hi hn)⟩
theorem Kp.ofBelow {F:Nat->Prop} {w w':World} (h:Below w.heap.size w w'):Kp F w w':=⟨h.os,h.tape,h.output,h.size,fun k hk _=>h.block k hk⟩
theorem Kp.toBelow {F:Nat->Prop} {w w':World} {B:Nat} (h:Kp F w w') (hB:∀ k,F k->B<=k) (hs:B<=w.heap.size):Below B w w' :=
 ⟨h.os,h.tape,h.output,h.size,fun k hk=>h.block k (by omega) (fun hF=>by have:=hB k hF;omega)⟩
theorem Kp.alloc {F:Nat->Prop} {a w:World} (h:Kp F a w) (o:Obj):Kp F a (w.alloc o) :=
 h.trans (Kp.ofBelow (F:=fun _=>False) ((Below.refl _ _).alloc (Nat.le_refl _) _)) (fun _ h=>h.elim)
theorem Kp.drew {F:Nat->Prop} {a w:World} (h:Kp F a w):Kp F a w.drew:=⟨h.os,h.tape,h.output,h.size,h.block⟩
theorem Kp.setCell {F:Nat->Prop} {a w:World} (h:Kp F a w) {p:Addr} (hp:F p.block\/a.heap.size<=p.block) (u:Value):Kp F a (w.setCell p u) :=
 h.trans (G:=fun k=>k=p.block) ⟨rfl,rfl,rfl,by simp [World.setCell],fun k _ hn=>Below.heap_setCell _ _ _ _ hn⟩ (fun k e=>e ▸ hp)
theorem Kp.below {F:Nat->Prop} {a w w':World} (h:Kp F a w) (hb:Below w.heap.size w w'):Kp F a w' :=
 h.trans (Kp.ofBelow (F:=fun _=>False) hb) (fun _ h=>h.elim)
theorem Kp.cell {F:Nat->Prop} {w w':World} (h:Kp F w w') {b o:Nat} (hb:b<w.heap.size) (hn:¬ F b):w'.cell? ⟨b,o,none⟩=w.cell? ⟨b,o,none⟩:=World.cell?_of_block (h.block b hb hn)
theorem Kp.frozen {F:Nat->Prop} {w w':World} (h:Kp F w w') {b o:Nat} (hb:b<w.heap.size) (hn:¬ F b):w'.frozen? ⟨b,o,none⟩=w.frozen? ⟨b,o,none⟩:=World.frozen?_of_block (h.block b hb hn)
theorem Kp.own {F:Nat->Prop} {w w':World} (h:Kp F w w') {base e size n:Nat} {v:Value} {xs:List Value} (ho:w.ownsRow base e size v n xs) (hn:∀ k,v.ownBlock=some k->¬ F k):w'.ownsRow base e size v n xs:=by
 refine ⟨ho.1,?_⟩;rcases ho.2 with h0 | ⟨g,cap,cur,rfl,hb,hgg,rest⟩
 ·exact .inl h0
 ·refine .inr ⟨g,cap,cur,rfl,hb,?_,rest⟩
  rw [h.block g (Array.getElem?_eq_some_iff.1 hgg).1 (hn g rfl)];exact hgg
theorem Kp.grown {F:Nat->Prop} {a w w':World} {row:Option Nat} (h:Kp F a w) (hg:w.grownBy w' row) (hr:∀ k,row=some k->F k\/a.heap.size<=k):Kp F a w' :=
 h.trans (G:=fun k=>row=some k) ⟨hg.os,hg.tape,hg.output,hg.size,fun k hk hn=>hg.block k hk (fun e=>hn e.symm)⟩ hr
def foot (L:List Rw) (k:Nat):Prop:=∃ (i:Nat) (r:Rw),L[i]? = some r/\r.v.ownBlock=some k
theorem foot_set {L:List Rw} {i:Nat} {r':Rw} {k:Nat} (h:foot (L.set i r') k):foot L k\/r'.v.ownBlock=some k:=by
 obtain ⟨j,r,hr,hk⟩:=h;rw [List.getElem?_set] at hr
 by_cases e:i=j
 ·rw [if_pos e] at hr
  split at hr
  ·cases hr;exact .inr hk
  ·cases hr
 ·rw [if_neg e] at hr;exact .inl ⟨j,r,hr,hk⟩
theorem MemIs.kept {F:Nat->Prop} {w w':World} {base:Nat} {L:List Rw} (h:MemIs w base L) (hk:Kp F w w') (hn:∀ k,foot L k->¬ F k):MemIs w' base L :=
 ⟨fun i r hr=>hk.own (h.own i r hr) (fun k e=>hn k ⟨i,r,hr,e⟩),h.apart⟩
theorem set_other (w:World) (a b:Addr) (v:Value) (h:a≠b):(w.setCell a v).cell? b=w.cell? b:=by
 apply World.cell?_setCell_other;exact h
theorem step_append_own_at {P:Program} {ops:Array Oper} {o:Oper} {a:Act} {w:World} {K:Act->World->Prop} {Q:Exit->Act->World->Prop} {E:Prop}
  (hgd:o.guard=none) (s x:Operand) (t:TypeId) (hop:o.op=Op.call { callee:=Callee.builtin Builtin.append,args:=#[s,x],argTypes:=#[t,t] })
  (base:Nat) (e:TypeId) (i:TypeInfo) (z:Value) (size bytes:Nat) (ht:P.underlying t=some (.slice e)) (hi:P.info? e=some i) (hz:i.zero=some z)
  (hsize:i.size=size) (hby:i.bytes=bytes) (hzs:z.cells.size=size) (hsz:0<size)
  (v:Value) (n:Nat) (xs:List Value) (hs:a.eval s=v) (hown:w.ownsRow base e size v n xs)
  (ad:Addr) (m c:Nat) (news:List Value) (hx:a.eval x=.slice (some ad) m c) (hl:news.length=m*size) (hnews:∀ j u,news[j]? = some u->w.cell? (ad.add j)=some u) (h1:∀ u∈news,u.oneCell'=true)
  (h63:n+m<=maxLen) (hbytes:(n+m)*bytes<=140737488355328) (hbase:base<=w.heap.size)
  (h:∀ v' w',w'.ownsRow base e size v' (n+m) (xs++news)->w.grownBy w' v.ownBlock->(v'.ownBlock=v.ownBlock\/v'.ownBlock=some w.heap.size)->K (a.put o.dst v') w') :
  if Region.wanted o (yielded ops a.tmps)=true then Oper.wp P o a w K Q else E:=by
 have hw:Region.wanted o (yielded ops a.tmps)=true:=by simp [Region.wanted,hgd]
 rw [if_pos hw];obtain ⟨v',w',hr,h2,h3,h4,h5⟩:=run_append_own_at (P:=P) w base t o.type e i z size bytes ht hi hz hsize hby hzs hsz v n xs hown ad m c news hl hnews h1 h63 hbytes hbase;unfold Oper.wp;simp [execOp,hop,resolve,invoke,builtin,hs,hx,hr,Result.andThen];exact h v' w' h2 h3 h5
end
section
namespace Hx
def isDig (c:UInt8):Bool:=48<=c && c<=57
def isLow (c:UInt8):Bool:=97<=c && c<=122
def isNm (c:UInt8):Bool:=isDig c || isLow c
def spanLen (p:UInt8->Bool):List UInt8->Nat
 | []=>0
 | c::r=>if p c then spanLen p r+1 else 0
theorem spanLen_le (p:UInt8->Bool) (l:List UInt8):spanLen p l<=l.length:=by
 induction l with
 | nil=>simp [spanLen]
 | cons c r ih=>simp only [spanLen];split <;> simp <;> omega
theorem span_hit (p:UInt8->Bool) (s:ByteArray) (k:Nat) (h:k<s.size) (hp:p s[k]=true) :
  spanLen p (s.data.toList.drop k)=spanLen p (s.data.toList.drop (k+1))+1:=by
 have e:s.data.toList.drop k=s[k]::s.data.toList.drop (k+1):=by
  rw [List.drop_eq_getElem_cons (by simpa using h)];rfl
 rw [e,spanLen,if_pos hp]
theorem span_miss (p:UInt8->Bool) (s:ByteArray) (k:Nat) (h:k<s.size) (hp:p s[k]=false) :
  spanLen p (s.data.toList.drop k)=0:=by
 have e:s.data.toList.drop k=s[k]::s.data.toList.drop (k+1):=by
  rw [List.drop_eq_getElem_cons (by simpa using h)];rfl
 rw [e,spanLen,if_neg (by simp [hp])]
theorem span_end (p:UInt8->Bool) (s:ByteArray) (k:Nat) (h:s.size<=k):spanLen p (s.data.toList.drop k)=0:=by
 rw [List.drop_of_length_le (by simpa using h)];rfl
theorem isDig_iff (c:UInt8):isDig c=decide (48<=(c.toNat:Int)/\(c.toNat:Int)<=57):=by
 unfold isDig;rw [Bool.eq_iff_iff];simp [UInt8.le_iff_toNat_le];omega
theorem isLow_iff (c:UInt8):isLow c=decide (97<=(c.toNat:Int)/\(c.toNat:Int)<=122):=by
 unfold isLow;rw [Bool.eq_iff_iff];simp [UInt8.le_iff_toNat_le];omega
theorem dig_no {c:UInt8} (h:¬ (48<=(c.toNat:Int)/\(c.toNat:Int)<=57)):isDig c=false:=by rw [isDig_iff];simpa using h
theorem low_yes {c:UInt8} (h1:97<=(c.toNat:Int)) (h2:(c.toNat:Int)<=122):isLow c=true:=by rw [isLow_iff];simp;omega
theorem low_no {c:UInt8} (h:¬ (97<=(c.toNat:Int)/\(c.toNat:Int)<=122)):isLow c=false:=by rw [isLow_iff];simpa using h
theorem nm_of_low {c:UInt8} (h:isLow c=true):isNm c=true:=by simp [isNm,h]
def signLen:List UInt8->Nat
 | a::b::_ =>
  if (a == 46 && b == 46) || (a == 60 && b == 61) || (a == 61 && b == 61) || (a == 33 && b == 61) || (a == 62 && b == 61) then 2
  else if a == 123 || a == 125 || a == 40 || a == 41 || a == 59 || a == 60 || a == 62 then 1 else 0
 | [a]=>if a == 123 || a == 125 || a == 40 || a == 41 || a == 59 || a == 60 || a == 62 then 1 else 0
 | []=>0
def wWords:List (List UInt8):=[[118,97,114],[109,111,100,101],[100,101,102,97,117,108,116],[119,104,101,110],[116,111],[115,116,97,121],[97,110,100],[111,114],[110,111,116],[119,97,115],[116,114,117,101]]
def wOps:List (List UInt8):=[[60],[60,61],[61,61],[33,61],[62,61],[62]]
theorem drop_one (s:ByteArray) (i:Nat) (h:i<s.size):s.data.toList.drop i=s[i]::s.data.toList.drop (i+1):=by
 rw [List.drop_eq_getElem_cons (by simp;omega)];rfl
def decN:Nat->Nat->List UInt8
 | 0,n=>[UInt8.ofNat (48+n % 10)]
 | f+1,n=>(if 10<=n then decN f (n/10) else [])++[UInt8.ofNat (48+n % 10)]
theorem decN_len (f n:Nat):(decN f n).length<=f+1:=by
 induction f generalizing n with
 | zero=>simp [decN]
 | succ f ih=>simp only [decN];split <;> simp;exact ih _
def decI (n:Int):List UInt8:=if n<0 then 45::decN 4 n.natAbs else decN 4 n.natAbs
end Hx
end
section
namespace Hx
structure Tok where
 k:Nat
 s:ByteArray
 n:Int
 line:Nat
def endTok (line:Nat):Tok:=⟨101,⟨#[]⟩,0,line⟩
def numOf (l:List UInt8):Int:=l.foldl (fun a c=>10*a+(c.toNat:Int)-48) 0
def tokOf (l:List UInt8) (line:Nat):Option (Nat×Tok) :=
 let minus:=if l.head? = some 45 then 1 else 0
 let d:=spanLen isDig (l.drop minus)
 if 0<d then
  if 4<d then none
  else
   let v:=numOf ((l.drop minus).take d)
   let v':=if minus=1 then -v else v
   some (minus+d,⟨105,⟨(decI v').toArray⟩,v',line⟩)
 else if (l.head?.map isLow).getD false then
  let n:=spanLen isNm l
  if 8<n then none else some (n,⟨if wWords.contains (l.take n) then 119 else 110,⟨(l.take n).toArray⟩,0,line⟩)
 else if signLen l=0 then none else some (signLen l,⟨115,⟨(l.take (signLen l)).toArray⟩,0,line⟩)
def dropRem:List UInt8->List UInt8
 | []=>[]
 | c::r=>if c=10 then c::r else dropRem r
def lexF:Nat->List UInt8->Nat->List Tok->Nat ⊕ List Tok
 | 0,_,line,_=>.inl line
 | _+1,[],line,acc=>.inr (acc++[endTok line])
 | f+1,c::r,line,acc =>
  if c=10 then lexF f r (line+1) acc
  else if c=32\/c=9 then lexF f r line acc
  else if c=35 then lexF f (dropRem r) line acc
  else match tokOf (c::r) line with
   | none=>.inl line
   | some (n,t)=>lexF f ((c::r).drop n) line (acc++[t])
def lex (l:List UInt8):Nat ⊕ List Tok:=lexF (l.length+1) l 1 []
theorem byte_yes {c k:UInt8} {m:Int} (hm:m=(k.toNat:Int)) (h:c=k):(((c.toNat:Nat):Int) == m)=true:=by subst h;simp [hm]
theorem byte_no {c k:UInt8} {m:Int} (hm:m=(k.toNat:Int)) (h:¬ c=k):(((c.toNat:Nat):Int) == m)=false:=by
 rw [beq_eq_false_iff_ne,hm];intro e;exact h (UInt8.toNat_inj.1 (by omega))
theorem numOf_snoc (l:List UInt8) (c:UInt8):numOf (l++[c])=10*numOf l+(c.toNat:Int)-48:=by simp [numOf]
theorem numOf_take (s:ByteArray) (a j:Nat) (h:a+j<s.size):numOf ((s.data.toList.drop a).take (j+1))=10*numOf ((s.data.toList.drop a).take j)+(s[a+j].toNat:Int)-48:=by
 rw [List.take_succ_eq_append_getElem (by simp;omega),numOf_snoc];simp;rfl
theorem span_all (p:UInt8->Bool) (l:List UInt8) (j:Nat) (h:j<spanLen p l):∃ h':j<l.length,p l[j]=true:=by
 induction l generalizing j with
 | nil=>simp [spanLen] at h
 | cons c r ih =>
  simp only [spanLen] at h;split at h
  ·cases j with
   | zero=>exact ⟨by simp,by simpa⟩
   | succ j=>obtain ⟨a,b⟩:=ih j (by omega);exact ⟨by simp;omega,by simpa using b⟩
  ·omega
theorem dig_at (s:ByteArray) (a j:Nat) (h:j<spanLen isDig (s.data.toList.drop a)):∃ h':a+j<s.size,48<=(s[a+j].toNat:Int)/\(s[a+j].toNat:Int)<=57:=by
 obtain ⟨h1,h2⟩:=span_all isDig _ j h;simp at h1;refine ⟨by omega,?_⟩;have e:(s.data.toList.drop a)[j]=s[a+j]:=by simp;rfl
 rw [e,isDig_iff] at h2;simpa using h2
theorem numOf_lt (s:ByteArray) (a:Nat):∀ j,j<=spanLen isDig (s.data.toList.drop a)->0<=numOf ((s.data.toList.drop a).take j)/\numOf ((s.data.toList.drop a).take j)<10 ^ j:=by
 intro j
 induction j with
 | zero=>intro _;simp [numOf]
 | succ j ih =>
  intro h;obtain ⟨h1,h2,h3⟩:=dig_at s a j (by omega);obtain ⟨i1,i2⟩:=ih (by omega);rw [numOf_take s a j h1,Int.pow_succ];omega
theorem numOf_lt4 (s:ByteArray) (a j:Nat) (h:j<=spanLen isDig (s.data.toList.drop a)) (h4:j<=4):0<=numOf ((s.data.toList.drop a).take j)/\numOf ((s.data.toList.drop a).take j)<=9999:=by
 obtain ⟨h1,h2⟩:=numOf_lt s a j h;have h3:(10:Int) ^ j<=10000:=by
  match j,h4 with
  | 0,_=>decide
  | 1,_=>decide
  | 2,_=>decide
  | 3,_=>decide
  | 4,_=>decide
 omega
theorem head_at (s:ByteArray) (i:Nat) (hi:i<s.size):(s.data.toList.drop i).head? = some s[i]:=by rw [drop_one s i hi];rfl
theorem tok_int1 (s:ByteArray) (i d line:Nat) (N:Int) (h:∃ hi:i<s.size,s[i]=45) (hd:spanLen isDig (s.data.toList.drop (i+1))=d) (d0:0<d) (d4:¬ 4<d)
  (hN:numOf ((s.data.toList.drop (i+1)).take d)=N):tokOf (s.data.toList.drop i) line=some (1+d,⟨105,⟨(decI (-N)).toArray⟩,-N,line⟩):=by
 obtain ⟨hi,h⟩:=h;have e:(s.data.toList.drop i).drop 1=s.data.toList.drop (i+1):=by rw [List.drop_drop]
 simp only [tokOf,head_at s i hi,h,if_true,e,hd,if_pos d0,if_neg d4,hN]
theorem tok_int0 (s:ByteArray) (i d line:Nat) (N:Int) (h:∃ hi:i<s.size,¬ s[i]=45) (hd:spanLen isDig (s.data.toList.drop (i+0))=d) (d0:0<d) (d4:¬ 4<d)
  (hN:numOf ((s.data.toList.drop (i+0)).take d)=N):tokOf (s.data.toList.drop i) line=some (0+d,⟨105,⟨(decI N).toArray⟩,N,line⟩):=by
 obtain ⟨hi,h⟩:=h;have e:¬ (some s[i]=some 45):=by simpa using h
 simp only [Nat.add_zero] at hd hN;simp only [tokOf,head_at s i hi,if_neg e,List.drop_zero,hd,if_pos d0,if_neg d4,hN];simp
theorem tok_long1 (s:ByteArray) (i d line:Nat) (h:∃ hi:i<s.size,s[i]=45) (hd:spanLen isDig (s.data.toList.drop (i+1))=d) (d0:0<d) (d4:4<d) :
  tokOf (s.data.toList.drop i) line=none:=by
 obtain ⟨hi,h⟩:=h;have e:(s.data.toList.drop i).drop 1=s.data.toList.drop (i+1):=by rw [List.drop_drop]
 simp only [tokOf,head_at s i hi,h,if_true,e,hd,if_pos d0,if_pos d4]
theorem tok_long0 (s:ByteArray) (i d line:Nat) (h:∃ hi:i<s.size,¬ s[i]=45) (hd:spanLen isDig (s.data.toList.drop (i+0))=d) (d0:0<d) (d4:4<d) :
  tokOf (s.data.toList.drop i) line=none:=by
 obtain ⟨hi,h⟩:=h;have e:¬ (some s[i]=some 45):=by simpa using h
 simp only [Nat.add_zero] at hd;simp only [tokOf,head_at s i hi,if_neg e,List.drop_zero,hd,if_pos d0,if_pos d4]
theorem take_extract (s:ByteArray) (i n:Nat):(⟨((s.data.toList.drop i).take n).toArray⟩ : ByteArray)=s.extract i (i+n):=by
 rw [Lib.extract_eq];congr 3;omega
theorem nodig0 (s:ByteArray) (i line:Nat) (h:∃ hi:i<s.size,¬ s[i]=45) (hd:spanLen isDig (s.data.toList.drop (i+0))=0) :
  tokOf (s.data.toList.drop i) line=(if isLow (s[i]'(h.1))=true then
   (if 8<spanLen isNm (s.data.toList.drop i) then none else some (spanLen isNm (s.data.toList.drop i),⟨if wWords.contains (s.extract i (i+spanLen isNm (s.data.toList.drop i))).data.toList then 119 else 110,s.extract i (i+spanLen isNm (s.data.toList.drop i)),0,line⟩))
   else if signLen (s.data.toList.drop i)=0 then none else some (signLen (s.data.toList.drop i),⟨115,s.extract i (i+signLen (s.data.toList.drop i)),0,line⟩)):=by
 obtain ⟨hi,h⟩:=h;have e:¬ (some s[i]=some 45):=by simpa using h
 simp only [Nat.add_zero] at hd;simp only [tokOf,head_at s i hi,if_neg e,List.drop_zero,hd,Nat.lt_irrefl,if_false,Option.map_some,Option.getD_some,take_extract];have e2:(s.data.toList.drop i).take (spanLen isNm (s.data.toList.drop i))=(s.extract i (i+spanLen isNm (s.data.toList.drop i))).data.toList:=by rw [<- take_extract]
 rw [e2]
theorem nodig1 (s:ByteArray) (i line:Nat) (h:∃ hi:i<s.size,s[i]=45) (hd:spanLen isDig (s.data.toList.drop (i+1))=0) :
  tokOf (s.data.toList.drop i) line=(if signLen (s.data.toList.drop i)=0 then none else some (signLen (s.data.toList.drop i),⟨115,s.extract i (i+signLen (s.data.toList.drop i)),0,line⟩)):=by
 obtain ⟨hi,h⟩:=h;have e:(s.data.toList.drop i).drop 1=s.data.toList.drop (i+1):=by rw [List.drop_drop]
 have e3:isLow 45=false:=by decide
 simp only [tokOf,head_at s i hi,h,if_true,e,hd,Nat.lt_irrefl,if_false,Option.map_some,Option.getD_some,e3,take_extract];simp
theorem tok_name_long (s:ByteArray) (i n line:Nat) (h:∃ hi:i<s.size,(¬ s[i]=45)/\97<=(s[i].toNat:Int)/\(s[i].toNat:Int)<=122) (hd:spanLen isDig (s.data.toList.drop (i+0))=0)
  (hn:spanLen isNm (s.data.toList.drop i)=n) (n8:8<n):tokOf (s.data.toList.drop i) line=none:=by
 obtain ⟨hi,h,l1,l2⟩:=h;rw [nodig0 s i line ⟨hi,h⟩ hd,if_pos (low_yes l1 l2),hn,if_pos n8]
theorem tok_name_110 (s:ByteArray) (i n line:Nat) (h:∃ hi:i<s.size,(¬ s[i]=45)/\97<=(s[i].toNat:Int)/\(s[i].toNat:Int)<=122) (hd:spanLen isDig (s.data.toList.drop (i+0))=0)
  (hn:spanLen isNm (s.data.toList.drop i)=n) (n8:¬ 8<n) (hw:wWords.contains (s.extract i (i+n)).data.toList=false):tokOf (s.data.toList.drop i) line=some (n,⟨110,s.extract i (i+n),0,line⟩):=by
 obtain ⟨hi,h,l1,l2⟩:=h;rw [nodig0 s i line ⟨hi,h⟩ hd,if_pos (low_yes l1 l2),hn,if_neg n8,hw];rfl
theorem tok_name_119 (s:ByteArray) (i n line:Nat) (h:∃ hi:i<s.size,(¬ s[i]=45)/\97<=(s[i].toNat:Int)/\(s[i].toNat:Int)<=122) (hd:spanLen isDig (s.data.toList.drop (i+0))=0)
  (hn:spanLen isNm (s.data.toList.drop i)=n) (n8:¬ 8<n) (hw:wWords.contains (s.extract i (i+n)).data.toList=true):tokOf (s.data.toList.drop i) line=some (n,⟨119,s.extract i (i+n),0,line⟩):=by
 obtain ⟨hi,h,l1,l2⟩:=h;rw [nodig0 s i line ⟨hi,h⟩ hd,if_pos (low_yes l1 l2),hn,if_neg n8,hw];rfl
theorem tok_sign0_none (s:ByteArray) (i line:Nat) (h:∃ hi:i<s.size,(¬ s[i]=45)/\¬ (97<=(s[i].toNat:Int)/\(s[i].toNat:Int)<=122)) (hd:spanLen isDig (s.data.toList.drop (i+0))=0)
  (hn:signLen (s.data.toList.drop i)=0):tokOf (s.data.toList.drop i) line=none:=by
 obtain ⟨hi,h,l⟩:=h;rw [nodig0 s i line ⟨hi,h⟩ hd,if_neg (by rw [low_no l];simp),if_pos hn]
theorem tok_sign0 (s:ByteArray) (i n line:Nat) (h:∃ hi:i<s.size,(¬ s[i]=45)/\¬ (97<=(s[i].toNat:Int)/\(s[i].toNat:Int)<=122)) (hd:spanLen isDig (s.data.toList.drop (i+0))=0)
  (hn:signLen (s.data.toList.drop i)=n) (n0:¬ n=0):tokOf (s.data.toList.drop i) line=some (n,⟨115,s.extract i (i+n),0,line⟩):=by
 obtain ⟨hi,h,l⟩:=h;rw [nodig0 s i line ⟨hi,h⟩ hd,if_neg (by rw [low_no l];simp),hn,if_neg n0]
theorem tok_sign1_none (s:ByteArray) (i line:Nat) (h:∃ hi:i<s.size,(s[i]=45)/\¬ (97<=(s[i].toNat:Int)/\(s[i].toNat:Int)<=122)) (hd:spanLen isDig (s.data.toList.drop (i+1))=0)
  (hn:signLen (s.data.toList.drop i)=0):tokOf (s.data.toList.drop i) line=none:=by
 obtain ⟨hi,h,l⟩:=h;rw [nodig1 s i line ⟨hi,h⟩ hd,if_pos hn]
theorem span_take (p:UInt8->Bool) (l:List UInt8):∀ c∈l.take (spanLen p l),p c=true:=by
 induction l with
 | nil=>simp
 | cons c r ih =>
  simp only [spanLen];split
  ·rename_i h
   intro d hd;rcases List.mem_cons.1 (by simpa using hd) with rfl | hm
   ·exact h
   ·exact ih d hm
  ·simp
end Hx
end
section
open Go.RowKit
theorem row_open {w:World} {base e size n:Nat} {v:Value} {xs:List Value} (h:w.ownsRow base e size v n xs) (hn:0<n) :
  ∃ g cap,v=.slice (some ⟨g,0,none⟩) n cap/\base<=g/\g<w.heap.size/\n<=cap/\cap<=maxLen/\∀ j,j<n*size->w.cell? ⟨g,j,none⟩=xs[j]? := by
 rcases h.2 with ⟨_,h0⟩ | ⟨g,cap,cur,rfl,hb,hg,h1,h2,_⟩
 ·omega
 ·exact ⟨g,cap,rfl,hb,(Array.getElem?_eq_some_iff.1 hg).1,h1,h2,fun j hj=>h.cellAt j hj⟩
end
section
namespace Hx
abbrev YTABLE:List UInt8:=[84,65,66,76,69]
abbrev YMODE:List UInt8:=[77,79,68,69]
abbrev YROWS:List UInt8:=[82,79,87,83]
abbrev YMODES:List UInt8:=[77,79,68,69,83]
abbrev YDOES:List UInt8:=[68,79,69,83]
abbrev YGUARD:List UInt8:=[71,85,65,82,68]
abbrev YORS:List UInt8:=[79,82,83]
abbrev YCONJ:List UInt8:=[67,79,78,74]
abbrev YANDS:List UInt8:=[65,78,68,83]
abbrev YUNIT:List UInt8:=[85,78,73,84]
abbrev YNAME:List UInt8:=[78,65,77,69]
abbrev YINT:List UInt8:=[73,78,84]
abbrev YOP:List UInt8:=[79,80]
abbrev yvar:List UInt8:=[118,97,114]
abbrev ymode:List UInt8:=[109,111,100,101]
abbrev ydefault:List UInt8:=[100,101,102,97,117,108,116]
abbrev ywhen:List UInt8:=[119,104,101,110]
abbrev yto:List UInt8:=[116,111]
abbrev ystay:List UInt8:=[115,116,97,121]
abbrev yand:List UInt8:=[97,110,100]
abbrev yor:List UInt8:=[111,114]
abbrev ynot:List UInt8:=[110,111,116]
abbrev ywas:List UInt8:=[119,97,115]
abbrev ytrue:List UInt8:=[116,114,117,101]
abbrev yLb:List UInt8:=[123]
abbrev yRb:List UInt8:=[125]
abbrev yLp:List UInt8:=[40]
abbrev yRp:List UInt8:=[41]
abbrev ySc:List UInt8:=[59]
abbrev yDd:List UInt8:=[46,46]
def isW (t:Tok) (s:List UInt8):Bool:=t.k == 119 && t.s.data.toList == s
def isS (t:Tok) (s:List UInt8):Bool:=t.k == 115 && t.s.data.toList == s
def becomesP (y:List UInt8) (t:Tok):Option (List (List UInt8)) :=
 if y=YTABLE then some (if isW t yvar then [yvar,YNAME,YINT,yDd,YINT,ySc,YTABLE] else [YMODE])
 else if y=YMODE then some [ymode,YNAME,yLb,YROWS]
 else if y=YROWS then some (if isW t ywhen then [ywhen,YGUARD,YDOES,ySc,YROWS] else [YMODES])
 else if y=YMODES then some (if isW t ydefault then [ydefault,YMODE,YMODES] else if isW t ymode then [YMODE,YMODES] else [yRb])
 else if y=YDOES then some (if isW t yto then [yto,YNAME] else [ystay])
 else if y=YGUARD then some [YCONJ,YORS]
 else if y=YORS then some (if isW t yor then [yor,YCONJ,YORS] else [])
 else if y=YCONJ then some [YUNIT,YANDS]
 else if y=YANDS then some (if isW t yand then [yand,YUNIT,YANDS] else [])
 else if y=YUNIT then some (if isW t ynot then [ynot,YUNIT] else if isS t yLp then [yLp,YGUARD,yRp] else if isW t ytrue then [ytrue] else if isW t ywas then [ywas,YNAME,YOP,YINT] else [YNAME,YOP,YINT])
 else none
def fitsP (y:List UInt8) (t:Tok):Bool :=
 if y=YNAME then t.k == 110
 else if y=YINT then t.k == 105
 else if y=YOP then t.k == 115 && wOps.contains t.s.data.toList
 else (t.k == 119 || t.k == 115) && t.s.data.toList == y
def runF:Nat->List (List UInt8)->List Tok->Option Nat
 | 0,_,_=>none
 | _+1,[],ts=>match ts with
  | []=>none
  | t::_=>some (if t.k=101 then 0 else t.line)
 | f+1,y::rest,ts=>match ts with
  | []=>none
  | t::r=>match becomesP y t with
   | some m=>runF f (m++rest) (t::r)
   | none=>if fitsP y t then runF f rest r else some t.line
structure TokOk (t:Tok):Prop where
 size:t.s.size<=8
 blank:32 ∉ t.s.data.toList
 lo : -9999<=t.n
 hi:t.n<=9999
 line:t.line<=3001
 kind:t.k<256
end Hx
end
section
namespace Hx
structure VarP where
 name:ByteArray
 lo:Int
 hi:Int
structure RowP where
 to:ByteArray
 line:Nat
structure ModeP where
 name:ByteArray
 line:Nat
 outer:Int
 dflt:Bool
 rows:List RowP
structure St where
 vars:List VarP
 modes:List ModeP
 atoms:List (List Tok)
 rows:Nat
 code:Nat
 line:Nat
def St.zero:St:=⟨[],[],[],0,0,0⟩
def St.wrong (s:St) (is:Bool) (code line:Nat):St:=if is && s.code == 0 then { s with code:=code,line:=line } else s
def St.hasVar (s:St) (n:ByteArray):Bool:=(s.vars.map (·.name)).any fun a=>a.toList == n.toList
def St.hasMode (s:St) (n:ByteArray):Bool:=(s.modes.map (·.name)).any fun a=>a.toList == n.toList
def badInt (n least:Int):Bool:=decide (1000<n) || decide (n < -1000) || decide (n<least)
def St.number (s:St) (t:Tok) (least:Int):St:=s.wrong (badInt t.n least) 4 t.line
def sameTok (a b:Tok):Bool:=a.k == b.k && a.s.toList == b.s.toList
def sameToks:List Tok->List Tok->Bool
 | [],[]=>true
 | a::r,b::q=>sameTok a b && sameToks r q
 | _,_=>false
def St.atom (s:St) (l:List Tok) (nm num:Tok):St :=
 if s.atoms.any (fun a=>sameToks a l) then s
 else
  let s1:=s.wrong (s.atoms.length == 8) 1 nm.line
  let s2:=s1.wrong (!s.hasVar nm.s) 3 nm.line
  let s3:=s2.number num (-1000)
  { s3 with atoms:=s3.atoms++[l] }
theorem any_hit {α : Type} (p : α -> Bool) (l:List α) (i:Nat) (h:i<l.length) (e:p l[i]=true):(l.drop i).any p=true:=by
 rw [List.drop_eq_getElem_cons h,List.any_cons,e];rfl
theorem any_step {α : Type} (p : α -> Bool) (l:List α) (i:Nat) (h:i<l.length) (e:p l[i]=false):(l.drop i).any p=(l.drop (i+1)).any p:=by
 rw [List.drop_eq_getElem_cons h,List.any_cons,e];rfl
theorem any_end {α : Type} (p : α -> Bool) (l:List α) (i:Nat) (h:l.length<=i):(l.drop i).any p=false:=by
 rw [List.drop_of_length_le h];rfl
theorem St.wrong_vars (s:St) (b:Bool) (c l:Nat):(s.wrong b c l).vars=s.vars:=by unfold St.wrong;split <;> rfl
theorem St.wrong_modes (s:St) (b:Bool) (c l:Nat):(s.wrong b c l).modes=s.modes:=by unfold St.wrong;split <;> rfl
theorem St.wrong_atoms (s:St) (b:Bool) (c l:Nat):(s.wrong b c l).atoms=s.atoms:=by unfold St.wrong;split <;> rfl
theorem St.wrong_rows (s:St) (b:Bool) (c l:Nat):(s.wrong b c l).rows=s.rows:=by unfold St.wrong;split <;> rfl
theorem St.number_vars (s:St) (t:Tok) (x:Int):(s.number t x).vars=s.vars:=St.wrong_vars _ _ _ _
theorem St.number_modes (s:St) (t:Tok) (x:Int):(s.number t x).modes=s.modes:=St.wrong_modes _ _ _ _
theorem St.number_atoms (s:St) (t:Tok) (x:Int):(s.number t x).atoms=s.atoms:=St.wrong_atoms _ _ _ _
theorem St.number_rows (s:St) (t:Tok) (x:Int):(s.number t x).rows=s.rows:=St.wrong_rows _ _ _ _
theorem St.atom_new (s:St) (l:List Tok) (nm num:Tok) (h:s.atoms.any (fun a=>sameToks a l)=false) :
  s.atom l nm num={ (((s.wrong (s.atoms.length == 8) 1 nm.line).wrong (!s.hasVar nm.s) 3 nm.line).number num (-1000)) with atoms:=(((s.wrong (s.atoms.length == 8) 1 nm.line).wrong (!s.hasVar nm.s) 3 nm.line).number num (-1000)).atoms++[l] }:=by
 unfold St.atom;rw [if_neg (by simp [h])]
def wSkip:List (List UInt8):=[[97,110,100],[111,114],[110,111,116],[119,97,115],[116,114,117,101]]
def gF:Nat->Tok->List Tok->Int->St->Option (St×List Tok)
 | 0,_,_,_,_=>none
 | _+1,_,[],_,_=>none
 | f+1,prev,t::r,deep,s =>
  if isS t yLp then gF f t r (deep+1) (s.wrong (deep == 6) 1 t.line)
  else if isS t yRp then gF f t r (deep-1) s
  else if t.k=110 then match r with
   | a::b::r'=>gF f b r' deep (s.atom (if isW prev ywas then [prev,t,a,b] else [t,a,b]) t b)
   | _=>none
  else if t.k == 119 && wSkip.contains t.s.data.toList then gF f t r deep s
  else some (s,t::r)
theorem St.atom_vars (s:St) (l:List Tok) (a b:Tok):(s.atom l a b).vars=s.vars:=by
 unfold St.atom;split
 ·rfl
 ·simp only [St.number_vars,St.wrong_vars]
theorem St.atom_modes (s:St) (l:List Tok) (a b:Tok):(s.atom l a b).modes=s.modes:=by
 unfold St.atom;split
 ·rfl
 ·simp only [St.number_modes,St.wrong_modes]
theorem St.atom_rows (s:St) (l:List Tok) (a b:Tok):(s.atom l a b).rows=s.rows:=by
 unfold St.atom;split
 ·rfl
 ·simp only [St.number_rows,St.wrong_rows]
theorem St.atom_len (s:St) (l:List Tok) (a b:Tok):(s.atom l a b).atoms.length<=s.atoms.length+1:=by
 unfold St.atom;split
 ·omega
 ·simp [St.number_atoms,St.wrong_atoms]
def addRow (ms:List ModeP) (i:Nat) (r:RowP):List ModeP:=ms.modify i (fun m=>{ m with rows:=m.rows++[r] })
def St.addVar (s:St) (a b d:Tok):St :=
 let s4:=(((s.wrong (s.vars.length == 3) 1 a.line).wrong (s.hasVar a.s) 3 a.line).number b (-1000)).number d b.n
 { s4 with vars:=s4.vars++[⟨a.s,b.n,d.n⟩] }
def St.addMode (s:St) (a:Tok) (inn deep:Int) (dear:Bool):St :=
 let s2:=(s.wrong (s.modes.length == 12 || deep == 6) 1 a.line).wrong (s.hasMode a.s) 3 a.line
 { s2 with modes:=s2.modes++[⟨a.s,a.line,inn,dear,[]⟩] }
def St.addWhen (s:St) (t:Tok):St:=let s1:=s.wrong (s.rows == 24) 1 t.line;{ s1 with rows:=s1.rows+1 }
def senF:Nat->List Tok->Int->Int->Bool->St->Option St
 | 0,_,_,_,_,_=>none
 | _+1,[],_,_,_,_=>none
 | f+1,t::r,inn,deep,dear,s =>
  if t.k=101 then some s
  else if t.s.toList == yvar then match r with
   | a::b::_::d::_::r'=>senF f r' inn deep dear (s.addVar a b d)
   | _=>none
  else if t.s.toList == ydefault then senF f r inn deep true s
  else if t.s.toList == ymode then match r with
   | a::_::r'=>senF f r' s.modes.length (deep+1) false (s.addMode a inn deep dear)
   | _=>none
  else if t.s.toList == ywhen then
   if 0<=inn/\inn<s.modes.length then
    match gF f t r 0 (s.addWhen t) with
    | some (s2,d::a::r') =>
     if d.s.toList == yto then match r' with
      | _::r''=>senF f r'' inn deep dear { s2 with modes:=addRow s2.modes inn.toNat ⟨a.s,a.line⟩ }
      | []=>none
     else senF f r' inn deep dear { s2 with modes:=addRow s2.modes inn.toNat ⟨⟨#[]⟩,0⟩ }
    | _=>none
   else none
  else if h:0<=inn/\inn.toNat<s.modes.length then senF f r (s.modes[inn.toNat]'h.2).outer (deep-1) dear s
  else none
section
variable {f:Nat} {t:Tok} {r:List Tok} {inn deep:Int} {dear:Bool} {s S:St}
theorem sen_end (h:senF (f+1) (t::r) inn deep dear s=some S) (h1:t.k=101):s=S:=by
 simp only [senF,if_pos h1,Option.some.injEq] at h;exact h
theorem sen_var (h:senF (f+1) (t::r) inn deep dear s=some S) (h1:¬ t.k=101) (e1:(t.s.toList == yvar)=true) :
  ∃ a b c d e r',r=a::b::c::d::e::r'/\senF f r' inn deep dear (s.addVar a b d)=some S:=by
 simp only [senF,if_neg h1,e1,if_true] at h;split at h
 ·exact ⟨_,_,_,_,_,_,rfl,h⟩
 ·cases h
theorem sen_default (h:senF (f+1) (t::r) inn deep dear s=some S) (h1:¬ t.k=101) (e1:(t.s.toList == yvar)=false) (e2:(t.s.toList == ydefault)=true):senF f r inn deep true s=some S:=by
 simpa only [senF,if_neg h1,e1,e2,if_true,Bool.false_eq_true,if_false] using h
theorem sen_mode (h:senF (f+1) (t::r) inn deep dear s=some S) (h1:¬ t.k=101) (e1:(t.s.toList == yvar)=false) (e2:(t.s.toList == ydefault)=false) (e3:(t.s.toList == ymode)=true) :
  ∃ a b r',r=a::b::r'/\senF f r' s.modes.length (deep+1) false (s.addMode a inn deep dear)=some S:=by
 simp only [senF,if_neg h1,e1,e2,e3,if_true,Bool.false_eq_true,if_false] at h;split at h
 ·exact ⟨_,_,_,rfl,h⟩
 ·cases h
theorem sen_when (h:senF (f+1) (t::r) inn deep dear s=some S) (h1:¬ t.k=101) (e1:(t.s.toList == yvar)=false) (e2:(t.s.toList == ydefault)=false) (e3:(t.s.toList == ymode)=false) (e4:(t.s.toList == ywhen)=true) :
  0<=inn/\inn<s.modes.length/\∃ s2 d a r',gF f t r 0 (s.addWhen t)=some (s2,d::a::r') /\
   (((d.s.toList == yto)=true/\∃ b r'',r'=b::r''/\senF f r'' inn deep dear { s2 with modes:=addRow s2.modes inn.toNat ⟨a.s,a.line⟩ }=some S) \/
    ((d.s.toList == yto)=false/\senF f r' inn deep dear { s2 with modes:=addRow s2.modes inn.toNat ⟨⟨#[]⟩,0⟩ }=some S)):=by
 simp only [senF,if_neg h1,e1,e2,e3,e4,if_true,Bool.false_eq_true,if_false] at h;split at h
 ·rename_i hin
  refine ⟨hin.1,hin.2,?_⟩;split at h
  ·rename_i s2 d a r' hg
   refine ⟨s2,d,a,r',hg,?_⟩;split at h
   ·rename_i hd
    split at h
    ·exact .inl ⟨hd,_,_,rfl,h⟩
    ·cases h
   ·rename_i hd;exact .inr ⟨by simpa using hd,h⟩
  ·cases h
 ·cases h
theorem sen_shut (h:senF (f+1) (t::r) inn deep dear s=some S) (h1:¬ t.k=101) (e1:(t.s.toList == yvar)=false) (e2:(t.s.toList == ydefault)=false) (e3:(t.s.toList == ymode)=false) (e4:(t.s.toList == ywhen)=false) :
  ∃ (_:0<=inn) (h2:inn.toNat<s.modes.length),senF f r (s.modes[inn.toNat]'h2).outer (deep-1) dear s=some S:=by
 simp only [senF,if_neg h1,e1,e2,e3,e4,Bool.false_eq_true,if_false] at h;split at h
 ·rename_i hin;exact ⟨hin.1,hin.2,h⟩
 ·cases h
end
end Hx
end
section
def linkRows (s0:Hx.St) (s:Hx.St) (m:Hx.ModeP):Hx.St:=m.rows.foldl (fun s r=>s.wrong (!(r.to.toList == []) && !(s0.hasMode r.to)) 3 r.line) s
def linkT (s0:Hx.St) (s:Hx.St) (i:Nat) (m:Hx.ModeP):Hx.St :=
 s.wrong (decide (0<(s0.modes.filter fun k=>decide (k.outer=(i:Int))).length) && decide (((s0.modes.filter fun k=>decide (k.outer=(i:Int))).filter fun k=>k.dflt).length≠1)) 5 m.line
def linkTs (s0:Hx.St):Nat->List Hx.ModeP->Hx.St->Hx.St
 | _,[],s=>s
 | i,m::r,s=>linkTs s0 (i+1) r (linkT s0 s i m)
def linkS (s0:Hx.St):Hx.St:=linkTs s0 0 s0.modes (s0.modes.foldl (linkRows s0) s0)
end
end Go.Proofs.YtdjaiolfdbamcaaGreatDoor
