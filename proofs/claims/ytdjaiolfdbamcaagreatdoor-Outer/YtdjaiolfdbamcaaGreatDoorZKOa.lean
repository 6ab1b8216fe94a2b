/- The sum of 32 bits, bit by bit: a row of at most 32 turned bits changes it; nothing of the program is asked here. -/
import Derived.Test.YtdjaiolfdbamcaaGreatDoorZBase
import Derived.Test.YtdjaiolfdbamcaaGreatDoorZCA
import Derived.Test.YtdjaiolfdbamcaaGreatDoorZMRd
import Derived.Test.YtdjaiolfdbamcaaGreatDoorZWCFJ
import Derived.Test.YtdjaiolfdbamcaaGreatDoorZWCE7
import Derived.Test.YtdjaiolfdbamcaaGreatDoorZCFind
import Derived.Test.YtdjaiolfdbamcaaGreatDoorZPRound
import Derived.Test.YtdjaiolfdbamcaaGreatDoorProg
import Derived.Lib.ConvBytes
import Derived.KernelRfl
set_option maxRecDepth 20000
set_option maxHeartbeats 400000
namespace Go.Proofs.YtdjaiolfdbamcaaGreatDoor
namespace Kx
end Kx
end Go.Proofs.YtdjaiolfdbamcaaGreatDoor
/- The program's sum,by its bits: two texts with their sums do not differ in a row of at most 32 bits;nothing of the program is asked here. -/
namespace Go.Proofs.YtdjaiolfdbamcaaGreatDoor
namespace Kx
end Kx
end Go.Proofs.YtdjaiolfdbamcaaGreatDoor
/- An image that was written reads as it was,a front of it does not read;nothing of the program is asked here. -/
namespace Go.Proofs.YtdjaiolfdbamcaaGreatDoor
namespace Mx
def enc2 (n:Int):List UInt8:=[UInt8.ofNat (n/1 % 256).toNat,UInt8.ofNat (n/256 % 256).toNat]
def encV (p:Int×Int):List UInt8:=enc2 p.1++enc2 p.2
def encL (p:List UInt8×List UInt8):List UInt8:=UInt8.ofNat p.1.length::(p.1++(enc2 p.2.length++p.2))
def encB (im:Img):List UInt8:=hd++(UInt8.ofNat im.vars.length::(im.vars.flatMap encV++(UInt8.ofNat im.leaves.length::UInt8.ofNat im.first::im.leaves.flatMap encL)))
theorem ofNat_toNat {n:Nat} (h:n<256):(UInt8.ofNat n).toNat=n:=by rw [UInt8.toNat_ofNat',Nat.mod_eq_of_lt h]
theorem two_enc (n:Int) (h1 : -32768≤n) (h2:n<65536):two (UInt8.ofNat (n/1 % 256).toNat) (UInt8.ofNat (n/256 % 256).toNat)=(n % 65536).toNat:=by
 unfold two
 rw [ofNat_toNat (by omega),ofNat_toNat (by omega)]
 omega
theorem sgn_enc (n:Int) (h1 : -32768≤n) (h2:n<32768):sgn (n % 65536).toNat=n:=by
 unfold sgn
 split <;> omega
theorem rd_take (l m:List UInt8) (b:Bool):(Rd.mk (l++m) b).take l.length=(l,⟨m,b⟩):=by
 unfold Rd.take
 rw [if_neg (by simp)]
 simp
theorem rd_one (x:UInt8) (m:List UInt8) (b:Bool):(Rd.mk (x::m) b).one=(x.toNat,⟨m,b⟩):=by
 have:=rd_take [x] m b
 unfold Rd.one
 rw [show (Rd.mk (x::m) b).take 1=([x],⟨m,b⟩) from this];rfl
theorem rd_two (n:Int) (h1 : -32768≤n) (h2:n<65536) (m:List UInt8) (b:Bool):(Rd.mk (enc2 n++m) b).two=((n % 65536).toNat,⟨m,b⟩):=by
 have:=rd_take (enc2 n) m b
 unfold Rd.two
 rw [show (Rd.mk (enc2 n++m) b).take 2=(enc2 n,⟨m,b⟩) from this]
 show (two (UInt8.ofNat (n/1 % 256).toNat) (UInt8.ofNat (n/256 % 256).toNat),_)=_
 rw [two_enc n h1 h2]
theorem rd_count (x most:Nat) (hx:x≤most) (hm:most<256) (m:List UInt8) (b:Bool):(Rd.mk (UInt8.ofNat x::m) b).count most=(x,⟨m,b⟩):=by
 unfold Rd.count
 rw [rd_one,ofNat_toNat (by omega)]
 rw [if_neg (by simp;omega)]
theorem rd_var (p:Int×Int) (h : -32768≤p.1∧p.1<32768 ∧ -32768≤p.2∧p.2<32768) (m:List UInt8) (b:Bool):(Rd.mk (encV p++m) b).var=(p,⟨m,b⟩):=by
 unfold Rd.var encV
 rw [List.append_assoc,rd_two p.1 h.1 (by omega)]
 simp only
 rw [rd_two p.2 h.2.2.1 (by omega)]
 simp only
 rw [sgn_enc _ h.1 h.2.1,sgn_enc _ h.2.2.1 h.2.2.2]
theorem rd_leaf (p:List UInt8×List UInt8) (h1:p.1.length≤8) (h2:p.2.length<65536) (m:List UInt8) (b:Bool):(Rd.mk (encL p++m) b).leaf=(p,⟨m,b⟩):=by
 unfold Rd.leaf encL
 rw [List.cons_append,rd_count _ 8 h1 (by decide)]
 simp only
 rw [List.append_assoc,rd_take]
 simp only
 rw [List.append_assoc,rd_two _ (by omega) (by omega)]
 simp only
 rw [show ((p.2.length:Int) % 65536).toNat=p.2.length by omega,rd_take]
theorem rd_many {α : Type} (f:Rd → α × Rd) (enc : α → List UInt8) (P : α → Prop) (hf:∀ x,P x→∀ m b,f ⟨enc x++m,b⟩=(x,⟨m,b⟩)):∀ (l:List α),(∀ x∈l,P x)→∀ m b,many f l.length ⟨l.flatMap enc++m,b⟩=(l,⟨m,b⟩)
 | [],_,m,b=>by simp [many]
 | x::l,h,m,b=>by
  rw [List.flatMap_cons,List.append_assoc,List.length_cons,many,hf x (h x (by simp))]
  simp only
  rw [rd_many f enc P hf l (fun y hy=>h y (by simp [hy]))]
structure Img.Room (im:Img):Prop where
 vars:im.vars.length≤3
 leaves:im.leaves.length≤12
 first:im.first<im.leaves.length
 num:∀ p∈im.vars,-32768≤p.1∧p.1<32768 ∧ -32768≤p.2∧p.2<32768
 leaf:∀ p∈im.leaves,p.1.length≤8∧p.2.length<65536
theorem read_more {im:Img} (h:im.Room) (m:List UInt8):(Rd.mk (encB im++m) false).image=(im,⟨m,false⟩):=by
 have e0:encB im++m=hd++(UInt8.ofNat im.vars.length::(im.vars.flatMap encV++(UInt8.ofNat im.leaves.length::UInt8.ofNat im.first::(im.leaves.flatMap encL++m)))):=by simp [encB]
 have a1:(Rd.mk (encB im++m) false).afterHead=⟨UInt8.ofNat im.vars.length::(im.vars.flatMap encV++(UInt8.ofNat im.leaves.length::UInt8.ofNat im.first::(im.leaves.flatMap encL++m))),false⟩:=by
  unfold Rd.afterHead
  rw [e0,show (5:Nat)=hd.length from rfl,rd_take]
  simp
 have a2:(Rd.mk (encB im++m) false).vs=(im.vars,⟨UInt8.ofNat im.leaves.length::UInt8.ofNat im.first::(im.leaves.flatMap encL++m),false⟩):=by
  unfold Rd.vs
  rw [a1,rd_count _ 3 h.vars (by decide)]
  simp only
  exact rd_many Rd.var encV _ (fun x hx m b=>rd_var x hx m b) im.vars h.num _ _
 have a3:(Rd.mk (encB im++m) false).nl=(im.leaves.length,⟨UInt8.ofNat im.first::(im.leaves.flatMap encL++m),false⟩):=by
  unfold Rd.nl
  rw [a2,rd_count _ 12 h.leaves (by decide)]
 have a4:(Rd.mk (encB im++m) false).fst=(im.first,⟨im.leaves.flatMap encL++m,false⟩):=by
  unfold Rd.fst
  have:=h.first
  have:=h.leaves
  rw [a3,rd_one,ofNat_toNat (by omega)]
 have a5:(Rd.mk (encB im++m) false).ls=(im.leaves,⟨m,false⟩):=by
  unfold Rd.ls
  have:=h.first
  rw [a3,a4]
  simp only [Rd.mark]
  rw [decide_eq_false (by omega)]
  exact rd_many Rd.leaf encL (fun p=>p.1.length≤8∧p.2.length<65536) (fun x hx m b=>rd_leaf x hx.1 hx.2 m b) im.leaves h.leaf _ _
 unfold Rd.image
 rw [a2,a4,a5]
theorem read_whole {im:Img} (h:im.Room):(Rd.mk (encB im) false).image=(im,⟨[],false⟩):=by
 have:=read_more h []
 rwa [List.append_nil] at this
end Mx
end Go.Proofs.YtdjaiolfdbamcaaGreatDoor
/- Images that were written: as they are they load;cut,longer or turned they do not;nothing of the program is asked here. -/
namespace Go.Proofs.YtdjaiolfdbamcaaGreatDoor
namespace Mx
def encI (im:Img):List UInt8:=encB im++Cx.sumCode (encB im)
theorem sum_len (l:List UInt8):(Cx.sumCode l).length=4:=rfl
theorem encI_len (im:Img):(encI im).length=(encB im).length+4:=by unfold encI;rw [List.length_append,sum_len]
theorem decode_enc {im:Img} (h:im.Room) (hl:(encI im).length≤60000):decode (encI im)=some im:=by
 have hlen:=encI_len im
 have ht:(encI im).take ((encI im).length-4)=encB im:=by rw [hlen];unfold encI;simp
 have hd:(encI im).drop ((encI im).length-4)=Cx.sumCode (encB im):=by rw [hlen];unfold encI;simp
 unfold decode
 rw [if_neg (by rw [ht,hd];simp;omega),ht]
 simp only
 rw [read_whole h]
 simp
theorem load_enc {im:Img} (h:im.Room) (hl:(encI im).length≤60000) (hr:∀ l∈im.leaves,isRight l.2 im.leaves.length (2*im.vars.length)=true):load (encI im)=some im:=by
 unfold load
 rw [decode_enc h hl]
 simp only
 rw [if_pos (List.all_eq_true.2 hr)]
end Mx
end Go.Proofs.YtdjaiolfdbamcaaGreatDoor
/- Programs that rows make are right;nothing of the program is asked here. -/
namespace Go.Proofs.YtdjaiolfdbamcaaGreatDoor
namespace Mx
inductive Flow (p:List UInt8) (L N:Nat):Nat→Aw→Nat→Aw→Prop
 | refl (k:Nat) (a:Aw):Flow p L N k a k a
 | step {k k1 k2:Nat} {a a1 a2:Aw} (hk:k<p.length) (h:goOver p L N k a=some (k1,a1)) (f:Flow p L N k1 a1 k2 a2):Flow p L N k a k2 a2
theorem Flow.trans {p:List UInt8} {L N k k1 k2:Nat} {a a1 a2:Aw} (h:Flow p L N k a k1 a1) (g:Flow p L N k1 a1 k2 a2):Flow p L N k a k2 a2:=by
 induction h with
 | refl=>exact g
 | step hk h _ ih=>exact .step hk h (ih g)
theorem Flow.right {p:List UInt8} {L N k k2:Nat} {a a2:Aw} (h:Flow p L N k a k2 a2):∀ f,k2=p.length→a2=[]→p.length<f+k→rightF p L N f k a=true:=by
 induction h with
 | refl k a =>
  intro f e1 e2 hf
  subst e1 e2
  cases f with
  | zero=>omega
  | succ f=>simp [rightF]
 | step hk h _ ih =>
  intro f e1 e2 hf
  have hg:=goOver_gt h
  cases f with
  | zero=>omega
  | succ f =>
   simp only [rightF]
   rw [if_pos hk,h]
   exact ih f e1 e2 (by omega)
theorem flow_right {p:List UInt8} {L N:Nat} (h:Flow p L N 0 [(0,0)] p.length []):isRight p L N=true:=h.right _ rfl rfl (by omega)
theorem get_one (k c:Nat):Aw.get [(k,c)] k=some c:=by simp [Aw.get]
theorem del_one (k c:Nat):Aw.del [(k,c)] k=[]:=by simp [Aw.del]
theorem over_plain {p:List UInt8} {L N k c:Nat} {s:Shape} (hs:shapeOf (p.getD k 0)=some s) (hl:k+1+s.width≤p.length) (hc:s.takes≤c) (hn:named p L N k=true) (he:s.ends=false) (h2:p.getD k 0≠2) (h32:c-s.takes+s.puts≤32) :
  goOver p L N k [(k,c)]=some (k+1+s.width,[(k+1+s.width,c-s.takes+s.puts)]):=by
 unfold goOver
 rw [hs,get_one]
 simp only
 rw [if_neg (by rw [hn];simp;omega),if_neg (by simp [he]),if_neg h2,del_one]
 simp only [come]
 rw [if_neg (by omega)]
 simp [Aw.get,Aw.set,Aw.del]
theorem at_pre {pre c post:List UInt8} (i:Nat) (hi:i<c.length):(pre++c++post).getD (pre.length+i) 0=c[i]:=by
 rw [List.getD_eq_getElem?_getD,List.append_assoc,List.getElem?_append_right (by omega),List.getElem?_append_left (by omega)]
 simp [hi]
inductive GC (N:Nat):Nat→List UInt8→Prop
 | yes:GC N 1 [6]
 | ask {b wh lo hi:UInt8} (hb:b=7∨b=8) (hw:wh.toNat<N):GC N 1 [b,wh,lo,hi]
 | turn {n:Nat} {c:List UInt8} (h:GC N n c):GC N n (c++[5])
 | two {n m:Nat} {c d:List UInt8} {b:UInt8} (hb:b=3∨b=4) (h:GC N n c) (g:GC N m d):GC N (max n (m+1)) (c++d++[b])
theorem GC.pos {N n:Nat} {c:List UInt8} (h:GC N n c):1≤n:=by
 induction h <;> omega
theorem named_other {p:List UInt8} {L N k:Nat} (h1:p.getD k 0≠1) (h7:p.getD k 0≠7) (h8:p.getD k 0≠8):named p L N k=true:=by
 unfold named
 rw [if_neg h1,if_neg (fun h=>h.elim h7 h8)]
theorem flow_guard {L N n:Nat} {c:List UInt8} (h:GC N n c):∀ (pre post:List UInt8) (d:Nat),d+n≤32→Flow (pre++c++post) L N pre.length [(pre.length,d)] (pre.length+c.length) [(pre.length+c.length,d+1)]:=by
 induction h with
 | yes =>
  intro pre post d hd
  have h0:(pre++[6]++post).getD pre.length 0=6:=at_pre (c:=[6]) 0 (by simp)
  refine .step (by simp) (over_plain (s:=⟨0,0,1,false⟩) (by rw [h0];rfl) (by simp) (by simp) (named_other (by rw [h0];decide) (by rw [h0];decide) (by rw [h0];decide)) rfl (by rw [h0];decide) (by simp;omega)) ?_
  exact .refl _ _
 | @ask b wh lo hi hb hw =>
  intro pre post d hd
  have h0:(pre++[b,wh,lo,hi]++post).getD pre.length 0=b:=at_pre (c:=[b,wh,lo,hi]) 0 (by simp)
  have h1:(pre++[b,wh,lo,hi]++post).getD (pre.length+1) 0=wh:=at_pre (c:=[b,wh,lo,hi]) 1 (by simp)
  refine .step (by simp) (over_plain (s:=⟨3,0,1,false⟩) (by rw [h0];rcases hb with rfl | rfl <;> rfl) (by simp;omega) (by simp) ?_ rfl (by rw [h0];rcases hb with rfl | rfl <;> decide) (by simp;omega)) ?_
  ·unfold named
   rw [h0,h1,if_neg (by rcases hb with rfl | rfl <;> decide),if_pos hb]
   simpa using hw
  ·exact .refl _ _
 | @turn n c h ih =>
  intro pre post d hd
  have hp:=h.pos
  have f1:=ih pre ([5]++post) d hd
  have e1:pre++c++([5]++post)=pre++(c++[5])++post:=by simp
  rw [e1] at f1
  refine f1.trans ?_
  have h0:(pre++(c++[5])++post).getD (pre.length+c.length) 0=5:=by
   rw [at_pre (c:=c++[5]) c.length (by simp)];simp
  refine .step (by simp) (over_plain (s:=⟨0,1,1,false⟩) (by rw [h0];rfl) (by simp;omega) (by simp) (named_other (by rw [h0];decide) (by rw [h0];decide) (by rw [h0];decide)) rfl (by rw [h0];decide) (by simp;omega)) ?_
  have e2:pre.length+c.length+1+0=pre.length+(c++[5]).length:=by simp;omega
  show Flow _ _ _ (pre.length+c.length+1+0) [(pre.length+c.length+1+0,d+1-1+1)] _ _
  rw [e2]
  exact .refl _ _
 | @two n m c e b hb h g ih ig =>
  intro pre post d hd
  have hp:=h.pos
  have f1:=ih pre (e++[b]++post) d (by omega)
  have e1:pre++c++(e++[b]++post)=pre++(c++e++[b])++post:=by simp
  rw [e1] at f1
  refine f1.trans ?_
  have f2:=ig (pre++c) ([b]++post) (d+1) (by omega)
  have e2:pre++c++e++([b]++post)=pre++(c++e++[b])++post:=by simp
  rw [e2,List.length_append] at f2
  refine f2.trans ?_
  have h0:(pre++(c++e++[b])++post).getD (pre.length+c.length+e.length) 0=b:=by
   rw [Nat.add_assoc,at_pre (c:=c++e++[b]) (c.length+e.length) (by simp)];simp
  refine .step (by simp;omega) (over_plain (s:=⟨0,2,1,false⟩) (by rw [h0];rcases hb with rfl | rfl <;> rfl) (by simp;omega) (by simp) (named_other (by rw [h0];rcases hb with rfl | rfl <;> decide) (by rw [h0];rcases hb with rfl | rfl <;> decide) (by rw [h0];rcases hb with rfl | rfl <;> decide)) rfl (by rw [h0];rcases hb with rfl | rfl <;> decide) (by simp;omega)) ?_
  have e3:pre.length+c.length+e.length+1+0=pre.length+(c++e++[b]).length:=by simp;omega
  show Flow _ _ _ (pre.length+c.length+e.length+1+0) [(pre.length+c.length+e.length+1+0,d+1+1-2+1)] _ _
  rw [e3]
  exact .refl _ _
def EC (L:Nat) (e:List UInt8):Prop:=e=[0]∨∃ l:UInt8,e=[1,l]∧l.toNat<L
inductive RC (L N:Nat):List UInt8→Prop
 | mk {n:Nat} {c e:List UInt8} {lo hi:UInt8} (h:GC N n c) (hn:n≤32) (he:EC L e) (hl:Mx.two lo hi=e.length):RC L N (c++([2,lo,hi]++e))
theorem flow_row {L N:Nat} {r:List UInt8} (h:RC L N r) (pre post:List UInt8):Flow (pre++r++post) L N pre.length [(pre.length,0)] (pre.length+r.length) [(pre.length+r.length,0)]:=by
 obtain ⟨h,hn,he,hl⟩:=h
 rename_i n c e lo hi
 have hp:=h.pos
 have f1:=flow_guard (L:=L) h pre ([2,lo,hi]++e++post) 0 (by omega)
 have e1:pre++c++([2,lo,hi]++e++post)=pre++(c++([2,lo,hi]++e))++post:=by simp
 rw [e1] at f1
 refine f1.trans ?_
 obtain ⟨p,hpd⟩ : ∃ p,p=pre++(c++([2,lo,hi]++e))++post:=⟨_,rfl⟩
 have hat:∀ i,i<([2,lo,hi]++e).length→p.getD (pre.length+c.length+i) 0=([2,lo,hi]++e).getD i 0:=by
  intro i hi'
  rw [hpd,Nat.add_assoc,at_pre (c:=c++([2,lo,hi]++e)) (c.length+i) (by simp at hi' ⊢;omega),List.getElem_append_right (by omega),List.getD_eq_getElem?_getD,List.getElem?_eq_getElem hi']
  simp
 have hlen:pre.length+c.length+3+e.length≤p.length:=by rw [hpd];simp;omega
 rw [← hpd]
 clear hpd e1 f1
 have g0:p.getD (pre.length+c.length) 0=2:=hat 0 (by simp)
 have g1:p.getD (pre.length+c.length+1) 0=lo:=hat 1 (by simp)
 have g2:p.getD (pre.length+c.length+2) 0=hi:=hat 2 (by simp)
 have g3:∀ i,i<e.length→p.getD (pre.length+c.length+3+i) 0=e.getD i 0:=by
  intro i hi'
  have:=hat (3+i) (by simp;omega)
  rw [Nat.add_assoc,this,List.getD_eq_getElem?_getD,List.getD_eq_getElem?_getD,List.getElem?_append_right (by simp)]
  simp
 have hk:pre.length+(c++([2,lo,hi]++e)).length=pre.length+c.length+3+e.length:=by simp;omega
 rw [hk]
 clear hat hk
 generalize pre.length+c.length=k at *
 have he0:0<e.length:=by
  rcases he with rfl | ⟨l,rfl,_⟩ <;> simp
 refine .step (k1:=k+3) (a1:=[(k+3,0),(k+3+e.length,0)]) (by omega) ?_ ?_
 ·unfold goOver
  rw [g0,get_one]
  have hs:shapeOf 2=some ⟨2,1,0,false⟩:=rfl
  rw [hs]
  simp only
  rw [if_neg (by rw [named_other (by rw [g0];decide) (by rw [g0];decide) (by rw [g0];decide)];simp;omega),if_neg (by decide),if_pos trivial,del_one,g1,g2,hl]
  have hne:(k+3 == k+3+e.length)=false:=beq_eq_false_iff_ne.2 (by omega)
  have hne2:(k+3+e.length != k+3)=true:=bne_iff_ne.2 (by omega)
  simp [come,Aw.get,Aw.set,Aw.del,List.lookup,hne,show k+1+2=k+3 by omega,hne2]
 ·have hdel:Aw.del [(k+3,0),(k+3+e.length,0)] (k+3)=[(k+3+e.length,0)]:=by
   unfold Aw.del
   have hq:(k+3+e.length != k+3)=true:=bne_iff_ne.2 (by omega)
   simp only [List.filter,bne_self_eq_false,hq]
  rcases he with rfl | ⟨l,rfl,hlt⟩
  ·have q0:p.getD (k+3) 0=0:=g3 0 (by simp)
   refine .step (by simp at hlen;omega) (k1:=k+3+1) (a1:=[(k+3+1,0)]) ?_ (.refl _ _)
   unfold goOver
   rw [q0]
   have hs:shapeOf 0=some ⟨0,0,0,true⟩:=rfl
   rw [hs,show Aw.get [(k+3,0),(k+3 + [(0:UInt8)].length,0)] (k+3)=some 0 by simp [Aw.get]]
   simp only
   rw [if_neg (by rw [named_other (by rw [q0];decide) (by rw [q0];decide) (by rw [q0];decide)];simp at hlen ⊢;omega),if_pos trivial,hdel]
   rfl
  ·have q0:p.getD (k+3) 0=1:=g3 0 (by simp)
   have q1:p.getD (k+3+1) 0=l:=g3 1 (by simp)
   refine .step (by simp at hlen;omega) (k1:=k+3+2) (a1:=[(k+3+2,0)]) ?_ (.refl _ _)
   unfold goOver
   rw [q0]
   have hs:shapeOf 1=some ⟨1,0,0,true⟩:=rfl
   rw [hs,show Aw.get [(k+3,0),(k+3 + [(1:UInt8),l].length,0)] (k+3)=some 0 by simp [Aw.get]]
   simp only
   rw [if_neg (by
    have hn:named p L N (k+3)=true:=by
     unfold named
     rw [if_pos q0,q1];simpa using hlt
    rw [hn];simp at hlen ⊢;omega),if_pos trivial,hdel]
   rfl
theorem flow_rows {L N:Nat}:∀ (rs:List (List UInt8)),(∀ r∈rs,RC L N r)→∀ (pre post:List UInt8),Flow (pre++rs.flatten++post) L N pre.length [(pre.length,0)] (pre.length+rs.flatten.length) [(pre.length+rs.flatten.length,0)]
 | [],_,pre,post=>.refl _ _
 | r::rs,h,pre,post=>by
  have f1:=flow_row (h r (by simp)) pre (rs.flatten++post)
  have f2:=flow_rows rs (fun x hx=>h x (by simp [hx])) (pre++r) post
  rw [List.length_append] at f2
  have e1:pre++r++(rs.flatten++post)=pre++(r::rs).flatten++post:=by simp
  have e2:pre++r++rs.flatten++post=pre++(r::rs).flatten++post:=by simp
  have e3:pre.length+r.length+rs.flatten.length=pre.length+(r::rs).flatten.length:=by simp;omega
  rw [e1] at f1
  rw [e2,e3] at f2
  exact f1.trans f2
theorem rows_right {L N:Nat} (rs:List (List UInt8)) (h:∀ r∈rs,RC L N r):isRight (rs.flatten++[0]) L N=true:=by
 refine flow_right ?_
 have f:=flow_rows rs h [] [0]
 simp only [List.nil_append,List.length_nil,Nat.zero_add] at f
 refine f.trans ?_
 have h0:(rs.flatten++[0]).getD rs.flatten.length 0=(0:UInt8):=by simp
 refine .step (by simp) (k1:=(rs.flatten++[0]).length) (a1:=[]) ?_ (.refl _ _)
 unfold goOver
 rw [h0,get_one]
 have hs:shapeOf 0=some ⟨0,0,0,true⟩:=rfl
 rw [hs]
 simp only
 rw [if_neg (by rw [named_other (by rw [h0];decide) (by rw [h0];decide) (by rw [h0];decide)];simp),if_pos trivial,del_one]
 simp
end Mx
end Go.Proofs.YtdjaiolfdbamcaaGreatDoor
/- What programs that rows make do;nothing of the program is asked here. -/
namespace Go.Proofs.YtdjaiolfdbamcaaGreatDoor
namespace Mx
inductive GV (xs:List Int):Bool→List UInt8→Prop
 | yes:GV xs true [6]
 | less {wh lo hi:UInt8}:GV xs (decide (xs.getD wh.toNat 0<sgn (two lo hi))) [7,wh,lo,hi]
 | same {wh lo hi:UInt8}:GV xs (xs.getD wh.toNat 0 == sgn (two lo hi)) [8,wh,lo,hi]
 | turn {v:Bool} {c:List UInt8} (h:GV xs v c):GV xs (!v) (c++[5])
 | both {v u:Bool} {c d:List UInt8} (h:GV xs v c) (g:GV xs u d):GV xs (v && u) (c++d++[3])
 | some {v u:Bool} {c d:List UInt8} (h:GV xs v c) (g:GV xs u d):GV xs (v || u) (c++d++[4])
theorem runF_go {p:List UInt8} {xs:List Int} {k k' leaf leaf':Nat} {st st':List Bool} (f:Nat) (h:step p xs k st leaf=(k',st',leaf',false)):runF p xs (f+1) k st leaf=runF p xs f k' st' leaf':=by
 simp only [runF,h];rfl
theorem runF_end {p:List UInt8} {xs:List Int} {k k' leaf leaf':Nat} {st st':List Bool} (f:Nat) (h:step p xs k st leaf=(k',st',leaf',true)):runF p xs (f+1) k st leaf=leaf':=by
 simp only [runF,h];rfl
theorem run_guard {xs:List Int} {v:Bool} {c:List UInt8} (h:GV xs v c):∀ (pre post:List UInt8) (st:List Bool) (leaf:Nat),∃ n,n≤c.length∧∀ f,runF (pre++c++post) xs (f+n) pre.length st leaf=runF (pre++c++post) xs f (pre.length+c.length) (v::st) leaf:=by
 induction h with
 | yes =>
  intro pre post st leaf
  have h0:(pre++[6]++post).getD pre.length 0=6:=at_pre (c:=[6]) 0 (by simp)
  refine ⟨1,by simp,fun f=>runF_go f ?_⟩
  unfold step;simp only [h0];simp
 | @less wh lo hi =>
  intro pre post st leaf
  have h0:(pre++[7,wh,lo,hi]++post).getD pre.length 0=7:=at_pre (c:=[7,wh,lo,hi]) 0 (by simp)
  have h1:(pre++[7,wh,lo,hi]++post).getD (pre.length+1) 0=wh:=at_pre (c:=[7,wh,lo,hi]) 1 (by simp)
  have h2:(pre++[7,wh,lo,hi]++post).getD (pre.length+2) 0=lo:=at_pre (c:=[7,wh,lo,hi]) 2 (by simp)
  have h3:(pre++[7,wh,lo,hi]++post).getD (pre.length+3) 0=hi:=at_pre (c:=[7,wh,lo,hi]) 3 (by simp)
  refine ⟨1,by simp,fun f=>runF_go f ?_⟩
  unfold step;simp only [h0,h1,h2,h3];simp
 | @same wh lo hi =>
  intro pre post st leaf
  have h0:(pre++[8,wh,lo,hi]++post).getD pre.length 0=8:=at_pre (c:=[8,wh,lo,hi]) 0 (by simp)
  have h1:(pre++[8,wh,lo,hi]++post).getD (pre.length+1) 0=wh:=at_pre (c:=[8,wh,lo,hi]) 1 (by simp)
  have h2:(pre++[8,wh,lo,hi]++post).getD (pre.length+2) 0=lo:=at_pre (c:=[8,wh,lo,hi]) 2 (by simp)
  have h3:(pre++[8,wh,lo,hi]++post).getD (pre.length+3) 0=hi:=at_pre (c:=[8,wh,lo,hi]) 3 (by simp)
  refine ⟨1,by simp,fun f=>runF_go f ?_⟩
  unfold step;simp only [h0,h1,h2,h3];simp
 | @turn v c h ih =>
  intro pre post st leaf
  obtain ⟨n,hn,hr⟩:=ih pre ([5]++post) st leaf
  have e1:pre++c++([5]++post)=pre++(c++[5])++post:=by simp
  rw [e1] at hr
  have h0:(pre++(c++[5])++post).getD (pre.length+c.length) 0=5:=by
   rw [at_pre (c:=c++[5]) c.length (by simp)];simp
  refine ⟨n+1,by simp;omega,fun f=>?_⟩
  rw [show f+(n+1)=f+1+n by omega,hr]
  refine runF_go f ?_
  unfold step;simp only [h0];simp;omega
 | @both v u c d h g ih ig =>
  intro pre post st leaf
  obtain ⟨n,hn,hr⟩:=ih pre (d++[3]++post) st leaf
  obtain ⟨m,hm,hs⟩:=ig (pre++c) ([3]++post) (v::st) leaf
  have e1:pre++c++(d++[3]++post)=pre++(c++d++[3])++post:=by simp
  have e2:pre++c++d++([3]++post)=pre++(c++d++[3])++post:=by simp
  rw [e1] at hr
  rw [e2,List.length_append] at hs
  have h0:(pre++(c++d++[3])++post).getD (pre.length+c.length+d.length) 0=3:=by
   rw [Nat.add_assoc,at_pre (c:=c++d++[3]) (c.length+d.length) (by simp)];simp
  refine ⟨n+m+1,by simp;omega,fun f=>?_⟩
  rw [show f+(n+m+1)=f+1+m+n by omega,hr,hs]
  refine runF_go f ?_
  unfold step;simp only [h0];simp;omega
 | @some v u c d h g ih ig =>
  intro pre post st leaf
  obtain ⟨n,hn,hr⟩:=ih pre (d++[4]++post) st leaf
  obtain ⟨m,hm,hs⟩:=ig (pre++c) ([4]++post) (v::st) leaf
  have e1:pre++c++(d++[4]++post)=pre++(c++d++[4])++post:=by simp
  have e2:pre++c++d++([4]++post)=pre++(c++d++[4])++post:=by simp
  rw [e1] at hr
  rw [e2,List.length_append] at hs
  have h0:(pre++(c++d++[4])++post).getD (pre.length+c.length+d.length) 0=4:=by
   rw [Nat.add_assoc,at_pre (c:=c++d++[4]) (c.length+d.length) (by simp)];simp
  refine ⟨n+m+1,by simp;omega,fun f=>?_⟩
  rw [show f+(n+m+1)=f+1+m+n by omega,hr,hs]
  refine runF_go f ?_
  unfold step;simp only [h0];simp;omega
def endTo (leaf:Nat) (d:Option UInt8):Nat:=match d with | none=>leaf | some l=>l.toNat
def endC (d:Option UInt8):List UInt8:=match d with | none=>[0] | some l=>[1,l]
inductive RV (xs:List Int):Bool→Option UInt8→List UInt8→Prop
 | mk {v:Bool} {c:List UInt8} {d:Option UInt8} {lo hi:UInt8} (h:GV xs v c) (hl:two lo hi=(endC d).length):RV xs v d (c++([2,lo,hi]++endC d))
theorem run_row {xs:List Int} {v:Bool} {d:Option UInt8} {r:List UInt8} (h:RV xs v d r) (pre post:List UInt8) (leaf:Nat):∃ n,n≤r.length∧∀ f,runF (pre++r++post) xs (f+n) pre.length [] leaf=if v then endTo leaf d else runF (pre++r++post) xs f (pre.length+r.length) [] leaf:=by
 obtain ⟨h,hl⟩:=h
 rename_i c lo hi
 obtain ⟨n,hn,hr⟩:=run_guard h pre ([2,lo,hi]++endC d++post) [] leaf
 have e1:pre++c++([2,lo,hi]++endC d++post)=pre++(c++([2,lo,hi]++endC d))++post:=by simp
 rw [e1] at hr
 obtain ⟨p,hpd⟩ : ∃ p,p=pre++(c++([2,lo,hi]++endC d))++post:=⟨_,rfl⟩
 have hat:∀ i,i<([2,lo,hi]++endC d).length→p.getD (pre.length+c.length+i) 0=([2,lo,hi]++endC d).getD i 0:=by
  intro i hi'
  rw [hpd,Nat.add_assoc,at_pre (c:=c++([2,lo,hi]++endC d)) (c.length+i) (by simp at hi' ⊢;omega),List.getElem_append_right (by omega),List.getD_eq_getElem?_getD,List.getElem?_eq_getElem hi']
  simp
 rw [← hpd] at hr ⊢
 clear hpd e1
 have g0:p.getD (pre.length+c.length) 0=2:=hat 0 (by simp)
 have g1:p.getD (pre.length+c.length+1) 0=lo:=hat 1 (by simp)
 have g2:p.getD (pre.length+c.length+2) 0=hi:=hat 2 (by simp)
 have g3:∀ i,i<(endC d).length→p.getD (pre.length+c.length+3+i) 0=(endC d).getD i 0:=by
  intro i hi'
  have:=hat (3+i) (by simp;omega)
  rw [Nat.add_assoc,this,List.getD_eq_getElem?_getD,List.getD_eq_getElem?_getD,List.getElem?_append_right (by simp)]
  simp
 have hk:pre.length+(c++([2,lo,hi]++endC d)).length=pre.length+c.length+3+(endC d).length:=by simp;omega
 rw [hk]
 clear hat hk
 cases v with
 | true =>
  refine ⟨n+2,by simp;omega,fun f=>?_⟩
  rw [show f+(n+2)=f+1+1+n by omega,hr]
  generalize pre.length+c.length=k at *
  rw [runF_go (k':=k+3) (st':=[]) (leaf':=leaf) (f+1) (by unfold step;simp only [g0];simp)]
  cases d with
  | none =>
   have q0:p.getD (k+3) 0=0:=g3 0 (by simp [endC])
   rw [if_pos rfl]
   exact runF_end (k':=k+3+1) (st':=[]) f (by unfold step;simp only [q0];simp [endTo])
  | some l =>
   have q0:p.getD (k+3) 0=1:=g3 0 (by simp [endC])
   have q1:p.getD (k+3+1) 0=l:=g3 1 (by simp [endC])
   rw [if_pos rfl]
   exact runF_end (k':=k+3+2) (st':=[]) f (by unfold step;simp only [q0,q1];simp [endTo])
 | false =>
  refine ⟨n+1,by simp;omega,fun f=>?_⟩
  rw [show f+(n+1)=f+1+n by omega,hr]
  generalize pre.length+c.length=k at *
  rw [if_neg (by decide)]
  exact runF_go f (by unfold step;simp only [g0,g1,g2];simp [hl])
theorem run_rows {xs:List Int}:∀ (rs:List (Bool×Option UInt8×List UInt8)),(∀ r∈rs,RV xs r.1 r.2.1 r.2.2)→∀ (pre post:List UInt8) (leaf:Nat),∃ n,n≤(rs.map (·.2.2)).flatten.length∧∀ f,runF (pre++(rs.map (·.2.2)).flatten++post) xs (f+n) pre.length [] leaf=(match rs.find? (·.1) with | some r=>endTo leaf r.2.1 | none=>runF (pre++(rs.map (·.2.2)).flatten++post) xs f (pre.length+(rs.map (·.2.2)).flatten.length) [] leaf)
 | [],_,pre,post,leaf=>⟨0,by simp,fun f=>by simp⟩
 | r::rs,h,pre,post,leaf=>by
  obtain ⟨v,d,c⟩:=r
  obtain ⟨n,hn,h1⟩:=run_row (h (v,d,c) (by simp)) pre ((rs.map (·.2.2)).flatten++post) leaf
  obtain ⟨m,hm,h2⟩:=run_rows rs (fun x hx=>h x (by simp [hx])) (pre++c) post leaf
  simp only at h1 hn
  have e1:pre++c++((rs.map (·.2.2)).flatten++post)=pre++(((v,d,c)::rs).map (·.2.2)).flatten++post:=by simp
  have e2:pre++c++(rs.map (·.2.2)).flatten++post=pre++(((v,d,c)::rs).map (·.2.2)).flatten++post:=by simp
  have e3:pre.length+c.length+(rs.map (·.2.2)).flatten.length=pre.length+(((v,d,c)::rs).map (·.2.2)).flatten.length:=by simp;omega
  rw [e1] at h1
  rw [e2,List.length_append,e3] at h2
  refine ⟨m+n,by simp at hn hm ⊢;omega,fun f=>?_⟩
  rw [← Nat.add_assoc,h1]
  cases v with
  | true=>simp
  | false =>
   rw [if_neg (by decide),h2]
   rfl
theorem run_all {xs:List Int} (rs:List (Bool×Option UInt8×List UInt8)) (h:∀ r∈rs,RV xs r.1 r.2.1 r.2.2) (leaf:Nat):run ((rs.map (·.2.2)).flatten++[0]) xs leaf=(match rs.find? (·.1) with | some r=>endTo leaf r.2.1 | none=>leaf):=by
 obtain ⟨n,hn,hr⟩:=run_rows rs h [] [0] leaf
 simp only [List.nil_append,List.length_nil,Nat.zero_add] at hr
 unfold run
 obtain ⟨f,hf⟩ : ∃ f,((rs.map fun r:Bool×Option UInt8×List UInt8=>r.2.2).flatten++[(0:UInt8)]).length=f+1+n:=⟨(rs.map fun r=>r.2.2).flatten.length-n,by simp at hn ⊢;omega⟩
 rw [hf,hr]
 cases rs.find? (·.1) with
 | some r=>rfl
 | none =>
  have h0:((rs.map fun r:Bool×Option UInt8×List UInt8=>r.2.2).flatten++[(0:UInt8)]).getD (rs.map fun r:Bool×Option UInt8×List UInt8=>r.2.2).flatten.length 0=(0:UInt8):=by simp
  exact runF_end (k':=(rs.map fun r:Bool×Option UInt8×List UInt8=>r.2.2).flatten.length+1) (st':=[]) f (by unfold step;simp only [h0];simp)
end Mx
end Go.Proofs.YtdjaiolfdbamcaaGreatDoor
/- How many truths the code of a guard needs room for;nothing of the program is asked here. -/
namespace Go.Proofs.YtdjaiolfdbamcaaGreatDoor
open Hx
def need:G→Nat
 | .or l r=>max (need l) (need r+1)
 | .and l r=>max (need l) (need r+1)
 | .not g=>need g
 | .group _ g=>need g
 | .tru=>1
 | .atom _ _ _ _ _=>1
theorem der_need {L:Nat} {l l':List Hx.Tok} {g:G} (h:Der L l g l'):need g≤2*nest g+(if L=0 then 1 else if L≤2 then 2 else 3):=by
 induction h <;> simp [need,nest] at * <;> omega
def RowsIn (ms:List MA):Prop:=∀ m∈ms,∀ r∈m.rows,∃ l l',Der 4 l r.g l'
theorem rowsD_in {l l':List Hx.Tok} {rs:List RowA} (h:RowsD l rs l'):∀ r∈rs,∃ l l',Der 4 l r.g l':=by
 induction h with
 | nil=>intro r hr;cases hr
 | snoc h k ih =>
  intro r hr
  rcases List.mem_append.1 hr with hr | hr
  ·exact ih r hr
  ·obtain rfl:r=_:=List.mem_singleton.1 hr
   obtain ⟨l1,l2,_,_,hd,_⟩:=k
   exact ⟨l1,l2,hd⟩
theorem md_in {b:Bool} {l l':List Hx.Tok} {o:Int} {df:Bool} {d n:Nat} {ms:List MA} (h:MD b l o df d n ms l'):RowsIn ms:=by
 induction h with
 | none=>intro m hm;cases hm
 | dear _ _ _ ih ik =>
  intro m hm
  rcases List.mem_append.1 hm with hm | hm
  ·exact ih m hm
  ·exact ik m hm
 | more _ _ _ _ ih ik =>
  intro m hm
  rcases List.mem_append.1 hm with hm | hm
  ·exact ih m hm
  ·exact ik m hm
 | mode _ _ _ hr _ _ _ ih =>
  intro m hm
  rcases List.mem_cons.1 hm with rfl | hm
  ·exact rowsD_in hr
  ·exact ih m hm
end Go.Proofs.YtdjaiolfdbamcaaGreatDoor
/- The image of a table that is taken: as an image that loads;nothing of the program is asked here. -/
namespace Go.Proofs.YtdjaiolfdbamcaaGreatDoor
open Hx
def imgOf (vs:List VarA) (ms:List MA):Mx.Img:=⟨Cx.imVars vs,(Cx.leaves ms).map fun i=>((Cx.nameOf ms i).data.toList,Cx.program vs ms i),Cx.numberOf ms 0⟩
theorem imageOf_enc (vs:List VarA) (ms:List MA):Cx.imageOf vs ms=Mx.encI (imgOf vs ms):=by
 have hB:Cx.imBody vs ms=Mx.encB (imgOf vs ms):=by
  have h1:∀ l:List Nat,((l.map (Cx.imLeaf vs ms)).flatMap Cx.lfCode)=(l.map fun i=>((Cx.nameOf ms i).data.toList,Cx.program vs ms i)).flatMap Mx.encL:=by
   intro l
   induction l with
   | nil=>rfl
   | cons a t ih =>
    simp only [List.map_cons,List.flatMap_cons,ih]
    congr 1
    simp only [Cx.lfCode,Cx.imLeaf,Mx.encL,List.append_assoc]
    rfl
  have h2:∀ l:List (Int×Int),l.flatMap Cx.varCode=l.flatMap Mx.encV:=by
   intro l
   induction l with
   | nil=>rfl
   | cons a t ih=>simp only [List.flatMap_cons,ih];rfl
  unfold Cx.imBody Cx.encBody Mx.encB imgOf Cx.headCode
  rw [h1,h2]
  simp [Mx.hd]
 unfold Cx.imageOf Mx.encI
 rw [hB]
theorem num_lt {vs:List VarA} {gs:List MG} (h:TabOk vs gs) {i:Nat} (hi:i<gs.length):Cx.numberOf (gs.map (·.a)) i<(Cx.leaves (gs.map (·.a))).length :=
 List.findIdx_lt_length_of_exists ⟨_,enter_mem h _ i rfl hi,by simp⟩
theorem varIx_lt {vs:List VarA} {n:ByteArray} (h:vs.any (sameV n)=true):Cx.varIx vs n<vs.length:=by
 unfold Cx.varIx
 rw [List.any_eq_true] at h
 exact List.findIdx_lt_length_of_exists h
theorem gc_of {vs:List VarA} (hv:vs.length≤3):∀ (g:G),gOk vs g→Mx.GC (2*vs.length) (need g) (Cx.gCode vs g)
 | .or l r,h=>.two (.inr rfl) (gc_of hv l h.1) (gc_of hv r h.2)
 | .and l r,h=>.two (.inl rfl) (gc_of hv l h.1) (gc_of hv r h.2)
 | .not g,h=>.turn (gc_of hv g h)
 | .group _ g,h=>gc_of hv g h
 | .tru,_=>.yes
 | .atom w n o i _,h=>by
  have hx:=varIx_lt (show vs.any (sameV n.s)=true from h)
  have hw:(Cx.qOf vs w.isSome n o i).which<2*vs.length:=by
   simp only [Cx.qOf];split <;> omega
  simp only [Cx.gCode,Cx.Q.code,need]
  generalize Cx.qOf vs w.isSome n o i=q at *
  have hn:(UInt8.ofNat q.which).toNat<2*vs.length:=by rw [Mx.ofNat_toNat (by omega)];exact hw
  have ha:Mx.GC (2*vs.length) 1 ([if q.same then 8 else 7,UInt8.ofNat q.which]++Cx.two q.num):=.ask (by cases q.same <;> simp) hn
  unfold qCode
  cases q.turned with
  | true=>exact .turn ha
  | false=>simpa using ha
theorem rc_of {vs:List VarA} {gs:List MG} (hok:TabOk vs gs) (hl:(Cx.leaves (gs.map (·.a))).length≤12) (r:RowA) (hg:gOk vs r.g) (hn:need r.g≤32) (hd:destBad gs r=false):Mx.RC (Cx.leaves (gs.map (·.a))).length (2*vs.length) (Cx.rowCode vs (gs.map (·.a)) r):=by
 have hv:=hok.vars
 have he:Mx.EC (Cx.leaves (gs.map (·.a))).length (Cx.endCode (gs.map (·.a)) r):=by
  unfold Cx.endCode
  cases hx:r.dest with
  | none=>exact .inl rfl
  | some t =>
   refine .inr ⟨_,rfl,?_⟩
   have hm:Cx.modeIx (gs.map (·.a)) t.s<gs.length:=by
    unfold destBad at hd
    rw [hx] at hd
    have hd2:gs.any (sameM t.s)=true:=by simpa using hd
    obtain ⟨g,hg1,hg2⟩:=List.any_eq_true.1 hd2
    have:Cx.modeIx (gs.map (·.a)) t.s<(gs.map (·.a)).length:=List.findIdx_lt_length_of_exists ⟨g.a,List.mem_map.2 ⟨g,hg1,rfl⟩,hg2⟩
    simpa using this
   have:=num_lt hok hm
   rw [Mx.ofNat_toNat (by omega)]
   exact this
 have hlen:(Cx.endCode (gs.map (·.a)) r).length≤2:=by
  rcases he with e | ⟨l,e,_⟩ <;> rw [e] <;> simp
 have h2:=Mx.two_enc ((Cx.endCode (gs.map (·.a)) r).length:Int) (by omega) (by omega)
 have:=Mx.RC.mk (gc_of hv r.g hg) hn he (h2.trans (by omega))
 unfold Cx.rowCode
 rw [List.append_assoc,List.append_assoc]
 exact this
def progRows (vs:List VarA) (ms:List MA) (i:Nat):List (List UInt8):=(Cx.path ms i).flatMap fun j=>(Cx.rowsOf ms j).map (Cx.rowCode vs ms)
theorem program_rows (vs:List VarA) (ms:List MA) (i:Nat):Cx.program vs ms i=(progRows vs ms i).flatten++[0]:=by
 unfold Cx.program progRows
 congr 1
 generalize Cx.path ms i=l
 induction l with
 | nil=>rfl
 | cons a t ih=>simp only [List.flatMap_cons,List.flatten_append,ih];congr 1
theorem rowsOf_mem {ms:List MA} {j:Nat} {r:RowA} (h:r∈Cx.rowsOf ms j):∃ m∈ms,r∈m.rows:=by
 unfold Cx.rowsOf at h
 cases hx:ms[j]? with
 | none=>rw [hx] at h;cases h
 | some m=>rw [hx] at h;exact ⟨m,List.mem_of_getElem? hx,h⟩
theorem bad_in {n:Int} (h:badB n=false) : -1000≤n∧n≤1000:=by
 unfold badB at h
 simp at h
 omega
theorem leaves_le (ms:List MA):(Cx.leaves ms).length≤ms.length:=by
 unfold Cx.leaves Cx.leavesTo
 exact Nat.le_trans (List.length_filter_le _ _) (by simp)
theorem img_good {ts:List Hx.Tok} {vs:List VarA} {gs:List MG} (hD:TabD ts vs (gs.map (·.a))) (hL:Links gs) (h:TabAll vs gs):(imgOf vs (gs.map (·.a))).Room∧∀ l∈(imgOf vs (gs.map (·.a))).leaves,Mx.isRight l.2 (imgOf vs (gs.map (·.a))).leaves.length (2*(imgOf vs (gs.map (·.a))).vars.length)=true:=by
 have hok:=tab_ok hL h.fine h.some
 have hr:=tab_r h.fine
 obtain ⟨s,_,hrow⟩:=h.fine.row
 have hl12:(Cx.leaves (gs.map (·.a))).length≤12:=Nat.le_trans (leaves_le _) (by simpa using h.fine.modes)
 have hin:RowsIn (gs.map (·.a)):=by
  obtain ⟨t,m,e,r,hv,_,hm,_⟩:=hD
  exact md_in hm
 refine ⟨⟨?_,?_,?_,?_,?_⟩,?_⟩
 ·simpa [imgOf,Cx.imVars] using h.fine.vars
 ·simpa [imgOf] using hl12
 ·simpa [imgOf] using num_lt hok h.some
 ·intro p hp
  simp only [imgOf,Cx.imVars,List.mem_map] at hp
  obtain ⟨v,hv,rfl⟩:=hp
  obtain ⟨j,hj,rfl⟩:=List.getElem_of_mem hv
  obtain ⟨_,b1,b2,_⟩:=h.fine.var j hj
  have:=bad_in b1
  have:=bad_in b2
  simp only
  omega
 ·intro p hp
  simp only [imgOf,List.mem_map] at hp
  obtain ⟨i,hi,rfl⟩:=hp
  have hil:=leaf_lt hi
  refine ⟨?_,?_⟩
  ·simp only [Cx.nameOf]
   rw [List.getElem?_map,List.getElem?_eq_getElem hil]
   simp only [Option.map_some]
   exact h.names _ (List.getElem_mem hil)
  ·exact Nat.lt_of_le_of_lt (program_le vs hL hil) (by have:=h.total;omega)
 ·intro p hp
  have e1:(imgOf vs (gs.map (·.a))).leaves.length=(Cx.leaves (gs.map (·.a))).length:=by simp [imgOf]
  have e2:(imgOf vs (gs.map (·.a))).vars.length=vs.length:=by simp [imgOf,Cx.imVars]
  rw [e1,e2]
  simp only [imgOf,List.mem_map] at hp
  obtain ⟨i,hi,rfl⟩:=hp
  simp only
  rw [program_rows]
  refine Mx.rows_right _ (fun c hc=>?_)
  unfold progRows at hc
  obtain ⟨j,_,hc⟩:=List.mem_flatMap.1 hc
  obtain ⟨r,hr1,rfl⟩:=List.mem_map.1 hc
  obtain ⟨m,hm,hrm⟩:=rowsOf_mem hr1
  obtain ⟨g,hg,rfl⟩:=List.mem_map.1 hm
  obtain ⟨l,l',hder⟩:=hin g.a hm r hrm
  have hnd:=der_need hder
  have hdp:=h.deep g hg r hrm
  simp at hnd
  exact rc_of hok hl12 r (hrow g hg r hrm).1.ok (by omega) (hrow g hg r hrm).2
end Go.Proofs.YtdjaiolfdbamcaaGreatDoor
/- The walk of pick (of the statements' own): which of n things a raw number speaks of. -/
namespace Go.Proofs.YtdjaiolfdbamcaaGreatDoor
open Go.RowKit
namespace Kx
def pick (c:Int) (n:Nat):Nat:=((if c<0 then -(c+1) else c) % (n:Int)).toNat
theorem pick_lt (c:Int) (n:Nat) (h:0<n):pick c n<n:=by
 have h1:=Int.emod_nonneg (if c<0 then -(c+1) else c) (show (n:Int)≠0 by omega)
 have h2:=Int.emod_lt_of_pos (if c<0 then -(c+1) else c) (show (0:Int)<n by omega)
 unfold pick
 omega
end Kx
theorem pick_any (c:Int) (n:Nat) (w:World) (hc : -9223372036854775808≤c∧c≤9223372036854775807) (hn:0<n) (hn2:n≤1000000000000000000) :
  Calls Tryz.prog 19 #[.int .i64 c,.int .i64 n] w fun e w'=>e=.returned (.int .i64 (Kx.pick c n:Nat))∧w'=w:=by
 have hx:∀ x:Int,0≤x→((x % (n:Int)).toNat:Int)=x % n:=fun x _=>Int.toNat_of_nonneg (Int.emod_nonneg x (by omega))
 unfold Kx.pick
 by_cases h:c<0
 ·rw [if_pos h,hx _ (by omega)]
  have ht : -((c+1).tmod n) = -(c+1) % (n:Int):=by rw [← Int.neg_tmod,Int.tmod_eq_emod_of_nonneg (by omega)]
  have HT:=hide ht
  clear ht
  go_enter Tryz.func19,Tryz.ntmps19
  go_wp2
  go_ret
  have ht:=HT.out
  exact ⟨by go_num,rfl⟩
 ·rw [if_neg h,hx _ (by omega)]
  go_enter Tryz.func19,Tryz.ntmps19
  go_wp2
  go_ret
  exact ⟨by go_num,rfl⟩
end Go.Proofs.YtdjaiolfdbamcaaGreatDoor
/- Walks of the statements' own small functions: decimal below 100,turned. -/
namespace Go.Proofs.YtdjaiolfdbamcaaGreatDoor
open Go.RowKit
def turnedP (at_:Nat) (x was:Int):Nat:=if at_=0 then (if x<50 then 1 else 0) else if at_=1 then (if was<20 then 2 else 1) else 0
def nameB (k:Nat):ByteArray:=⟨#[UInt8.ofNat (97+k)]⟩
theorem turned_any (k:Nat) (hk:k<3) (x was:Int) (w:World):Calls Tryz.prog 32 #[.string (nameB k),.int .i64 x,.int .i64 was] w fun e w'=>e=.returned (.string (nameB (turnedP k x was)))∧w'=w:=by
 rcases (show k=0∨k=1∨k=2 by omega) with rfl | rfl | rfl
 ·have e0:nameB 0=⟨#[97]⟩:=rfl
  by_cases h:x<50
  ·have e1:nameB (turnedP 0 x was)=⟨#[98]⟩:=by simp [turnedP,h];rfl
   rw [e0,e1]
   go_enter Tryz.func32,Tryz.ntmps32
   go_wp2
   go_ret
   exact ⟨rfl,rfl⟩
  ·have e1:nameB (turnedP 0 x was)=⟨#[97]⟩:=by simp [turnedP,h];rfl
   rw [e0,e1]
   go_enter Tryz.func32,Tryz.ntmps32
   go_wp2
   go_ret
   exact ⟨rfl,rfl⟩
 ·have e0:nameB 1=⟨#[98]⟩:=rfl
  by_cases h:was<20
  ·have e1:nameB (turnedP 1 x was)=⟨#[99]⟩:=by simp [turnedP,h];rfl
   rw [e0,e1]
   go_enter Tryz.func32,Tryz.ntmps32
   go_wp2
   go_ret
   exact ⟨rfl,rfl⟩
  ·have e1:nameB (turnedP 1 x was)=⟨#[98]⟩:=by simp [turnedP,h];rfl
   rw [e0,e1]
   go_enter Tryz.func32,Tryz.ntmps32
   go_wp2
   go_ret
   exact ⟨rfl,rfl⟩
 ·have e0:nameB 2=⟨#[99]⟩:=rfl
  have e1:nameB (turnedP 2 x was)=⟨#[97]⟩:=rfl
  rw [e0,e1]
  go_enter Tryz.func32,Tryz.ntmps32
  go_wp2
  go_ret
  exact ⟨rfl,rfl⟩
def decB (c:Nat):List UInt8:=if c<10 then [UInt8.ofNat (48+c)] else [UInt8.ofNat (48+c/10),UInt8.ofNat (48+c % 10)]
theorem dec_conv (W:World) (c:Nat) (hc:c<10):(convert 64 9 (.slice (some ⟨W.heap.size,0,none⟩) 1 1)).run Tryz.prog (W.alloc (.cells #[.int .u8 (48+(c:Int))] 5))=.ok (.string ⟨#[UInt8.ofNat (48+c)]⟩) (W.alloc (.cells #[.int .u8 (48+(c:Int))] 5)):=by
 have h:=run_convert_bytes_back (P:=Tryz.prog) (W.alloc (.cells #[.int .u8 (48+(c:Int))] 5)) 64 9 5 ⟨W.heap.size,0,none⟩ 1 [UInt8.ofNat (48+c)] Tryz.underlying64 Tryz.underlying5 Tryz.underlying9 (fun j hj=>by
  obtain rfl:j=0:=by simpa using hj
  have e:(UInt8.ofNat (48+c)).toNat=48+c:=by rw [UInt8.toNat_ofNat',Nat.mod_eq_of_lt (by omega)]
  refine (news_new W W.heap.size rfl [Value.int .u8 (48+(c:Int))] 5 0 _ rfl).trans ?_
  show some (Value.int .u8 (48+(c:Int)))=some (Value.int .u8 ((UInt8.ofNat (48+c)).toNat:Int))
  rw [e];rfl)
 exact h
theorem decimal_one (c:Nat) (hc:c<10) (w:World):Calls Tryz.prog 31 #[.int .i64 c] w fun e w'=>e=.returned (.string ⟨(decB c).toArray⟩)∧Below w.heap.size w w':=by
 have hv:=dec_conv w c hc
 have h1:¬ (c:Int)<0:=by omega
 have h2:¬ (10:Int)≤c:=by omega
 have hm:(c:Int).tmod 10=c:=by rw [Int.tmod_eq_emod_of_nonneg (by omega)];omega
 have e:decB c=[UInt8.ofNat (48+c)]:=by unfold decB;rw [if_pos hc]
 rw [e]
 go_enter Tryz.func31,Tryz.ntmps31
 go_wp2
 go_ret
 exact ⟨rfl,(Below.refl _ _).alloc (Nat.le_refl _) _⟩
theorem decimal_sm (c:Nat) (hc:c<100) (w:World):Calls Tryz.prog 31 #[.int .i64 c] w fun e w'=>e=.returned (.string ⟨(decB c).toArray⟩)∧Below w.heap.size w w':=by
 by_cases h9:c<10
 ·exact decimal_one c h9 w
 ·have h1:¬ (c:Int)<0:=by omega
  have h2:(10:Int)≤c:=by omega
  have hd:(c:Int).tdiv 10=((c/10:Nat):Int):=by rw [Int.tdiv_eq_ediv_of_nonneg (by omega)];rfl
  have hm:(c:Int).tmod 10=((c % 10:Nat):Int):=by rw [Int.tmod_eq_emod_of_nonneg (by omega)];rfl
  have hd2:IntKind.i64.wrap ((c:Int).tdiv 10)=((c/10:Nat):Int):=by rw [hd,IntWalk.i64_in _ (by omega)]
  have hd3:(c:Int)/10=((c/10:Nat):Int):=rfl
  have hm3:(c:Int) % 10=((c % 10:Nat):Int):=rfl
  have e:decB c=[UInt8.ofNat (48+c/10)]++[UInt8.ofNat (48+c % 10)]:=by unfold decB;rw [if_neg h9];rfl
  have e1:decB (c/10)=[UInt8.ofNat (48+c/10)]:=by unfold decB;rw [if_pos (by omega)]
  have HD:=hide (decimal_one (c/10) (by omega) w)
  rw [e1] at HD
  have HV:=hide (fun W=>dec_conv W (c % 10) (by omega))
  have hq:c % 10<10:=by omega
  obtain ⟨q,hqe⟩ : ∃ q,q=c/10:=⟨_,rfl⟩
  obtain ⟨r,hre⟩ : ∃ r,r=c % 10:=⟨_,rfl⟩
  rw [← hqe] at hd hd2 hd3 HD e
  rw [← hre] at hm hm3 HV hq e
  rw [e]
  clear hqe hre e e1
  go_enter Tryz.func31,Tryz.ntmps31
  go_wp2_with fail
  refine HD.out.mono ?_
  rintro e w1 ⟨rfl,hb⟩
  have HB:=hide hb
  have hv:=HV.out w1
  clear hb HD
  go_wp2
  go_ret
  refine ⟨?_,HB.out.trans (((Below.refl _ _).alloc (Nat.le_refl _) _).mono HB.out.size)⟩
  have e9:((⟨#[48+UInt8.ofNat q]⟩ : ByteArray)++⟨#[48+UInt8.ofNat r]⟩)=⟨#[UInt8.ofNat (48+q),UInt8.ofNat (48+r)]⟩:=by
   apply ByteArray.ext
   simp
  show Ending.returned (.string ((⟨#[48+UInt8.ofNat q]⟩ : ByteArray)++⟨#[48+UInt8.ofNat r]⟩))=_
  rw [e9]
end Go.Proofs.YtdjaiolfdbamcaaGreatDoor
/- What the programs of a table that is taken do: the first row that is true,outer modes first;nothing of the program is asked here. -/
namespace Go.Proofs.YtdjaiolfdbamcaaGreatDoor
open Hx
def rowsAlong (ms:List MA) (i:Nat):List RowA:=(Cx.path ms i).flatMap (Cx.rowsOf ms)
def goTo (ms:List MA) (leaf:Nat) (r:RowA):Nat:=match r.dest with | none=>leaf | some t=>Cx.numberOf ms (Cx.modeIx ms t.s)
theorem gv_of {vs:List VarA} {s:CS} (hv:vs.length≤3) (xs:List Int):∀ (g:G),gFine vs s g→Mx.GV xs (Cx.eval vs g xs) (Cx.gCode vs g)
 | .or l r,h=>.some (gv_of hv xs l h.1) (gv_of hv xs r h.2)
 | .and l r,h=>.both (gv_of hv xs l h.1) (gv_of hv xs r h.2)
 | .not g,h=>.turn (gv_of hv xs g h)
 | .group _ g,h=>gv_of hv xs g h
 | .tru,_=>.yes
 | .atom w n o i _,h=>by
  have hx:=varIx_lt (show vs.any (sameV n.s)=true from (gFine.ok (g:=.atom w n o i _) h))
  have hw:(Cx.qOf vs w.isSome n o i).which<2*vs.length:=by
   simp only [Cx.qOf];split <;> omega
  have hn : -2000≤(Cx.qOf vs w.isSome n o i).num∧(Cx.qOf vs w.isSome n o i).num≤2000:=by
   have:=bad_in h.2.1
   simp only [Cx.qOf];split <;> omega
  simp only [Cx.gCode,Cx.Q.code,Cx.eval,Cx.Q.answer]
  generalize Cx.qOf vs w.isSome n o i=q at *
  have hwn:(UInt8.ofNat q.which).toNat=q.which:=Mx.ofNat_toNat (by omega)
  have h2:Mx.sgn (Mx.two (Cx.byteAt q.num 1) (Cx.byteAt q.num 256))=q.num:=by
   have h3:=Mx.two_enc q.num (by omega) (by omega)
   have h4:=Mx.sgn_enc q.num (by omega) (by omega)
   rw [← h3] at h4
   exact h4
  have key:∀ t:Bool,Mx.GV xs (if q.same then (xs.getD q.which 0 == q.num) != t else decide (xs.getD q.which 0<q.num) != t) ([if q.same then 8 else 7,UInt8.ofNat q.which]++Cx.two q.num++(if t then [5] else [])):=by
   intro t
   have hb:Mx.GV xs (if q.same then (xs.getD q.which 0 == q.num) else decide (xs.getD q.which 0<q.num)) ([if q.same then 8 else 7,UInt8.ofNat q.which]++Cx.two q.num):=by
    cases q.same with
    | true =>
     have:=@Mx.GV.same xs (UInt8.ofNat q.which) (Cx.byteAt q.num 1) (Cx.byteAt q.num 256)
     rw [hwn,h2] at this
     simpa [Cx.two] using this
    | false =>
     have:=@Mx.GV.less xs (UInt8.ofNat q.which) (Cx.byteAt q.num 1) (Cx.byteAt q.num 256)
     rw [hwn,h2] at this
     simpa [Cx.two] using this
   cases t with
   | true =>
    have:=Mx.GV.turn hb
    cases hq:q.same <;> rw [hq] at this <;> simpa using this
   | false =>
    cases hq:q.same <;> rw [hq] at hb <;> simpa using hb
  exact key q.turned
theorem rv_of {vs:List VarA} {gs:List MG} {s:CS} (hok:TabOk vs gs) (hl:(Cx.leaves (gs.map (·.a))).length≤12) (xs:List Int) (r:RowA) (hg:gFine vs s r.g) (hd:destBad gs r=false) :
  ∃ d:Option UInt8,Mx.RV xs (Cx.eval vs r.g xs) d (Cx.rowCode vs (gs.map (·.a)) r)∧∀ leaf,Mx.endTo leaf d=goTo (gs.map (·.a)) leaf r:=by
 have hv:=hok.vars
 have hgv:=gv_of hv xs r.g hg
 unfold goTo Cx.rowCode Cx.endCode
 cases hx:r.dest with
 | none =>
  refine ⟨none,?_,fun _=>rfl⟩
  have:=Mx.RV.mk (d:=none) (lo:=Cx.byteAt 1 1) (hi:=Cx.byteAt 1 256) hgv rfl
  simpa [Cx.two,Mx.endC,List.append_assoc] using this
 | some t =>
  have hm:Cx.modeIx (gs.map (·.a)) t.s<gs.length:=by
   unfold destBad at hd
   rw [hx] at hd
   have hd2:gs.any (sameM t.s)=true:=by simpa using hd
   obtain ⟨g,hg1,hg2⟩:=List.any_eq_true.1 hd2
   have:Cx.modeIx (gs.map (·.a)) t.s<(gs.map (·.a)).length:=List.findIdx_lt_length_of_exists ⟨g.a,List.mem_map.2 ⟨g,hg1,rfl⟩,hg2⟩
   simpa using this
  have hnl:=num_lt hok hm
  refine ⟨some (UInt8.ofNat (Cx.numberOf (gs.map (·.a)) (Cx.modeIx (gs.map (·.a)) t.s))),?_,fun _=>?_⟩
  ·have:=Mx.RV.mk (d:=some (UInt8.ofNat (Cx.numberOf (gs.map (·.a)) (Cx.modeIx (gs.map (·.a)) t.s)))) (lo:=Cx.byteAt 2 1) (hi:=Cx.byteAt 2 256) hgv rfl
   simpa [Cx.two,Mx.endC,List.append_assoc] using this
  ·simp only [Mx.endTo]
   rw [Mx.ofNat_toNat (by omega)]
theorem find_map {α β : Type} (l:List α) (f : α → β) (p : β → Bool):(l.map f).find? p=(l.find? (fun a=>p (f a))).map f:=by
 induction l with
 | nil=>rfl
 | cons a t ih =>
  simp only [List.map_cons,List.find?_cons]
  cases p (f a) <;> simp [ih]
theorem prog_along (vs:List VarA) (ms:List MA) (i:Nat):Cx.program vs ms i=((rowsAlong ms i).map (Cx.rowCode vs ms)).flatten++[0]:=by
 rw [program_rows]
 unfold progRows rowsAlong
 rw [List.map_flatMap]
theorem run_along {vs:List VarA} {ms:List MA} {xs:List Int} {l:List RowA} {leaf:Nat} (h:∀ r∈l,∃ d:Option UInt8,Mx.RV xs (Cx.eval vs r.g xs) d (Cx.rowCode vs ms r)∧∀ leaf,Mx.endTo leaf d=goTo ms leaf r) :
  Mx.run ((l.map (Cx.rowCode vs ms)).flatten++[0]) xs leaf=(match l.find? (fun r=>Cx.eval vs r.g xs) with | some r=>goTo ms leaf r | none=>leaf):=by
 classical
 obtain ⟨D,hD⟩ : ∃ D:RowA→Option UInt8,∀ r,r∈l→Mx.RV xs (Cx.eval vs r.g xs) (D r) (Cx.rowCode vs ms r)∧∀ leaf,Mx.endTo leaf (D r)=goTo ms leaf r :=
  ⟨fun r=>if hr:r∈l then Classical.choose (h r hr) else none,fun r hr=>by simp only [dif_pos hr];exact Classical.choose_spec (h r hr)⟩
 have e:(l.map (Cx.rowCode vs ms))=(l.map fun r=>(Cx.eval vs r.g xs,D r,Cx.rowCode vs ms r)).map (·.2.2):=by rw [List.map_map];rfl
 rw [e,Mx.run_all _ (fun q hq=>by
  obtain ⟨r,hr,rfl⟩:=List.mem_map.1 hq
  exact (hD r hr).1),find_map]
 cases hf:l.find? (fun r=>Cx.eval vs r.g xs) with
 | none=>rfl
 | some r=>exact (hD r (List.mem_of_find?_eq_some hf)).2 leaf
theorem run_prog {vs:List VarA} {gs:List MG} (hL:Links gs) (h:TabAll vs gs) (xs:List Int) (i leaf:Nat) :
  Mx.run (Cx.program vs (gs.map (·.a)) i) xs leaf=(match (rowsAlong (gs.map (·.a)) i).find? (fun r=>Cx.eval vs r.g xs) with | some r=>goTo (gs.map (·.a)) leaf r | none=>leaf):=by
 have hok:=tab_ok hL h.fine h.some
 obtain ⟨s,_,hrow⟩:=h.fine.row
 have hl12:(Cx.leaves (gs.map (·.a))).length≤12:=Nat.le_trans (leaves_le _) (by simpa using h.fine.modes)
 rw [prog_along]
 refine run_along (fun r hr=>?_)
 unfold rowsAlong at hr
 obtain ⟨j,_,hr⟩:=List.mem_flatMap.1 hr
 obtain ⟨m,hm,hrm⟩:=rowsOf_mem hr
 obtain ⟨g,hg,rfl⟩:=List.mem_map.1 hm
 exact rv_of hok hl12 xs r (hrow g hg r hrm).1 (hrow g hg r hrm).2
end Go.Proofs.YtdjaiolfdbamcaaGreatDoor
/- The two tables of Outer: they are taken,what their machines do;nothing of the program is asked here. -/
namespace Go.Proofs.YtdjaiolfdbamcaaGreatDoor
open Hx
def oPre:List UInt8:=[118,97,114,32,120,32,48,32,46,46,32,57,57,59,32,109,111,100,101,32,116,111,112,32,123,32,119,104,101,110,32,120,32,62,32]
def oInner:List UInt8:=[32,100,101,102,97,117,108,116,32,109,111,100,101,32,97,32,123,32,119,104,101,110,32,120,32,60,32,53,48,32,116,111,32,98,59,32,119,104,101,110,32,120,32,62,61,32,53,48,32,115,116,97,121,59,32,125,32,109,111,100,101,32,98,32,123,32,119,104,101,110,32,119,97,115,32,120,32,60,32,50,48,32,116,111,32,99,59,32,119,104,101,110,32,119,97,115,32,120,32,62,61,32,50,48,32,115,116,97,121,59,32,125,32,109,111,100,101,32,99,32,123,32,119,104,101,110,32,116,114,117,101,32,116,111,32,97,59,32,125,32,125]
def oHead:List UInt8:=[118,97,114,32,120,32,48,32,46,46,32,57,57,59,32,109,111,100,101,32,116,111,112,32,123]
def oL (c g:Nat):List UInt8:=oPre++decB c++[32,116,111,32]++[UInt8.ofNat (97+g)]++[59]++oInner
def pL:List UInt8:=oHead++oInner
abbrev AtS:=Nat×Bool×Int×Bool
abbrev RoS:=Option (Option AtS)×Option Nat
instance atsDec:DecidableEq AtS:=inferInstanceAs (DecidableEq (Nat×Bool×Int×Bool))
instance rosDec:DecidableEq RoS:=inferInstanceAs (DecidableEq (Option (Option AtS)×Option Nat))
instance rowsDec:DecidableEq (List (List RoS)):=inferInstance
def gSum (vs:List VarA):G→Option (Option AtS)
 | .tru=>some none
 | .atom w nm op num _=>some (some ((Cx.qOf vs w.isSome nm op num).which,(Cx.qOf vs w.isSome nm op num).same,(Cx.qOf vs w.isSome nm op num).num,(Cx.qOf vs w.isSome nm op num).turned))
 | _=>none
def rowSum (vs:List VarA) (ms:List MA) (r:RowA):RoS:=(gSum vs r.g,r.dest.map fun t=>Cx.numberOf ms (Cx.modeIx ms t.s))
def tabSum (vs:List VarA) (ms:List MA):List (Int×Int)×Nat×List (List UInt8)×List (List RoS):=(Cx.imVars vs,Cx.numberOf ms 0,(Cx.leaves ms).map (fun i=>(Cx.nameOf ms i).data.toList),(Cx.leaves ms).map (fun i=>(rowsAlong ms i).map (rowSum vs ms)))
def chSum (vs:List VarA) (ms:List MA):List (Int×Int×List Int):=(List.range (2*vs.length)).map fun i=>(Cx.lowOf vs (i % vs.length),Cx.highOf vs (i % vs.length),Cx.cutsAt (Cx.allAtoms vs ms) i)
theorem ch_sum (vs:List VarA) (ms:List MA):Cx.choices vs ms=(chSum vs ms).map fun q=>Cx.leastOnes q.1 q.2.1 q.2.2:=by
 unfold Cx.choices chSum Cx.choice
 rw [List.map_map];rfl
def ansS (xs:List Int):Option (Option AtS)→Bool
 | some (some (w,s,n,t))=>(Cx.Q.mk w s n t).answer xs
 | _=>true
def goS (rs:List RoS) (leaf:Nat) (xs:List Int):Nat:=match rs.find? (fun r=>ansS xs r.1) with
 | some r=>r.2.getD leaf
 | none=>leaf
theorem eval_sum {vs:List VarA} {g:G} (h:(gSum vs g).isSome=true) (xs:List Int):Cx.eval vs g xs=ansS xs (gSum vs g):=by
 cases g <;> first | rfl | (simp [gSum] at h)
theorem find_same {α : Type} (l:List α) (p q : α → Bool) (h:∀ a∈l,p a=q a):l.find? p=l.find? q:=by
 induction l with
 | nil=>rfl
 | cons a t ih =>
  rw [List.find?_cons,List.find?_cons,h a (by simp),ih (fun b hb=>h b (List.mem_cons_of_mem _ hb))]
theorem run_sum {vs:List VarA} {gs:List MG} (hL:Links gs) (h:TabAll vs gs) (xs:List Int) (i leaf:Nat) (hs:((rowsAlong (gs.map (·.a)) i).map (rowSum vs (gs.map (·.a)))).all (fun r=>r.1.isSome)=true) :
  Mx.run (Cx.program vs (gs.map (·.a)) i) xs leaf=goS ((rowsAlong (gs.map (·.a)) i).map (rowSum vs (gs.map (·.a)))) leaf xs:=by
 rw [run_prog hL h xs i leaf]
 unfold goS
 rw [find_map,find_same _ (fun r=>Cx.eval vs r.g xs) (fun a=>ansS xs (rowSum vs (gs.map (·.a)) a).1) (fun r hr=>by
  rw [List.all_eq_true] at hs
  exact eval_sum (hs _ (List.mem_map.2 ⟨r,hr,rfl⟩)) xs)]
 cases (rowsAlong (gs.map (·.a)) i).find? (fun a=>ansS xs (rowSum vs (gs.map (·.a)) a).1) with
 | none=>rfl
 | some r =>
  simp only [Option.map_some,goTo,rowSum]
  cases r.dest <;> rfl
def inRows:List (List RoS):=[[(some (some (1,false,50,false)),some 1),(some (some (1,false,50,true)),none)],[(some (some (0,false,20,false)),some 2),(some (some (0,false,20,true)),none)],[(some none,some 0)]]
def outRow (c g:Nat):RoS:=(some (some (1,false,(c:Int)+1,true)),some g)
def oSum (c g:Nat):List (Int×Int)×Nat×List (List UInt8)×List (List RoS):=([(0,99)],0,[[97],[98],[99]],inRows.map (outRow c g :: ·))
def pSum:List (Int×Int)×Nat×List (List UInt8)×List (List RoS):=([(0,99)],0,[[97],[98],[99]],inRows)
def chN (c:Nat):List Int:=if c<49 then [0,(c:Int)+1,50] else if c=49 then [0,50] else if c<99 then [0,50,(c:Int)+1] else [0,50]
def taken (k:Nat) (l:List UInt8) (S:List (Int×Int)×Nat×List (List UInt8)×List (List RoS)) (C:List (Int×Int×List Int)) (N:List (List Int)):Bool:=match lex l with
 | .inl _=>false
 | .inr ts=>(runF 400 [YTABLE] ts == some 0) && (match senF 200 ts (-1) 0 false St.zero with | some Z=>(linkS Z).code == 0 | none=>false) && (match pTab (k+200) ts with
  | some (vs,ms)=>(decide ((tabSum vs ms).1=S.1) && decide ((tabSum vs ms).2.1=S.2.1) && decide ((tabSum vs ms).2.2.1=S.2.2.1) && decide ((tabSum vs ms).2.2.2=S.2.2.2)) && decide (chSum vs ms=C) && (findBy N vs ms).isNone
  | none=>false)
theorem taken_is {l:List UInt8} {S:List (Int×Int)×Nat×List (List UInt8)×List (List RoS)} {C:List (Int×Int×List Int)} {N:List (List Int)} (hl:l.length≤3000) (h:∀ k,taken k l S C N=true) (hN:(C.map fun q=>Cx.leastOnes q.1 q.2.1 q.2.2)=N) :
  ∃ ts,TableOf ⟨l.toArray⟩ ts∧∀ vs ms,TabD ts vs ms→tabSum vs ms=S∧Cx.find vs ms=none:=by
 have h0:=h 0
 unfold taken at h0 h
 cases hx:lex l with
 | inl x=>rw [hx] at h0;cases h0
 | inr ts =>
  rw [hx] at h0
  simp only [hx] at h
  simp only [Bool.and_eq_true] at h0 h
  refine ⟨ts,⟨by show l.toArray.size≤3000;simpa using hl,by show lex l.toArray.toList=_;simpa using hx,⟨400,by simpa using h0.1.1⟩,200,?_⟩,fun vs ms hd=>?_⟩
  ·have:=h0.1.2
   cases hz:senF 200 ts (-1) 0 false St.zero with
   | none=>rw [hz] at this;cases this
   | some Z=>rw [hz] at this;exact ⟨Z,rfl,by simpa using this⟩
  ·obtain ⟨f0,e⟩:=tab_ev hd
   have hk:=(h f0).2
   rw [e (f0+200) (by omega)] at hk
   simp only [Bool.and_eq_true,decide_eq_true_eq] at hk
   refine ⟨Prod.ext hk.1.1.1.1.1 (Prod.ext hk.1.1.1.1.2 (Prod.ext hk.1.1.1.2 hk.1.1.2)),?_⟩
   rw [find_by,ch_sum,hk.1.2,hN]
   simpa using hk.2
theorem sorted_same:∀ (l m:List Int),l.Pairwise (· < ·)→m.Pairwise (· < ·)→(∀ x,x∈l↔x∈m)→l=m
 | [],[],_,_,_=>rfl
 | [],b::m,_,_,h=>by have:=(h b).2 (by simp);cases this
 | a::l,[],_,_,h=>by have:=(h a).1 (by simp);cases this
 | a::l,b::m,h1,h2,h=>by
  rw [List.pairwise_cons] at h1 h2
  have e:a=b:=by
   have ha:=(h a).1 (by simp)
   have hb:=(h b).2 (by simp)
   rcases List.mem_cons.1 ha with e | e
   ·exact e
   ·rcases List.mem_cons.1 hb with e2 | e2
    ·exact e2.symm
    ·have:=h2.1 a e
     have:=h1.1 b e2
     omega
  subst e
  rw [sorted_same l m h1.2 h2.2 (fun x=>?_)]
  constructor
  ·intro hx
   rcases List.mem_cons.1 ((h x).1 (List.mem_cons_of_mem _ hx)) with e | e
   ·have:=h1.1 x hx;omega
   ·exact e
  ·intro hx
   rcases List.mem_cons.1 ((h x).2 (List.mem_cons_of_mem _ hx)) with e | e
   ·have:=h2.1 x hx;omega
   ·exact e
theorem least_is {a b:Int} {cs l:List Int} (h1:l.Pairwise (· < ·)) (h2:∀ x,x∈l↔x=a∨(x∈cs∧a<x∧x≤b)):Cx.leastOnes a b cs=l:=by
 obtain ⟨k1,k2⟩:=Cx.least_spec a b cs
 exact sorted_same _ _ k1 h1 (fun x=>(k2 x).trans (h2 x).symm)
theorem least_20:Cx.leastOnes 0 99 [20,20]=[0,20]:=least_is (by simp) (fun x=>by simp;omega)
theorem least_50:Cx.leastOnes 0 99 [50,50]=[0,50]:=least_is (by simp) (fun x=>by simp;omega)
theorem least_c (c:Nat) (hc:c<100):Cx.leastOnes 0 99 [(c:Int)+1,50,50]=chN c:=by
 unfold chN
 split
 ·exact least_is (by simp;omega) (fun x=>by simp;omega)
 ·split
  ·exact least_is (by simp) (fun x=>by simp;omega)
  ·split
   ·exact least_is (by simp;omega) (fun x=>by simp;omega)
   ·exact least_is (by simp) (fun x=>by simp;omega)
theorem p_taken (k:Nat):taken k pL pSum [(0,99,[20,20]),(0,99,[50,50])] [[0,20],[0,50]]=true:=by kernel_rfl
def oChk (k c:Nat):Bool:=(List.range 3).all fun g=>taken k (oL c g) (oSum c g) [(0,99,[20,20]),(0,99,[(c:Int)+1,50,50])] [[0,20],chN c]
theorem p_is:∃ ts,TableOf ⟨pL.toArray⟩ ts∧∀ vs ms,TabD ts vs ms→tabSum vs ms=pSum∧Cx.find vs ms=none :=
 taken_is (by decide +kernel) p_taken (by simp only [List.map_cons,List.map_nil,least_20,least_50])
theorem o_of (c g:Nat) (hc:c<100) (hg:g<3) (hk:∀ k,oChk k c=true):∃ ts,TableOf ⟨(oL c g).toArray⟩ ts∧∀ vs ms,TabD ts vs ms→tabSum vs ms=oSum c g∧Cx.find vs ms=none:=by
 have hl:(oL c g).length≤3000:=by
  have h1:(decB c).length≤2:=by unfold decB;split <;> simp
  unfold oL
  simp only [List.length_append]
  have h2:oPre.length≤100:=by decide +kernel
  have h3:oInner.length≤200:=by decide +kernel
  simp
  omega
 refine taken_is (C:=[(0,99,[20,20]),(0,99,[(c:Int)+1,50,50])]) (N:=[[0,20],chN c]) hl (fun k=>?_) (by simp only [List.map_cons,List.map_nil,least_20,least_c c hc])
 have h2:=hk k
 unfold oChk at h2
 rw [List.all_eq_true] at h2
 exact h2 g (List.mem_range.2 hg)
end Go.Proofs.YtdjaiolfdbamcaaGreatDoor
