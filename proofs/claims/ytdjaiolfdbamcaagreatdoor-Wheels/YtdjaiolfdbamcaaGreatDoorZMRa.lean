/- Walks of the image's reader: each call takes off what a plain function says. -/
import Derived.Test.YtdjaiolfdbamcaaGreatDoorZMRd
import Derived.Test.YtdjaiolfdbamcaaGreatDoorZWPar1
import Derived.Test.YtdjaiolfdbamcaaGreatDoorZCA
import Derived.Test.YtdjaiolfdbamcaaGreatDoorZWCF1
import Derived.Test.YtdjaiolfdbamcaaGreatDoorZWCE7
import Derived.Laws.BitsLemmas
import Derived.IntWalk
import Derived.Lib.ConvBytes
import Derived.Lib.AtoiErrMem
set_option maxRecDepth 20000
set_option maxHeartbeats 4000000
namespace Go.Proofs.YtdjaiolfdbamcaaGreatDoor
section
open Go.RowKit
def bstr (l:List UInt8):ByteArray:=⟨l.toArray⟩
theorem bstr_size (l:List UInt8):(bstr l).size=l.length:=by show l.toArray.size=_;simp
theorem bstr_data (l:List UInt8):(bstr l).data.toList=l:=by simp [bstr]
theorem bstr_take (l:List UInt8) (n:Nat):(bstr l).extract 0 n=bstr (l.take n):=by
 apply ByteArray.ext;simp [bstr,ByteArray.data_extract]
theorem bstr_drop (l:List UInt8) (n:Nat):(bstr l).extract n (bstr l).size=bstr (l.drop n):=by
 apply ByteArray.ext;rw [bstr_size];have h:(l.drop n).take (l.length-n)=l.drop n:=List.take_of_length_le (by simp);simp [bstr,ByteArray.data_extract,h]
theorem kp_set (w:World) (b o:Nat) (v:Value):Kp (fun k=>k=b) w (w.setCell ⟨b,o,none⟩ v):=Kp.setCell (p:=⟨b,o,none⟩) (Kp.refl (fun k=>k=b) w) (.inl rfl) v
def RdIs (w:World) (b:Nat) (r:Mx.Rd):Prop:=w.heap[b]? = some (.cells #[.string (bstr r.rest),.bool r.wrong] 238 (0,0))
theorem rtake_any (w:World) (b:Nat) (r:Mx.Rd) (n:Nat) (h:RdIs w b r) :
  Calls Tryz.prog 177 #[.pointer (some ⟨b,0,none⟩),.int .i64 n] w fun e w'=>e=.returned (.string (bstr (r.take n).1))/\RdIs w' b (r.take n).2/\Kp (fun k=>k=b) w w':=by
 have c0:w.cell? ⟨b,0,none⟩=some (.string (bstr r.rest)):=Lib.cell_of_heap h 0;have c1:w.cell? ⟨b,1,none⟩=some (.bool r.wrong):=Lib.cell_of_heap h 1;have f0:w.frozen? ⟨b,0,none⟩=false:=Lib.frozen_of_heap h 0;have f1:w.frozen? ⟨b,1,none⟩=false:=Lib.frozen_of_heap h 1;have hz:=bstr_size r.rest;obtain ⟨s,hs⟩ : ∃ s,s=bstr r.rest:=⟨_,rfl⟩;have HS:=hide hs;have HH:=hide h;rw [<- hs] at c0 hz;clear hs h
 by_cases hn:r.rest.length<n
 ·have hn':(s.size:Int)<n:=by omega
  go_enter Tryz.func177,Tryz.ntmps177;go_wp2;go_ret;have e:r.take n=([],⟨r.rest,true⟩):=by unfold Mx.Rd.take;rw [if_pos hn]
  rw [e];exact ⟨rfl,set_heap (o:=1) HH.out,kp_set w b _ _⟩
 ·have hn':¬ (s.size:Int)<n:=by omega
  have hn0:(0:Int)<=n:=by omega
  have hn1:(n:Int)<=s.size:=by omega
  go_enter Tryz.func177,Tryz.ntmps177;go_wp2;go_ret;have e:r.take n=(r.rest.take n,⟨r.rest.drop n,r.wrong⟩):=by unfold Mx.Rd.take;rw [if_neg hn]
  rw [e];have hs:=HS.out;refine ⟨by rw [hs,bstr_take];rfl,?_,kp_set w b _ _⟩;have:=set_heap (o:=0) (v:=.string (s.extract n s.size)) HH.out;rw [hs,bstr_drop] at this;rw [hs,<- bstr_size r.rest,bstr_drop];exact this
theorem rone_any (w:World) (b:Nat) (r:Mx.Rd) (h:RdIs w b r) :
  Calls Tryz.prog 180 #[.pointer (some ⟨b,0,none⟩)] w fun e w'=>e=.returned (.int .i64 r.one.1)/\RdIs w' b r.one.2/\Kp (fun k=>k=b) w w':=by
 have HT:=hide (rtake_any w b r 1 h);have hl:=(Mx.take_len r 1).1;have HO:Hid (r.one.2=(r.take 1).2):=hide rfl;obtain ⟨t,ht⟩ : ∃ t,t=(r.take 1).1:=⟨_,rfl⟩;have HN:Hid (r.one.1=(t.headD 0).toNat):=hide (by rw [ht];rfl);rw [<- ht] at HT hl;clear ht;go_enter Tryz.func180,Tryz.ntmps180;go_wp2_with fail;refine HT.out.mono ?_;rintro e w1 ⟨rfl,h1,hk⟩
 cases t with
 | nil =>
  have e0:(bstr []).toList.isEmpty=true:=by rw [Lib.toList_data];rfl
  go_wp2;go_ret;refine ⟨by rw [HN.out];rfl,by rw [HO.out];exact h1,hk⟩
 | cons c l =>
  have hl0:l=[]:=by
   cases l with
   | nil=>rfl
   | cons _ _=>simp at hl
  subst hl0;have e0:(bstr [c]).toList.isEmpty=false:=by rw [Lib.toList_data];rfl
  have hw:wrap64 (c.toNat:Int)=c.toNat:=by have:=c.toNat_lt;exact IntWalk.wrap64_in _ (by omega)
  have hz:(bstr [c]).size=1:=bstr_size _;have hg:(bstr [c])[0]'(by rw [hz];decide)=c:=rfl;go_wp2;go_ret;refine ⟨by rw [HN.out,hw];rfl,by rw [HO.out];exact h1,hk⟩
theorem wraps_i64 (n:Int) (h0:0<=n) (h1:n<2 ^ 63):IntKind.i64.wrap n=n:=by rw [IntKind.wrap_i64];omega
theorem or_two (a b:UInt8):bits .or .i64 (a.toNat:Int) (b.toNat*256:Int)=(Mx.two a b:Int):=by
 have ha:=a.toNat_lt;have hb:=b.toNat_lt;have h:=(bits_nat .i64 63 (by decide) wraps_i64 a.toNat (b.toNat*256) (by omega) (by omega)).2;have e:((b.toNat*256:Nat):Int)=(b.toNat*256:Int):=by omega
 rw [e] at h;rw [h];unfold Mx.two;have h2:=Nat.two_pow_add_eq_or_of_lt (i:=8) (b:=a.toNat) (by omega) b.toNat;rw [Nat.or_comm,Nat.mul_comm b.toNat 256,show (256:Nat)=2 ^ 8 from rfl,<- h2];omega
theorem Two_any (w:World) (a b:UInt8):Calls Tryz.prog 185 #[.int .u8 a.toNat,.int .u8 b.toNat] w fun e w'=>e=.returned (.int .i64 (Mx.two a b))/\w'=w:=by
 have ha:=a.toNat_lt;have hb:=b.toNat_lt;have e1:wrap64 (a.toNat:Int)=a.toNat:=IntWalk.wrap64_in _ (by omega);have e2:wrap64 (b.toNat:Int)=b.toNat:=IntWalk.wrap64_in _ (by omega);have e3:wrap64 (b.toNat*256:Int)=b.toNat*256:=IntWalk.wrap64_in _ (by omega);have e4:=or_two a b;go_enter Tryz.func185,Tryz.ntmps185;go_wp2;go_ret;exact ⟨rfl,rfl⟩
theorem wrap_i16 (n:Nat) (hn:n<65536):IntKind.i16.wrap (n:Int)=Mx.sgn n:=by
 simp only [IntKind.wrap,IntKind.bits,IntKind.signed,Mx.sgn];simp;split <;> split <;> omega
theorem sgn_in (n:Nat) (hn:n<65536) : -32768<=Mx.sgn n/\Mx.sgn n<=32767:=by
 unfold Mx.sgn;split <;> omega
theorem Signed_any (w:World) (n:Nat) (hn:n<65536):Calls Tryz.prog 215 #[.int .i64 n] w fun e w'=>e=.returned (.int .i64 (Mx.sgn n))/\w'=w:=by
 have e1:=wrap_i16 n hn;have e2:=sgn_in n hn;have e3:wrap64 (Mx.sgn n)=Mx.sgn n:=IntWalk.wrap64_in _ (by omega);go_enter Tryz.func215,Tryz.ntmps215;go_wp2;go_ret;exact ⟨rfl,rfl⟩
theorem rtwo_any (w:World) (b:Nat) (r:Mx.Rd) (h:RdIs w b r) :
  Calls Tryz.prog 181 #[.pointer (some ⟨b,0,none⟩)] w fun e w'=>e=.returned (.int .i64 r.two.1)/\RdIs w' b r.two.2/\Kp (fun k=>k=b) w w':=by
 have HT:=hide (rtake_any w b r 2 h);have hl:(r.take 2).1.length=0\/(r.take 2).1.length=2:=by
  unfold Mx.Rd.take;split
  ·exact .inl rfl
  ·right;simp;omega
 have HO:Hid (r.two.2=(r.take 2).2):=hide rfl;obtain ⟨t,ht⟩ : ∃ t,t=(r.take 2).1:=⟨_,rfl⟩;have HN:Hid (r.two.1=Mx.two (t.getD 0 0) (t.getD 1 0)):=hide (by rw [ht];rfl);rw [<- ht] at HT hl;clear ht;go_enter Tryz.func181,Tryz.ntmps181;go_wp2_with fail;refine HT.out.mono ?_;rintro e w1 ⟨rfl,h1,hk⟩
 match t,hl with
 | [],_ =>
  have e0:(bstr []).toList.isEmpty=true:=by rw [Lib.toList_data];rfl
  go_wp2;go_ret;refine ⟨by rw [HN.out];rfl,by rw [HO.out];exact h1,hk⟩
 | [c,d],_ =>
  have e0:(bstr [c,d]).toList.isEmpty=false:=by rw [Lib.toList_data];rfl
  have hz:(bstr [c,d]).size=2:=bstr_size _;have hg:(bstr [c,d])[0]'(by rw [hz];decide)=c:=rfl;have hg1:(bstr [c,d])[1]'(by rw [hz];decide)=d:=rfl;have HW:=hide (fun W=>Two_any W c d);go_wp2_with fail
  go_region_with (go_at_call 185;refine (HW.out _).mono ?_;rintro e w2 ⟨rfl,rfl⟩)
  all_goals
   go_wp2_with fail;go_ret;refine ⟨by rw [HN.out];rfl,by rw [HO.out];exact h1,hk.drew⟩
 | [_],h=>simp at h
 | _::_::_::_,h=>simp at h
theorem rnumber_any (w:World) (b:Nat) (r:Mx.Rd) (h:RdIs w b r) :
  Calls Tryz.prog 179 #[.pointer (some ⟨b,0,none⟩)] w fun e w'=>e=.returned (.int .i64 (Mx.sgn r.two.1))/\RdIs w' b r.two.2/\Kp (fun k=>k=b) w w':=by
 have HT:=hide (rtwo_any w b r h);have hn:r.two.1<65536:=Mx.two_lt _ _;have HS:=hide (fun W=>Signed_any W r.two.1 hn);generalize r.two.1=n at *;go_enter Tryz.func179,Tryz.ntmps179;go_wp2_with fail;refine HT.out.mono ?_;rintro e w1 ⟨rfl,h1,hk⟩;go_wp2_with fail;refine (HS.out w1).mono ?_;rintro e w2 ⟨rfl,rfl⟩;go_wp2_with fail;go_ret;exact ⟨rfl,h1,hk⟩
theorem rcount_any (w:World) (b:Nat) (r:Mx.Rd) (m:Nat) (h:RdIs w b r) :
  Calls Tryz.prog 178 #[.pointer (some ⟨b,0,none⟩),.int .i64 m] w fun e w'=>e=.returned (.int .i64 (r.count m).1)/\RdIs w' b (r.count m).2/\Kp (fun k=>k=b) w w':=by
 have HT:=hide (rone_any w b r h);have HC:Hid (r.count m=if m<r.one.1 then (0,⟨r.one.2.rest,true⟩) else (r.one.1,r.one.2)):=hide rfl;generalize r.one.1=n at *;go_enter Tryz.func178,Tryz.ntmps178;go_wp2_with fail;refine HT.out.mono ?_;rintro e w1 ⟨rfl,h1,hk⟩;have f1:w1.frozen? ⟨b,1,none⟩=false:=Lib.frozen_of_heap h1 1;have c1:w1.cell? ⟨b,1,none⟩=some (.bool r.one.2.wrong):=Lib.cell_of_heap h1 1
 by_cases hm:m<n
 ·have hm':(m:Int)<n:=by omega
  have H1:=hide h1;have HK:=hide hk;clear h1 hk;go_wp2;go_ret;rw [HC.out,if_pos hm];exact ⟨rfl,set_heap (o:=1) H1.out,HK.out.setCell (p:=⟨b,1,none⟩) (.inl rfl) _⟩
 ·have hm':¬ (m:Int)<n:=by omega
  go_wp2;go_ret;rw [HC.out,if_neg hm];exact ⟨rfl,h1,hk⟩
end
section
open Go.RowKit
theorem RdIs.kept {F:Nat->Prop} {w w':World} {b:Nat} {r:Mx.Rd} (h:RdIs w b r) (hk:Kp F w w') (hF:¬ F b):RdIs w' b r:=(hk.block b (Array.getElem?_eq_some_iff.1 h).1 hF).trans h
theorem RdIs.lt {w:World} {b:Nat} {r:Mx.Rd} (h:RdIs w b r):b<w.heap.size:=(Array.getElem?_eq_some_iff.1 h).1
theorem bstr_eq (t:List UInt8) (u:List UInt8):((bstr t).toList == u)=(t == u):=by rw [Lib.toList_data,bstr_data]
theorem Tryz.infoMVar:(Tryz.prog.info? 168).map (fun i=>(i.zero,i.size,i.bytes))=some (some (.agg #[.int .i64 0,.int .i64 0]),2,16):=by kernel_rfl
theorem Tryz.infoMLeaf:(Tryz.prog.info? 102).map (fun i=>(i.zero,i.size,i.bytes))=some (some (.agg #[.string ⟨#[]⟩,.slice none 0 0]),2,40):=by kernel_rfl
def mvC (p:Int×Int):List Value:=[.int .i64 p.1,.int .i64 p.2]
def mbC (v l:Value) (f:Nat):Array Value:=#[v,l,.int .i64 f]
def PgB (w:World) (pv:Value) (l:List UInt8):Prop:=∃ gp cap cur fr,pv=.slice (some ⟨gp,0,none⟩) l.length cap/\w.heap[gp]? = some (.cells cur 5 fr)/\∀ j (hj:j<l.length),cur[j]? = some (.int .u8 (l[j].toNat:Int))
theorem PgB.kept {F:Nat->Prop} {w w':World} {pv:Value} {l:List UInt8} (h:PgB w pv l) (hk:Kp F w w') (hF:∀ g cur fr,w.heap[g]? = some (.cells cur 5 fr)->¬ F g):PgB w' pv l:=by
 obtain ⟨gp,cap,cur,fr,e,hg,ht⟩:=h;exact ⟨gp,cap,cur,fr,e,(hk.block gp (Array.getElem?_eq_some_iff.1 hg).1 (hF gp cur fr hg)).trans hg,ht⟩
theorem pgB_new (W:World) (l:List UInt8):PgB (Lib.bytesWorld W 5 (bstr l)) (.slice (some ⟨W.heap.size,0,none⟩) (bstr l).size (grownCap W (bstr l).size 0 5)) l:=by
 refine ⟨W.heap.size,_,_,_,by rw [bstr_size],Lib.bytesWorld_at_new W 5 (bstr l),fun j hj=>?_⟩;have h:=Lib.bytesWorld_cell W 5 (bstr l) j (by rw [bstr_size];exact hj);rw [Lib.cell_of_heap (Lib.bytesWorld_at_new W 5 (bstr l)) j] at h;rw [h,bstr_data];simp [hj]
theorem row_off {w:World} {b e s n T g:Nat} {v:Value} {xs:List Value} {cur:Array Value} {fr:Nat×Nat} (h:w.ownsRow b e s v n xs) (hg:w.heap[g]? = some (.cells cur T fr)) (he:T≠e):¬ v.ownBlock=some g:=by
 intro hk;rcases h.2 with ⟨rfl,_⟩ | ⟨g',cap,cur',rfl,_,hg',_⟩
 ·cases hk
 ·simp [Value.ownBlock] at hk
  subst hk;rw [hg] at hg';simp only [Option.some.injEq,Obj.cells.injEq] at hg';exact he hg'.2.1
theorem rows_off {w:World} {b e s n b' e' s' n':Nat} {v v':Value} {xs xs':List Value} (h:w.ownsRow b e s v n xs) (h':w.ownsRow b' e' s' v' n' xs') (he:e≠e'):∀ k,v.ownBlock=some k->¬ v'.ownBlock=some k:=by
 intro k hk hk';rcases h.2 with ⟨rfl,_⟩ | ⟨g,cap,cur,rfl,_,hg,_⟩
 ·cases hk
 ·simp [Value.ownBlock] at hk
  subst hk;exact row_off h' hg he hk'
def mlC (p:List UInt8×Value):List Value:=[.string (bstr p.1),p.2]
theorem row_entry {w:World} {base e s n:Nat} {v:Value} {xs:List Value} (h:w.ownsRow base e s v n xs) (hn:0<n):∃ g cap cur,v=.slice (some ⟨g,0,none⟩) n cap/\w.heap[g]? = some (.cells cur e (0,0))/\∀ j,j<n*s->cur[j]? = xs[j]? := by
 obtain ⟨g,cap,e1,_,hg,_,_,hcc⟩:=row_open h hn;rcases h.2 with ⟨e2,_⟩ | ⟨g2,cap2,cur,e2,_,hg2,_⟩
 ·rw [e1] at e2;cases e2
 ·rw [e1] at e2
  cases e2
  exact ⟨g,cap,cur,e1,hg2,fun j hj=>(Lib.cell_of_heap hg2 j).symm.trans (hcc j hj)⟩
def ImT (T:TypeId):Prop:=T=168\/T=102\/T=5
structure ImM (w:World) (c:Nat) (av al:Option Addr) (im:Mx.Img):Prop where
 vars:0<im.vars.length->∃ g cur,av=some ⟨g,0,none⟩/\g<c/\w.heap[g]? = some (.cells cur 168 (0,0))/\∀ i (hi:i<im.vars.length),cur[i*2]? = some (.int .i64 im.vars[i].1)/\cur[i*2+1]? = some (.int .i64 im.vars[i].2)
 leaves:0<im.leaves.length->∃ g cur,al=some ⟨g,0,none⟩/\g<c/\w.heap[g]? = some (.cells cur 102 (0,0))/\∀ i (hi:i<im.leaves.length),cur[i*2]? = some (.string (bstr im.leaves[i].1))/\∃ gp cp cup fr,cur[i*2+1]? = some (.slice (some ⟨gp,0,none⟩) im.leaves[i].2.length cp)/\gp<c/\w.heap[gp]? = some (.cells cup 5 fr)/\∀ k (hk:k<im.leaves[i].2.length),cup[k]? = some (.int .u8 (im.leaves[i].2[k].toNat:Int))
theorem ImM.kept {F:Nat->Prop} {w w':World} {c:Nat} {av al:Option Addr} {im:Mx.Img} (h:ImM w c av al im) (hk:Kp F w w') (hF:∀ g cur T fr,g<c->w.heap[g]? = some (.cells cur T fr)->ImT T->¬ F g):ImM w' c av al im:=by
 refine ⟨fun hn=>?_,fun hn=>?_⟩
 ·obtain ⟨g,cur,e,hg,hh,hc⟩:=h.vars hn
  exact ⟨g,cur,e,hg,(hk.block g (Array.getElem?_eq_some_iff.1 hh).1 (hF g cur _ _ hg hh (.inl rfl))).trans hh,hc⟩
 ·obtain ⟨g,cur,e,hg,hh,hc⟩:=h.leaves hn
  refine ⟨g,cur,e,hg,(hk.block g (Array.getElem?_eq_some_iff.1 hh).1 (hF g cur _ _ hg hh (.inr (.inl rfl)))).trans hh,fun i hi=>⟨(hc i hi).1,?_⟩⟩;obtain ⟨gp,cp,cup,fr,h1,h2,h3,h4⟩:=(hc i hi).2;exact ⟨gp,cp,cup,fr,h1,h2,(hk.block gp (Array.getElem?_eq_some_iff.1 h3).1 (hF gp cup _ _ h2 h3 (.inr (.inr rfl)))).trans h3,h4⟩
theorem ImM.below {w w':World} {c:Nat} {av al:Option Addr} {im:Mx.Img} (h:ImM w c av al im) (hb:Below c w w'):ImM w' c av al im:=by
 have hk:Kp (fun k=>c<=k) w w':=⟨hb.os,hb.tape,hb.output,hb.size,fun k _ hn=>hb.block k (by omega)⟩;exact h.kept hk (fun g _ _ _ hg _ _=>by omega)
theorem ImM.mono {w:World} {c c':Nat} {av al:Option Addr} {im:Mx.Img} (h:ImM w c av al im) (hc:c<=c'):ImM w c' av al im:=by
 refine ⟨fun hn=>?_,fun hn=>?_⟩
 ·obtain ⟨g,cur,e,hg,hh,hx⟩:=h.vars hn
  exact ⟨g,cur,e,by omega,hh,hx⟩
 ·obtain ⟨g,cur,e,hg,hh,hx⟩:=h.leaves hn
  refine ⟨g,cur,e,by omega,hh,fun i hi=>⟨(hx i hi).1,?_⟩⟩;obtain ⟨gp,cp,cup,fr,h1,h2,h3,h4⟩:=(hx i hi).2;exact ⟨gp,cp,cup,fr,h1,by omega,h3,h4⟩
theorem imM_of {w:World} {base:Nat} {V L:Value} {im:Mx.Img} {ps:List (List UInt8×Value)} {av al:Option Addr} {cv cl:Nat} (hV:V=.slice av im.vars.length cv) (hL:L=.slice al im.leaves.length cl) (hv:w.ownsRow base 168 2 V im.vars.length (im.vars.flatMap mvC)) (hl:w.ownsRow base 102 2 L im.leaves.length (ps.flatMap mlC)) (hn:ps.map (·.1)=im.leaves.map (·.1))
  (hp:∀ j (hj:j<ps.length) (hj2:j<im.leaves.length),PgB w ps[j].2 im.leaves[j].2):ImM w w.heap.size av al im:=by
 subst hV hL;have hpl:ps.length=im.leaves.length:=by have:=congrArg List.length hn;simpa using this
 refine ⟨fun h0=>?_,fun h0=>?_⟩
 ·obtain ⟨g,cap,cur,e,hg,hcc⟩:=row_entry hv h0
  cases e
  refine ⟨g,cur,rfl,(Array.getElem?_eq_some_iff.1 hg).1,hg,fun i hi=>?_⟩;have hf:=fun j hj=>flatC mvC 2 im.vars (fun _=>rfl) i j hi hj
  exact ⟨(hcc (i*2+0) (by omega)).trans (hf 0 (by omega)),(hcc (i*2+1) (by omega)).trans (hf 1 (by omega))⟩
 ·obtain ⟨g,cap,cur,e,hg,hcc⟩:=row_entry hl h0
  cases e
  refine ⟨g,cur,rfl,(Array.getElem?_eq_some_iff.1 hg).1,hg,fun i hi=>?_⟩;have hip:i<ps.length:=by omega
  have hf:=fun j hj=>flatC mlC 2 ps (fun _=>rfl) i j hip hj
  have hni:ps[i].1=im.leaves[i].1:=by
   have h2:(ps.map (·.1))[i]? = (im.leaves.map (·.1))[i]? := by rw [hn]
   simpa [hip,hi] using h2
  obtain ⟨gp,cp,cup,fr,hpv,hgp,hcu⟩:=hp i hip hi;refine ⟨((hcc (i*2+0) (by omega)).trans (hf 0 (by omega))).trans (by simp [mlC,hni]),gp,cp,cup,fr,((hcc (i*2+1) (by omega)).trans (hf 1 (by omega))).trans (by simp [mlC,hpv]),(Array.getElem?_eq_some_iff.1 hgp).1,hgp,hcu⟩
theorem conv_any (W:World) (s:ByteArray):(convert 9 64 (.string s)).run Tryz.prog W=.ok (.slice (some ⟨W.heap.size,0,none⟩) s.size (grownCap W s.size 0 5)) (Lib.bytesWorld W 5 s) :=
 Lib.run_convert_string_bytes W _ _ _ s Tryz.underlying9 Tryz.underlying64 Tryz.underlying5
theorem rimage_any (w:World) (b:Nat) (r:Mx.Rd) (h:RdIs w b r) :
  Calls Tryz.prog 133 #[.pointer (some ⟨b,0,none⟩)] w fun e w'=>∃ av cv al cl,e=.returned (.agg #[.slice av r.image.1.vars.length cv,.slice al r.image.1.leaves.length cl,.int .i64 r.image.1.first])/\ImM w' w'.heap.size av al r.image.1/\RdIs w' b r.image.2/\Kp (fun k=>k=b) w w':=by
 obtain ⟨X,hX⟩ : ∃ X,X=(w.alloc (.cells #[.slice none 0 0,.slice none 0 0,.int .i64 0] 106)).alloc (.cells #[.slice none 0 0,.slice none 0 0,.int .i64 0] 106):=⟨_,rfl⟩;have hB:Below w.heap.size w X:=by rw [hX];exact (below_a w _).trans ((below_a _ _).mono (below_a w _).size)
 have hbl:b<w.heap.size:=h.lt;have hI0:X.heap[w.heap.size+1]? = some (.cells (mbC (.slice none 0 0) (.slice none 0 0) 0) 106 (0,0)):=by
  rw [hX];have:=heap_alloc_new (w.alloc (.cells #[.slice none 0 0,.slice none 0 0,.int .i64 0] 106)) (.cells #[.slice none 0 0,.slice none 0 0,.int .i64 0] 106);rw [show (w.alloc (.cells #[.slice none 0 0,.slice none 0 0,.int .i64 0] 106)).heap.size=w.heap.size+1 by simp] at this;exact this
 have hR0:X.heap[w.heap.size]? = some (.cells (mbC (.slice none 0 0) (.slice none 0 0) 0) 106 (0,0)):=by
  rw [hX];exact ((below_a _ _).block w.heap.size (by simp)).trans (heap_alloc_new w _)
 have hRd:RdIs X b r:=(hB.block b hbl).trans h;have hXs:w.heap.size+2<=X.heap.size:=by rw [hX];simp
 have HB:=hide hB;have HI0:=hide hI0;have HR0:=hide hR0;have HT:=hide (rtake_any X b r 5 hRd);have HAH:Hid (r.afterHead=⟨(r.take 5).2.rest,!(r.take 5).1 == Mx.hd⟩):=hide rfl;obtain ⟨t,ht⟩ : ∃ t,t=(r.take 5).1:=⟨_,rfl⟩;rw [<- ht] at HT HAH;clear ht hB hI0 hR0 hRd h;go_enter Tryz.func133,Tryz.ntmps133;go_wp2_with fail;rw [<- hX];clear hX;refine HT.out.mono ?_;rintro e w1 ⟨rfl,h1,hk1⟩;have hs1:=hk1.size;have e0:=bstr_eq t [72,69,76,77,49];have f1:w1.frozen? ⟨b,1,none⟩=false:=Lib.frozen_of_heap h1 1;have c1:w1.cell? ⟨b,1,none⟩=some (.bool (r.take 5).2.wrong):=Lib.cell_of_heap h1 1;have hk2:Kp (fun k=>k=b) X (w1.setCell ⟨b,1,none⟩ (.bool !t == [72,69,76,77,49])):=hk1.setCell (p:=⟨b,1,none⟩) (.inl rfl) _;have h2:RdIs (w1.setCell ⟨b,1,none⟩ (.bool !t == [72,69,76,77,49])) b r.afterHead:=by rw [HAH.out];exact set_heap (o:=1) h1
 have HK2:=hide hk2;have HC3:=hide (rcount_any _ b _ 3 h2);clear h1 hk1 HT h2 hk2 HAH;go_wp2_with fail;generalize w1.setCell ⟨b,1,none⟩ (.bool !t == [72,69,76,77,49])=w2 at *;clear e0 f1 c1 hs1;refine HC3.out.mono ?_;rintro e w3 ⟨rfl,h3,hk3⟩;have hs2:=HK2.out.size;have hk13:=HK2.out.trans hk3 (fun k h=>.inl h);have hI3:=(hk13.block (w.heap.size+1) (by omega) (by omega)).trans HI0.out;have hR3:=(hk13.block w.heap.size (by omega) (by omega)).trans HR0.out;have hs3:=hk13.size;have HN:=hide (Mx.count_le r.afterHead 3);have HVS:Hid (r.vs=Mx.many Mx.Rd.var (r.afterHead.count 3).1 (r.afterHead.count 3).2):=hide rfl;generalize r.afterHead.count 3=q3 at *;obtain ⟨n,r3⟩:=q3;simp only at HN HVS h3 |-;have H3:=hide h3;have HI3:=hide hI3;have HR3:=hide hR3;have HK3:=hide hk13;have hn3:=HN.out;clear h3 hI3 hR3 hk13 hk3 HC3 HK2 HI0 HR0 hs2;have HKw:Hid (Kp (fun k=>k=b) w w3):=hide ((Kp.ofBelow HB.out).trans HK3.out (fun k h=>.inl h));obtain ⟨iv,hiv,hv0,hv1,hv2⟩:=info_parts Tryz.infoMVar;go_wp2_with fail
 go_loopg [16] n (fun k v16 wr=>∃ (q:Nat) (V:Value),q+k=n/\v16=.int .i64 q/\Kp (fun k=>k=b) w wr/\wr.heap[w.heap.size]? = some (.cells (mbC (.slice none 0 0) (.slice none 0 0) 0) 106 (0,0))/\wr.heap[w.heap.size+1]? = some (.cells (mbC V (.slice none 0 0) 0) 106 (0,0))/\wr.ownsRow (w.heap.size+2) 168 2 V q ((Mx.many Mx.Rd.var q r3).1.flatMap mvC)/\RdIs wr b (Mx.many Mx.Rd.var q r3).2)
 case atStart=>exact ⟨0,.slice none 0 0,by omega,rfl,HKw.out,HR3.out,HI3.out,World.ownsRow_nil _ _ _ _,H3.out⟩
 case round =>
  obtain ⟨q,V,hq,rfl,hkw,hrb,hib,ho,hrd⟩:=hrel;obtain ⟨aV,cV,rfl,_,_⟩:=row_shape ho;have hsr:w.heap.size+1<wr.heap.size:=(Array.getElem?_eq_some_iff.1 hib).1;have HO:=hide ho;have HIb:=hide hib;have HRb:=hide hrb;have HKr:=hide hkw
  by_cases hlt:q<n
  ·have hqi:(q:Int)<n:=by omega
   have hq0:(0:Int)<=q:=by omega
   have HSN:=hide (Mx.many_snoc Mx.Rd.var q r3);obtain ⟨xs,hxs⟩ : ∃ xs,xs=(Mx.many Mx.Rd.var q r3).1.flatMap mvC:=⟨_,rfl⟩;obtain ⟨rq,hrq⟩ : ∃ rq,rq=(Mx.many Mx.Rd.var q r3).2:=⟨_,rfl⟩;rw [<- hxs] at HO;rw [<- hrq] at hrd HSN;have HXS:=hide hxs;have HNB:=hide (rnumber_any wr b rq hrd);have HV:Hid (rq.var=((Mx.sgn rq.two.1,Mx.sgn rq.two.2.two.1),rq.two.2.two.2)):=hide rfl;clear hxs hrq ho hib hrb hkw hrd;generalize Mx.sgn rq.two.1=x at *;generalize rq.two.2=rr at *;go_wp2_with fail;refine HNB.out.mono ?_;rintro e w4 ⟨rfl,h4,hk4⟩;have hs4:=hk4.size;have CK:Hid (∀ Y,Below w4.heap.size w4 Y->Calls Tryz.prog 179 #[.pointer (some ⟨b,0,none⟩)] Y fun e w'=>e=.returned (.int .i64 (Mx.sgn rr.two.1))/\RdIs w' b rr.two.2/\Kp (fun k=>k=b) Y w'):=hide (fun Y hY=>rnumber_any Y b rr (h4.kept (Kp.ofBelow (F:=fun _=>False) hY) id));generalize Mx.sgn rr.two.1=y at *;generalize rr.two.2=re at *;have hI4:=(hk4.block (w.heap.size+1) (by omega) (by omega)).trans HIb.out;have HI4:=hide hI4;have HR4:=hide ((hk4.block w.heap.size (by omega) (by omega)).trans HRb.out);have HO4:=hide (hk4.own HO.out (fun k hk e=>by have:=(HO.out.lt k hk).1;omega));have HK4:Hid (Kp (fun k=>k=b) w w4):=hide (HKr.out.trans hk4 (fun k h=>.inl h));have y0:w4.cell? ⟨w.heap.size+1,0,none⟩=some (.slice aV q cV):=Lib.cell_of_heap hI4 0;have hml:q+1<=maxLen:=by unfold maxLen;omega
   have hmb:(q+1)*16<=140737488355328:=by omega
   have hlb:∀ k,(Value.slice aV q cV).ownBlock=some k->w.heap.size+2<=k:=fun k hk=>(HO.out.lt k hk).1
   have hs5:w.heap.size+1<w4.heap.size:=by omega
   have hbn:¬ w.heap.size+1=b:=by omega
   clear h4 hk4 HNB HIb HRb HKr hI4;have hnb:∀ k,(Value.slice aV q cV).ownBlock=some k->¬ k=b:=fun k hk e=>by have:=hlb k hk;omega
   go_wp2_with fail
   go_region_law (first | (refine step_append_own_at rfl _ _ 103 rfl (w.heap.size+2) 168 iv _ 2 16 Tryz.underlying103 hiv hv0 hv1 hv2 rfl (by decide) _ q xs rfl (own_below hO5 (below_a _ _)) ⟨_,0,none⟩ 1 1 [.int .i64 x,.int .i64 y] rfl rfl (news_new _ _ rfl [.int .i64 x,.int .i64 y] _) (ones2 rfl rfl) hml hmb (Nat.le_trans h15 (below_a _ _).size) ?_;intro v6 w6 hown hgrow hat;have hG6:=gr_grown hown hgrow hat;obtain ⟨a6,c6,rfl,_,_⟩:=row_shape hown;have hib6:=(hG6.kept.block (w.heap.size+1) (Nat.lt_of_lt_of_le h15 (below_a _ _).size) (fun e=>Nat.lt_irrefl _ (hlb _ e))).trans (((below_a w5 _).block (w.heap.size+1) h15).trans hI5);have y6:w6.cell? ⟨w.heap.size+1,0,none⟩=some (.slice aV q cV):=Lib.cell_of_heap hib6 0;have f6:w6.frozen? ⟨w.heap.size+1,0,none⟩=false:=Lib.frozen_of_heap hib6 0) | (go_simp;go_at_call 179;refine (CK.out _ ?_).mono ?_;(with_reducible exact below_d _);rintro e w5 ⟨rfl,h5,hk5⟩;have hk5':Kp (fun k=>k=b) w4 w5:=(Kp.ofBelow (below_d w4)).trans hk5 (fun k h=>.inl h);have hI5:=(hk5'.block (w.heap.size+1) hs5 hbn).trans HI4.out;have z0:w5.cell? ⟨w.heap.size+1,0,none⟩=some (.slice aV q cV):=Lib.cell_of_heap hI5 0;have hO5:=hk5'.own HO4.out hnb;have h15:=Nat.lt_of_lt_of_le hs5 hk5'.size;have z1:=((below_a w5 (.cells #[.int .i64 x,.int .i64 y] 168)).cell (p:=⟨w.heap.size+1,0,none⟩) h15).trans z0))
   all_goals
    have hkS:Kp (fun k=>k=w.heap.size+1) w6 (w6.setCell ⟨w.heap.size+1,0,none⟩ (.slice a6 (q+1) c6)):=(Kp.refl (fun k=>k=w.heap.size+1) w6).setCell (p:=⟨w.heap.size+1,0,none⟩) (.inl rfl) _;have h6s:w5.heap.size<w6.heap.size:=Nat.lt_of_lt_of_le (by simp) hG6.kept.size;have HKZ:Hid (Kp (fun k=>k=b) w (w6.setCell ⟨w.heap.size+1,0,none⟩ (.slice a6 (q+1) c6))):=hide (((((HK4.out.trans hk5' (fun k h=>.inl h)).alloc _).trans hG6.kept (fun k e=>.inr (by have:=hlb k e;omega))).trans hkS (fun k e=>.inr (by omega))));have HRZ:=hide ((hkS.block w.heap.size (by omega) (by omega)).trans ((hG6.kept.block w.heap.size (by simp;omega) (fun e=>by have:=hlb _ e;omega)).trans (((below_a w5 (.cells #[.int .i64 x,.int .i64 y] 168)).block w.heap.size (by omega)).trans ((hk5'.block w.heap.size (by omega) (by omega)).trans HR4.out))));have HIZ:Hid ((w6.setCell ⟨w.heap.size+1,0,none⟩ (.slice a6 (q+1) c6)).heap[w.heap.size+1]? = some (.cells (mbC (.slice a6 (q+1) c6) (.slice none 0 0) 0) 106 (0,0))):=hide (set_heap hib6);have HSZ:Hid (Mx.many Mx.Rd.var (q+1) r3=((Mx.many Mx.Rd.var q r3).1++[(x,y)],re)):=hide (by rw [HSN.out,HV.out])
    have HOZ:Hid ((w6.setCell ⟨w.heap.size+1,0,none⟩ (.slice a6 (q+1) c6)).ownsRow (w.heap.size+2) 168 2 (.slice a6 (q+1) c6) (q+1) ((Mx.many Mx.Rd.var (q+1) r3).1.flatMap mvC)):=hide (by
     rw [HSZ.out,List.flatMap_append,<- HXS.out]
     exact hkS.own hown (fun k hk e=>by have:=(hown.lt k hk).1;omega))
    have HDZ:Hid (RdIs (w6.setCell ⟨w.heap.size+1,0,none⟩ (.slice a6 (q+1) c6)) b (Mx.many Mx.Rd.var (q+1) r3).2):=hide (by
     rw [HSZ.out]
     exact ((h5.kept (Kp.ofBelow (F:=fun _=>False) (below_a w5 _)) id).kept hG6.kept (fun e=>by have:=hlb _ e;omega)).kept hkS (by omega))
    clear hown hgrow hat hG6 hib6 hkS y6 f6 z0 z1 hk5 hk5' hI5 hO5 h15 h5 y0 hnb hlb;go_wp2_with fail
    go_roundg (n-(q+1))
    case measure=>omega
    case rel=>exact ⟨q+1,_,by omega,by go_num,HKZ.out,HRZ.out,HIZ.out,HOZ.out,HDZ.out⟩
  ·obtain rfl:q=n:=by omega
   have HVS2:Hid (r.vs=Mx.many Mx.Rd.var q r3):=hide HVS.out;rw [<- HVS2.out] at HO hrd;have HC12:=hide (rcount_any wr b r.vs.2 12 hrd);have HNL:Hid (r.nl=r.vs.2.count 12):=hide rfl;have HN12:=hide (Mx.nl_le r);rw [<- HNL.out] at HC12;clear ho hib hrb hkw hrd HVS HNL;obtain ⟨m,hm⟩ : ∃ m,m=r.nl.1:=⟨_,rfl⟩;obtain ⟨r4,hr4⟩ : ∃ r4,r4=r.nl.2:=⟨_,rfl⟩;have HF:Hid (r.fst=r4.one):=hide (by rw [hr4];rfl);have HM:=hide hm;rw [<- hm] at HC12 HN12;rw [<- hr4] at HC12;clear hm hr4;go_wp2_with fail;refine HC12.out.mono ?_;rintro e w7 ⟨rfl,h7,hk7⟩;have hs7:=hk7.size;have HK7:Hid (Kp (fun k=>k=b) w w7):=hide (HKr.out.trans hk7 (fun k h=>.inl h));have HR7:=hide ((hk7.block w.heap.size (by omega) (by omega)).trans HRb.out);have hI7:=(hk7.block (w.heap.size+1) hsr (by omega)).trans HIb.out;have HO7:=hide (hk7.own HO.out (fun k hk e=>by have:=(HO.out.lt k hk).1;omega));have HON:=hide (rone_any w7 b r4 h7);rw [<- HF.out] at HON;obtain ⟨ft,hft⟩ : ∃ ft,ft=r.fst.1:=⟨_,rfl⟩;obtain ⟨r5,hr5⟩ : ∃ r5,r5=r.fst.2:=⟨_,rfl⟩;rw [<- hft,<- hr5] at HON;have HFT:=hide hft;have HR5:=hide hr5;have HI7:=hide hI7;have hn12:=HN12.out;clear h7 hk7 hI7 HC12 HKr HRb HIb HO HF hft hr5;go_wp2_with fail;refine HON.out.mono ?_;rintro e w8 ⟨rfl,h8,hk8⟩;have hs8:=hk8.size;have HK8:Hid (Kp (fun k=>k=b) w w8):=hide (HK7.out.trans hk8 (fun k h=>.inl h));have HR8:=hide ((hk8.block w.heap.size (by omega) (by omega)).trans HR7.out);have hI8:=(hk8.block (w.heap.size+1) (by omega) (by omega)).trans HI7.out;have HO8:=hide (hk8.own HO7.out (fun k hk e=>by have:=(HO7.out.lt k hk).1;omega));have hkS:Kp (fun k=>k=w.heap.size+1) w8 (w8.setCell ⟨w.heap.size+1,2,none⟩ (.int .i64 ft)):=(Kp.refl (fun k=>k=w.heap.size+1) w8).setCell (p:=⟨w.heap.size+1,2,none⟩) (.inl rfl) _;have hI9:(w8.setCell ⟨w.heap.size+1,2,none⟩ (.int .i64 ft)).heap[w.heap.size+1]? = some (.cells (mbC (.slice aV q cV) (.slice none 0 0) ft) 106 (0,0)):=set_heap (o:=2) hI8;have HI9:=hide hI9;have H9:=hide (h8.kept hkS (by omega));have HK9:Hid (Kp (fun k=>k=b) w (w8.setCell ⟨w.heap.size+1,2,none⟩ (.int .i64 ft))):=hide (HK8.out.trans hkS (fun k h=>.inr (by omega)));have HR9:=hide ((hkS.block w.heap.size (by omega) (by omega)).trans HR8.out);have HO9:=hide (hkS.own HO8.out (fun k hk e=>by have:=(HO8.out.lt k hk).1;omega));have y2:w8.cell? ⟨w.heap.size+1,2,none⟩=some (.int .i64 0):=Lib.cell_of_heap hI8 2;have f2:w8.frozen? ⟨w.heap.size+1,2,none⟩=false:=Lib.frozen_of_heap hI8 2;have y9:(w8.setCell ⟨w.heap.size+1,2,none⟩ (.int .i64 ft)).cell? ⟨w.heap.size+1,2,none⟩=some (.int .i64 ft):=Lib.cell_of_heap hI9 2;clear h8 hk8 hI8 HON HK7 HR7 HI7 HO7 HK8 HR8 HO8 hkS hI9;go_upto_region 10 with (fail);generalize w8.setCell ⟨w.heap.size+1,2,none⟩ (.int .i64 ft)=w9 at *;clear y2 f2;have c1:w9.cell? ⟨b,1,none⟩=some (.bool r5.wrong):=Lib.cell_of_heap H9.out 1;have f1:w9.frozen? ⟨b,1,none⟩=false:=Lib.frozen_of_heap H9.out 1;have hi9:=(Array.getElem?_eq_some_iff.1 HI9.out).1;have HR6:Hid (r.ls=Mx.many Mx.Rd.leaf m (r5.mark (decide (m<=ft)))):=hide (by rw [HM.out,HR5.out,HFT.out];rfl);obtain ⟨il,hil,hl0,hl1,hl2⟩:=info_parts Tryz.infoMLeaf
   by_cases hmf:m<=ft
   case' pos =>
    have hmi:(m:Int)<=ft:=by omega
    have hk1:Kp (fun k=>k=b) w9 (w9.setCell ⟨b,1,none⟩ (.bool true)):=kp_set _ _ _ _;have HA:=hide (HK9.out.trans hk1 (fun k h=>.inl h));have HBb:=hide ((hk1.block w.heap.size (by omega) (by omega)).trans HR9.out);have HCc:=hide ((hk1.block (w.heap.size+1) (by omega) (by omega)).trans HI9.out);have HD:=hide (hk1.own HO9.out (fun k hk e=>by have:=(HO9.out.lt k hk).1;omega))
    have HE:Hid (RdIs (w9.setCell ⟨b,1,none⟩ (.bool true)) b (r5.mark (decide (m<=ft)))):=hide (by
     rw [decide_eq_true hmf,show r5.mark true=⟨r5.rest,true⟩ by simp [Mx.Rd.mark]]
     exact set_heap (o:=1) H9.out)
    clear hk1 HK9 HR9 HI9 HO9 H9;go_upto_region 12 with (fail);generalize w9.setCell ⟨b,1,none⟩ (.bool true)=wA at *
   case' neg =>
    have hmi:¬ (m:Int)<=ft:=by omega
    have HE:Hid (RdIs w9 b (r5.mark (decide (m<=ft)))):=hide (by
     rw [decide_eq_false hmf,show r5.mark false=r5 by simp [Mx.Rd.mark]]
     exact H9.out)
    have HA:=HK9;have HBb:=HR9;have HCc:=HI9;have HD:=HO9;clear H9 HK9 HR9 HI9 HO9;go_upto_region 12 with (fail);generalize w9=wA at *
   all_goals
    clear y9 c1 f1 hmf hmi hi9 HM HR5;generalize r5.mark (decide (m<=ft))=r6 at *;have hcv:=conv_any;go_wp2_with fail
    go_loopg [43] m (fun k v43 wx=>∃ (i:Nat) (L:Value) (ps:List (List UInt8×Value)),i+k=m/\v43=.int .i64 i/\Kp (fun k=>k=b) w wx/\wx.heap[w.heap.size]? = some (.cells (mbC (.slice none 0 0) (.slice none 0 0) 0) 106 (0,0))/\wx.heap[w.heap.size+1]? = some (.cells (mbC (.slice aV q cV) L ft) 106 (0,0))/\wx.ownsRow (w.heap.size+2) 168 2 (.slice aV q cV) q (r.vs.1.flatMap mvC)/\wx.ownsRow (w.heap.size+2) 102 2 L i (ps.flatMap mlC)/\ps.map (·.1)=(Mx.many Mx.Rd.leaf i r6).1.map (·.1)/\(∀ j (hj:j<ps.length) (hj2:j<(Mx.many Mx.Rd.leaf i r6).1.length),PgB wx ps[j].2 (Mx.many Mx.Rd.leaf i r6).1[j].2)/\RdIs wx b (Mx.many Mx.Rd.leaf i r6).2)
    case atStart=>exact ⟨0,.slice none 0 0,[],by omega,rfl,HA.out,HBb.out,HCc.out,HD.out,World.ownsRow_nil _ _ _ _,rfl,fun j hj=>absurd hj (by simp),HE.out⟩
    case round =>
     obtain ⟨i,L,ps,hi,rfl,hkx,hrx,hix,hvx,hlx,hpn,hpx,hdx⟩:=hrel;obtain ⟨aL,cL,rfl,_,_⟩:=row_shape hlx;have hsx:w.heap.size+1<wr.heap.size:=(Array.getElem?_eq_some_iff.1 hix).1;have HLX:=hide hlx;have HVX:=hide hvx;have HIX:=hide hix;have HRX:=hide hrx;have HKX:=hide hkx;have HPX:=hide hpx;have HPN:=hide hpn
     by_cases hlt:i<m
     ·have hii:(i:Int)<m:=by omega
      have hi0:(0:Int)<=i:=by omega
      have HSN:=hide (Mx.many_snoc Mx.Rd.leaf i r6);obtain ⟨ri,hri⟩ : ∃ ri,ri=(Mx.many Mx.Rd.leaf i r6).2:=⟨_,rfl⟩;rw [<- hri] at hdx HSN;have HC8:=hide (rcount_any wr b ri 8 hdx);have HC8R:=hide hdx;have HLF:Hid (ri.leaf=((((ri.count 8).2.take (ri.count 8).1).1,(((ri.count 8).2.take (ri.count 8).1).2.two.2.take ((ri.count 8).2.take (ri.count 8).1).2.two.1).1),(((ri.count 8).2.take (ri.count 8).1).2.two.2.take ((ri.count 8).2.take (ri.count 8).1).2.two.1).2)):=hide rfl;have HC8L:=hide (Mx.count_le ri 8);generalize ri.count 8=c8 at *;obtain ⟨cn,ra⟩:=c8;simp only at HC8 HLF HC8L;clear hri hlx hvx hix hrx hkx hpx hpn hdx;go_wp2_with fail;refine HC8.out.mono ?_;rintro e wa ⟨rfl,ha,hka⟩;have HTA:=hide (rtake_any wa b ra cn ha);have hnl:=(Mx.take_len ra cn).1;generalize ra.take cn=tn at *;obtain ⟨nm,rb⟩:=tn;simp only at HTA HLF hnl;have hn8:=HC8L.out;clear ha HC8;go_wp2_with fail;refine HTA.out.mono ?_;rintro e wb ⟨rfl,hb1,hkb⟩;have HTW:=hide (rtwo_any wb b rb hb1);generalize rb.two=tw at *;obtain ⟨pn,rc⟩:=tw;simp only at HTW HLF;clear hb1 HTA;go_wp2_with fail;refine HTW.out.mono ?_;rintro e wc ⟨rfl,hc1,hkc⟩;have HTP:=hide (rtake_any wc b rc pn hc1);generalize rc.take pn=tp at *;obtain ⟨pg,rd⟩:=tp;simp only at HTP HLF;clear hc1 HTW;go_wp2_with fail;refine HTP.out.mono ?_;rintro e wd ⟨rfl,hd1,hkd⟩;clear HTP;have hkD:Kp (fun k=>k=b) wr wd:=((hka.trans hkb (fun k h=>.inl h)).trans hkc (fun k h=>.inl h)).trans hkd (fun k h=>.inl h);have hsd:w.heap.size+1<wd.heap.size:=Nat.lt_of_lt_of_le hsx hkD.size;have hId:=(hkD.block (w.heap.size+1) hsx (by omega)).trans HIX.out;have HId:=hide hId;have HRd:=hide ((hkD.block w.heap.size (by omega) (by omega)).trans HRX.out);have HLd:=hide (hkD.own HLX.out (fun k hk e=>by have:=(HLX.out.lt k hk).1;omega));have HVd:=hide (hkD.own HVX.out (fun k hk e=>by have:=(HVX.out.lt k hk).1;omega));have HKd:Hid (Kp (fun k=>k=b) w wd):=hide (HKX.out.trans hkD (fun k h=>.inl h));have Hd1:=hide hd1;have hbu:∀ g cur fr,wr.heap[g]? = some (.cells cur 5 fr)->¬ g=b:=fun g cur fr hg e=>by
       subst e;have h2:=HC8R.out;rw [RdIs,hg] at h2;simp at h2
      have HPd:Hid (∀ j (hj:j<ps.length) (hj2:j<(Mx.many Mx.Rd.leaf i r6).1.length),PgB wd ps[j].2 (Mx.many Mx.Rd.leaf i r6).1[j].2):=hide (fun j hj hj2=>(HPX.out j hj hj2).kept hkD hbu);have y1:wd.cell? ⟨w.heap.size+1,1,none⟩=some (.slice aL i cL):=Lib.cell_of_heap hId 1;have y1b:=((Lib.bytesWorld_below wd.drew 5 (bstr pg)).cell (p:=⟨w.heap.size+1,1,none⟩) hsd).trans (show wd.drew.cell? ⟨w.heap.size+1,1,none⟩=some (.slice aL i cL) from y1);have CK:Hid (∀ Y,Below wd.heap.size wd Y->Calls Tryz.prog 54 #[.string (bstr nm)] Y fun e w'=>e=.returned (.string (bstr nm))/\Below Y.heap.size Y w'):=hide (fun Y _=>Clone_any Y (bstr nm) (by rw [bstr_size];omega));have hlb:∀ k,(Value.slice aL i cL).ownBlock=some k->w.heap.size+2<=k:=fun k hk=>(HLX.out.lt k hk).1
      have hml:i+1<=maxLen:=by unfold maxLen;omega
      have hmb:(i+1)*40<=140737488355328:=by omega
      clear hka hkb hkc hkd hkD hd1 hId hbu HIX HRX HLX HVX HKX HPX;go_wp2_with fail
      go_region_law (first | (refine step_append_own_at rfl _ _ 104 rfl (w.heap.size+2) 102 il _ 2 40 Tryz.underlying104 hil hl0 hl1 hl2 rfl (by decide) _ i (ps.flatMap mlC) rfl (own_below (own_below HLd.out (hBe.trans ((Lib.bytesWorld_below we 5 (bstr pg)).mono hBe.size))) (below_a _ _)) ⟨_,0,none⟩ 1 1 [.string (bstr nm),(.slice (some ⟨we.heap.size,0,none⟩) (bstr pg).size (grownCap we (bstr pg).size 0 5))] rfl rfl (news_new _ _ rfl [.string (bstr nm),(.slice (some ⟨we.heap.size,0,none⟩) (bstr pg).size (grownCap we (bstr pg).size 0 5))] _) (ones2 rfl rfl) hml hmb (Nat.le_trans hsd (Nat.le_trans (hBe.trans ((Lib.bytesWorld_below we 5 (bstr pg)).mono hBe.size)).size (below_a _ _).size)) ?_;intro v5 w5 hown hgrow hat;have hG5:=gr_grown hown hgrow hat;obtain ⟨a5,c5,rfl,_,_⟩:=row_shape hown;have hX5:Kp (fun k=>(Value.slice aL i cL).ownBlock=some k) wd w5:=((Kp.ofBelow (hBe.trans ((Lib.bytesWorld_below we 5 (bstr pg)).mono hBe.size))).alloc _).trans hG5.kept (fun k h=>.inl h);have hpg5:=(pgB_new we pg).kept ((Kp.refl (fun _=>False) _).alloc (.cells #[.string (bstr nm),(.slice (some ⟨we.heap.size,0,none⟩) (bstr pg).size (grownCap we (bstr pg).size 0 5))] 102)) (fun _ _ _ _ h=>h) |>.kept hG5.kept (fun g cur fr hg=>row_off (own_below (own_below HLd.out (hBe.trans ((Lib.bytesWorld_below we 5 (bstr pg)).mono hBe.size))) (below_a _ _)) hg (by decide));have hib5:=(hX5.block (w.heap.size+1) hsd (fun e=>Nat.lt_irrefl _ (hlb _ e))).trans HId.out;have y5:w5.cell? ⟨w.heap.size+1,1,none⟩=some (.slice aL i cL):=Lib.cell_of_heap hib5 1;have f5:w5.frozen? ⟨w.heap.size+1,1,none⟩=false:=Lib.frozen_of_heap hib5 1) | (refine step_append_own_at rfl _ _ 104 rfl (w.heap.size+2) 102 il _ 2 40 Tryz.underlying104 hil hl0 hl1 hl2 rfl (by decide) _ i (ps.flatMap mlC) rfl (own_below (own_below HLd.out (hBe)) (below_a _ _)) ⟨_,0,none⟩ 1 1 [.string (bstr nm),(.slice (some ⟨wd.heap.size,0,none⟩) (bstr pg).size (grownCap wd.drew (bstr pg).size 0 5))] rfl rfl (news_new _ _ rfl [.string (bstr nm),(.slice (some ⟨wd.heap.size,0,none⟩) (bstr pg).size (grownCap wd.drew (bstr pg).size 0 5))] _) (ones2 rfl rfl) hml hmb (Nat.le_trans hsd (Nat.le_trans (hBe).size (below_a _ _).size)) ?_;intro v5 w5 hown hgrow hat;have hG5:=gr_grown hown hgrow hat;obtain ⟨a5,c5,rfl,_,_⟩:=row_shape hown;have hX5:Kp (fun k=>(Value.slice aL i cL).ownBlock=some k) wd w5:=((Kp.ofBelow (hBe)).alloc _).trans hG5.kept (fun k h=>.inl h);have hpg5:=(hPe).kept ((Kp.refl (fun _=>False) _).alloc (.cells #[.string (bstr nm),(.slice (some ⟨wd.heap.size,0,none⟩) (bstr pg).size (grownCap wd.drew (bstr pg).size 0 5))] 102)) (fun _ _ _ _ h=>h) |>.kept hG5.kept (fun g cur fr hg=>row_off (own_below (own_below HLd.out (hBe)) (below_a _ _)) hg (by decide));have hib5:=(hX5.block (w.heap.size+1) hsd (fun e=>Nat.lt_irrefl _ (hlb _ e))).trans HId.out;have y5:w5.cell? ⟨w.heap.size+1,1,none⟩=some (.slice aL i cL):=Lib.cell_of_heap hib5 1;have f5:w5.frozen? ⟨w.heap.size+1,1,none⟩=false:=Lib.frozen_of_heap hib5 1) | (go_simp;go_at_call 54;refine (CK.out _ ?_).mono ?_;(with_reducible exact below_d _);rintro e we ⟨rfl,hbe⟩;have hBe:=(below_d wd).trans (hbe.mono (below_d wd).size);have z1:=(hBe.cell (p:=⟨w.heap.size+1,1,none⟩) hsd).trans y1;have z2:=((Lib.bytesWorld_below we 5 (bstr pg)).cell (p:=⟨w.heap.size+1,1,none⟩) (Nat.lt_of_lt_of_le hsd hBe.size)).trans z1;have z3:=((below_a (Lib.bytesWorld we 5 (bstr pg)) (.cells #[.string (bstr nm),(.slice (some ⟨we.heap.size,0,none⟩) (bstr pg).size (grownCap we (bstr pg).size 0 5))] 102)).cell (p:=⟨w.heap.size+1,1,none⟩) (Nat.lt_of_lt_of_le hsd (Nat.le_trans hBe.size (Lib.bytesWorld_below we 5 (bstr pg)).size))).trans z2) | (go_simp;go_at_call 54;refine (CK.out _ ?_).mono ?_;(with_reducible exact (below_d wd).trans ((Lib.bytesWorld_below wd.drew _ _).mono (below_d wd).size));rintro e we ⟨rfl,hbe⟩;have hBe:=((below_d wd).trans ((Lib.bytesWorld_below wd.drew 5 (bstr pg)).mono (below_d wd).size)).trans (hbe.mono ((below_d wd).trans ((Lib.bytesWorld_below wd.drew 5 (bstr pg)).mono (below_d wd).size)).size);have hPe:=(pgB_new wd.drew pg).kept (Kp.ofBelow (F:=fun _=>False) hbe) (fun _ _ _ _ h=>h);have z1:=(hBe.cell (p:=⟨w.heap.size+1,1,none⟩) hsd).trans y1;have z3:=((below_a we (.cells #[.string (bstr nm),(.slice (some ⟨wd.heap.size,0,none⟩) (bstr pg).size (grownCap wd.drew (bstr pg).size 0 5))] 102)).cell (p:=⟨w.heap.size+1,1,none⟩) (Nat.lt_of_lt_of_le hsd hBe.size)).trans z1))
      all_goals
       have hkS:Kp (fun k=>k=w.heap.size+1) w5 (w5.setCell ⟨w.heap.size+1,1,none⟩ (.slice a5 (i+1) c5)):=(Kp.refl (fun k=>k=w.heap.size+1) w5).setCell (p:=⟨w.heap.size+1,1,none⟩) (.inl rfl) _;have hs5:=hX5.size;have hnu:∀ g cur fr,w5.heap[g]? = some (.cells cur 5 fr)->¬ g=w.heap.size+1:=fun g cur fr hg e=>by
        subst e;rw [hib5] at hg;simp at hg
       have hfin:∃ pv,(w5.setCell ⟨w.heap.size+1,1,none⟩ (.slice a5 (i+1) c5)).ownsRow (w.heap.size+2) 102 2 (.slice a5 (i+1) c5) (i+1) ((ps++[(nm,pv)]).flatMap mlC)/\PgB (w5.setCell ⟨w.heap.size+1,1,none⟩ (.slice a5 (i+1) c5)) pv pg:=by
        refine ⟨_,?_,hpg5.kept hkS hnu⟩;rw [List.flatMap_append];exact hkS.own hown (fun k hk e=>by have:=(hown.lt k hk).1;omega)
       obtain ⟨pv,hLZ,hpZ⟩:=hfin;have HLZ:=hide hLZ;have HKZ:Hid (Kp (fun k=>k=b) w (w5.setCell ⟨w.heap.size+1,1,none⟩ (.slice a5 (i+1) c5))):=hide ((HKd.out.trans hX5 (fun k e=>.inr (by have:=hlb k e;omega))).trans hkS (fun k e=>.inr (by omega)));have HRZ:=hide ((hkS.block w.heap.size (by omega) (by omega)).trans ((hX5.block w.heap.size (by omega) (fun e=>by have:=hlb _ e;omega)).trans HRd.out));have HIZ:Hid ((w5.setCell ⟨w.heap.size+1,1,none⟩ (.slice a5 (i+1) c5)).heap[w.heap.size+1]? = some (.cells (mbC (.slice aV q cV) (.slice a5 (i+1) c5) ft) 106 (0,0))):=hide (set_heap (o:=1) hib5);have hV5:=hX5.own HVd.out (rows_off HVd.out HLd.out (by decide));have HVZ:=hide (hkS.own hV5 (fun k hk e=>by have:=(hV5.lt k hk).1;omega));have HSZ:Hid (Mx.many Mx.Rd.leaf (i+1) r6=((Mx.many Mx.Rd.leaf i r6).1++[(nm,pg)],rd)):=hide (by rw [HSN.out,HLF.out]);have HNZ:Hid ((ps++[(nm,pv)]).map (·.1)=(Mx.many Mx.Rd.leaf (i+1) r6).1.map (·.1)):=hide (by rw [HSZ.out,List.map_append,List.map_append,HPN.out];rfl);have hpl:ps.length=(Mx.many Mx.Rd.leaf i r6).1.length:=by have:=congrArg List.length HPN.out;simpa using this
       have HPZ:Hid (∀ j (hj:j<(ps++[(nm,pv)]).length) (hj2:j<(Mx.many Mx.Rd.leaf (i+1) r6).1.length),PgB (w5.setCell ⟨w.heap.size+1,1,none⟩ (.slice a5 (i+1) c5)) (ps++[(nm,pv)])[j].2 (Mx.many Mx.Rd.leaf (i+1) r6).1[j].2):=hide (by
        rw [HSZ.out];intro j hj hj2
        by_cases hjp:j<ps.length
        ·rw [List.getElem_append_left hjp,List.getElem_append_left (by omega)]
         exact ((HPd.out j hjp (by omega)).kept hX5 (fun g cur fr hg=>row_off HLd.out hg (by decide))).kept hkS hnu
        ·have hje:j=ps.length:=by simp at hj;omega
         subst hje;simp only [List.getElem_append_right (Nat.le_refl _),hpl,Nat.sub_self,List.getElem_cons_zero];simp only [<- hpl,List.getElem_append_right (Nat.le_refl _),Nat.sub_self,List.getElem_cons_zero]
         exact hpZ)
       have HDZ:Hid (RdIs (w5.setCell ⟨w.heap.size+1,1,none⟩ (.slice a5 (i+1) c5)) b (Mx.many Mx.Rd.leaf (i+1) r6).2):=hide (by
        rw [HSZ.out]
        exact (Hd1.out.kept hX5 (fun e=>by have:=hlb _ e;omega)).kept hkS (by omega))
       clear hown hgrow hat hG5 hX5 hpg5 hib5 y5 f5 hkS hnu hLZ hpZ hV5 hBe z1 y1 y1b;go_wp2_with fail
       go_roundg (m-(i+1))
       case measure=>omega
       case rel=>exact ⟨i+1,_,_,by omega,by go_num,HKZ.out,HRZ.out,HIZ.out,HVZ.out,HLZ.out,HNZ.out,HPZ.out,HDZ.out⟩
     ·have him:i=m:=by omega
      have HIMG:Hid (r.image=(⟨r.vs.1,(Mx.many Mx.Rd.leaf i r6).1,ft⟩,(Mx.many Mx.Rd.leaf i r6).2)):=hide (by rw [him,<- HR6.out,HFT.out];rfl);have hvl:r.vs.1.length=q:=by rw [HVS2.out,Mx.many_len]
      have hll:(Mx.many Mx.Rd.leaf i r6).1.length=i:=Mx.many_len _ _ _;subst him;have hii:¬ (i:Int)<i:=by omega
      have y0:wr.cell? ⟨w.heap.size+1,0,none⟩=some (.slice aV q cV):=Lib.cell_of_heap hix 0;have y1:wr.cell? ⟨w.heap.size+1,1,none⟩=some (.slice aL i cL):=Lib.cell_of_heap hix 1;have y2:wr.cell? ⟨w.heap.size+1,2,none⟩=some (.int .i64 ft):=Lib.cell_of_heap hix 2;have z0:wr.cell? ⟨w.heap.size,0,none⟩=some (.slice none 0 0):=Lib.cell_of_heap hrx 0;have z1:wr.cell? ⟨w.heap.size,1,none⟩=some (.slice none 0 0):=Lib.cell_of_heap hrx 1;have z2:wr.cell? ⟨w.heap.size,2,none⟩=some (.int .i64 0):=Lib.cell_of_heap hrx 2;have f0:wr.frozen? ⟨w.heap.size,0,none⟩=false:=Lib.frozen_of_heap hrx 0;have f1:wr.frozen? ⟨w.heap.size,1,none⟩=false:=Lib.frozen_of_heap hrx 1;have f2:wr.frozen? ⟨w.heap.size,2,none⟩=false:=Lib.frozen_of_heap hrx 2;have hk0:Kp (fun k=>k=w.heap.size) wr (((wr.setCell ⟨w.heap.size,0,none⟩ (.slice aV q cV)).setCell ⟨w.heap.size,1,none⟩ (.slice aL i cL)).setCell ⟨w.heap.size,2,none⟩ (.int .i64 ft)):=(((Kp.refl (fun k=>k=w.heap.size) wr).setCell (p:=⟨w.heap.size,0,none⟩) (.inl rfl) _).setCell (p:=⟨w.heap.size,1,none⟩) (.inl rfl) _).setCell (p:=⟨w.heap.size,2,none⟩) (.inl rfl) _;have HZ:=hide hk0;have HRX':=hide hrx;have HD':=hide hdx;have HVl:=hide hvl;have HLl:=hide hll;clear hk0 hlx hvx hix hrx hkx hpx hpn hdx hvl hll;go_wp2_with fail;refine bodyPost_ret (v:=.agg #[.slice aV q cV,.slice aL i cL,.int .i64 ft]) (by simp [results,Tryz.results133,go_sem, *]) rfl ?_;rw [HIMG.out];have hnu:∀ g cur fr,wr.heap[g]? = some (.cells cur 5 fr)->¬ g=w.heap.size:=fun g cur fr hg e=>by
       subst e;rw [HRX'.out] at hg;simp at hg
      refine ⟨aV,cV,aL,⟨cL,by rw [HVl.out,HLl.out]⟩,?_,HD'.out.kept HZ.out (by omega),HKX.out.trans HZ.out (fun k e=>.inr (by omega))⟩;refine imM_of (V:=.slice aV q cV) (L:=.slice aL i cL) (cv:=cV) (cl:=cL) (ps:=ps) (base:=w.heap.size+2) (by rw [HVl.out]) (by rw [HLl.out]) ?_ ?_ HPN.out (fun j hj hj2=>(HPX.out j hj hj2).kept HZ.out hnu)
      ·simp only [HVl.out]
       exact HZ.out.own HVX.out (fun k hk e=>by have:=(HVX.out.lt k hk).1;omega)
      ·simp only [HLl.out]
       exact HZ.out.own HLX.out (fun k hk e=>by have:=(HLX.out.lt k hk).1;omega)
end
section
open Go.RowKit
attribute [local go_sem ↓] Go.wp_at_zero Go.wp_at_succ
def DecR (bs:List UInt8) (w:World) (e:Ending) (w':World):Prop:=Below w.heap.size w w'/\match Mx.decode bs with
 | none=>e=.returned (.tuple #[.agg #[.slice none 0 0,.slice none 0 0,.int .i64 0],.bool false])
 | some im=>∃ av cv al cl,e=.returned (.tuple #[.agg #[.slice av im.vars.length cv,.slice al im.leaves.length cl,.int .i64 im.first],.bool true])/\ImM w' w'.heap.size av al im
theorem belD (w:World) (o:Obj):Below w.heap.size w (w.alloc o).drew:=below_ad w o
theorem set3_below {w W:World} (h:Below w.heap.size w W) (a b c:Value):Below w.heap.size w (((W.setCell ⟨w.heap.size,0,none⟩ a).setCell ⟨w.heap.size,1,none⟩ b).setCell ⟨w.heap.size,2,none⟩ c) :=
 h.trans ((((Kp.refl (fun k=>k=w.heap.size) W).setCell (p:=⟨w.heap.size,0,none⟩) (.inl rfl) _).setCell (p:=⟨w.heap.size,1,none⟩) (.inl rfl) _).setCell (p:=⟨w.heap.size,2,none⟩) (.inl rfl) _ |>.toBelow (fun k e=>by omega) h.size)
theorem set3_kp (W:World) (g:Nat) (a b c:Value):Kp (fun k=>k=g) W (((W.setCell ⟨g,0,none⟩ a).setCell ⟨g,1,none⟩ b).setCell ⟨g,2,none⟩ c) :=
 (((Kp.refl (fun k=>k=g) W).setCell (p:=⟨g,0,none⟩) (.inl rfl) _).setCell (p:=⟨g,1,none⟩) (.inl rfl) _).setCell (p:=⟨g,2,none⟩) (.inl rfl) _
theorem back_any (W:World) (g cap:Nat) (l:List UInt8) (hc:∀ j (hj:j<l.length),W.cell? ⟨g,j,none⟩=some (Cx.bV l[j])):(convert 64 9 (.slice (some ⟨g,0,none⟩) l.length cap)).run Tryz.prog W=.ok (.string (bstr l)) W:=by
 have h:=run_convert_bytes_back (P:=Tryz.prog) W 64 9 5 ⟨g,0,none⟩ cap l Tryz.underlying64 Tryz.underlying5 Tryz.underlying9 (fun j hj=>by
  have e2:((⟨g,0,none⟩ : Addr).add j)=⟨g,j,none⟩:=by simp [Addr.add];omega
  rw [e2];exact hc j hj)
 exact h
theorem Decode_any (w:World) (bs:List UInt8) (hs:bs.length<=maxLen) :
  Calls Tryz.prog 89 #[.string (bstr bs)] w fun e w'=>DecR bs w e w':=by
 have hz:=bstr_size bs;have hcv:=conv_any;unfold maxLen at hs
 by_cases h4:bs.length<4
 ·have HD:Hid (Mx.decode bs=none):=hide (by unfold Mx.decode;rw [if_pos (.inl h4)])
  have h4':(bs.length:Int)-4<0:=by omega
  go_enter Tryz.func89,Tryz.ntmps89;go_wp2_with fail;refine wp_region_held_drew (S:=fun _=>True) (by kernel_rfl) trivial (fun hHeld=>?_);refine tkR 0 rfl ?_ ?_ hHeld ?_;rotate_left
  ·intro w hSw;(try dsimp only at hSw);go_simp;(try with_reducible rfl)
  (try simp only [Act.put,qA,qB,qC,qD,qE])
  refine tkR 1 rfl (.bool true) ?_ hHeld ?_
  ·intro w hSw;(try dsimp only at hSw);go_simp;(try simp);(try omega)
  (try simp only [Act.put,qA,qB,qC,qD,qE,qF])
  refine tkR 2 rfl ?_ ?_ hHeld ?_;rotate_left
  ·intro w hSw;(try dsimp only at hSw);go_simp;(try with_reducible rfl)
  (try simp only [Act.put,qA,qB,qC,qD,qE,qF])
  refine skR 3 rfl hHeld ?_
  (try simp only [Act.put,qA,qB,qC,qD,qE,qF])
  refine skR 4 rfl hHeld ?_
  (try simp only [Act.put,qA,qB,qC,qD,qE,qF])
  refine skR 5 rfl hHeld ?_
  (try simp only [Act.put,qA,qB,qC,qD,qE,qF])
  refine tkR 6 rfl ?_ ?_ hHeld ?_;rotate_left
  ·intro w hSw;(try dsimp only at hSw);go_simp;(try with_reducible rfl)
  (try simp only [Act.put,qA,qB,qC,qD,qE,qF])
  refine tkR 7 rfl ?_ ?_ hHeld ?_;rotate_left
  ·intro w hSw;(try dsimp only at hSw);go_simp;(try with_reducible rfl)
  (try simp only [Act.put,qA,qB,qC,qD,qE,qF])
  refine skR 8 rfl hHeld ?_
  (try simp only [Act.put,qA,qB,qC,qD,qE,qF])
  refine skR 9 rfl hHeld ?_
  (try simp only [Act.put,qA,qB,qC,qD,qE,qF])
  refine skR 10 rfl hHeld ?_
  (try simp only [Act.put,qA,qB,qC,qD,qE,qF])
  refine skR 11 rfl hHeld ?_
  (try simp only [Act.put,qA,qB,qC,qD,qE,qF])
  refine skR 12 rfl hHeld ?_
  (try simp only [Act.put,qA,qB,qC,qD,qE,qF])
  refine skR 13 rfl hHeld ?_
  (try simp only [Act.put,qA,qB,qC,qD,qE,qF])
  refine skR 14 rfl hHeld ?_
  (try simp only [Act.put,qA,qB,qC,qD,qE,qF])
  refine skR 15 rfl hHeld ?_
  (try simp only [Act.put,qA,qB,qC,qD,qE,qF])
  refine skR 16 rfl hHeld ?_
  (try simp only [Act.put,qA,qB,qC,qD,qE,qF])
  refine skR 17 rfl hHeld ?_
  (try simp only [Act.put,qA,qB,qC,qD,qE,qF])
  refine tkR 18 rfl ?_ ?_ hHeld ?_;rotate_left
  ·intro w hSw;(try dsimp only at hSw);go_simp;(try with_reducible rfl)
  (try simp only [Act.put,qA,qB,qC,qD,qE,qF])
  refine wpAnyH_done (by kernel_rfl) ?_ _;go_wp2_with fail;refine bodyPost_ret (v:=.tuple #[.agg #[.slice none 0 0,.slice none 0 0,.int .i64 0],.bool false]) (by simp [results,Tryz.results89,go_sem, *]) rfl ?_;refine ⟨belD w _,?_⟩;rw [HD.out]
 by_cases h6:60000<bs.length
 ·have HD:Hid (Mx.decode bs=none):=hide (by unfold Mx.decode;rw [if_pos (.inr (.inl h6))])
  have h4':¬ (bs.length:Int)-4<0:=by omega
  have h6':(60000:Int)<bs.length:=by omega
  go_enter Tryz.func89,Tryz.ntmps89;go_wp2_with fail;refine wp_region_held_drew (S:=fun _=>True) (by kernel_rfl) trivial (fun hHeld=>?_);refine tkR 0 rfl ?_ ?_ hHeld ?_;rotate_left
  ·intro w hSw;(try dsimp only at hSw);go_simp;(try with_reducible rfl)
  (try simp only [Act.put,qA,qB,qC,qD,qE])
  refine tkR 1 rfl (.bool false) ?_ hHeld ?_
  ·intro w hSw;(try dsimp only at hSw);go_simp;(try simp);(try omega)
  (try simp only [Act.put,qA,qB,qC,qD,qE,qF])
  refine tkR 2 rfl ?_ ?_ hHeld ?_;rotate_left
  ·intro w hSw;(try dsimp only at hSw);go_simp;(try with_reducible rfl)
  (try simp only [Act.put,qA,qB,qC,qD,qE,qF])
  refine tkR 3 rfl ?_ ?_ hHeld ?_;rotate_left
  ·intro w hSw;(try dsimp only at hSw);go_simp;(try with_reducible rfl)
  (try simp only [Act.put,qA,qB,qC,qD,qE,qF])
  refine tkR 4 rfl ?_ ?_ hHeld ?_;rotate_left
  ·intro w hSw;(try dsimp only at hSw);go_simp;(try with_reducible rfl)
  (try simp only [Act.put,qA,qB,qC,qD,qE,qF])
  refine tkR 5 rfl (.bool true) ?_ hHeld ?_
  ·intro w hSw;(try dsimp only at hSw);go_simp;(try simp);(try omega)
  (try simp only [Act.put,qA,qB,qC,qD,qE,qF])
  refine tkR 6 rfl ?_ ?_ hHeld ?_;rotate_left
  ·intro w hSw;(try dsimp only at hSw);go_simp;(try with_reducible rfl)
  (try simp only [Act.put,qA,qB,qC,qD,qE,qF])
  refine tkR 7 rfl ?_ ?_ hHeld ?_;rotate_left
  ·intro w hSw;(try dsimp only at hSw);go_simp;(try with_reducible rfl)
  (try simp only [Act.put,qA,qB,qC,qD,qE,qF])
  refine skR 8 rfl hHeld ?_
  (try simp only [Act.put,qA,qB,qC,qD,qE,qF])
  refine skR 9 rfl hHeld ?_
  (try simp only [Act.put,qA,qB,qC,qD,qE,qF])
  refine skR 10 rfl hHeld ?_
  (try simp only [Act.put,qA,qB,qC,qD,qE,qF])
  refine skR 11 rfl hHeld ?_
  (try simp only [Act.put,qA,qB,qC,qD,qE,qF])
  refine skR 12 rfl hHeld ?_
  (try simp only [Act.put,qA,qB,qC,qD,qE,qF])
  refine skR 13 rfl hHeld ?_
  (try simp only [Act.put,qA,qB,qC,qD,qE,qF])
  refine skR 14 rfl hHeld ?_
  (try simp only [Act.put,qA,qB,qC,qD,qE,qF])
  refine skR 15 rfl hHeld ?_
  (try simp only [Act.put,qA,qB,qC,qD,qE,qF])
  refine skR 16 rfl hHeld ?_
  (try simp only [Act.put,qA,qB,qC,qD,qE,qF])
  refine skR 17 rfl hHeld ?_
  (try simp only [Act.put,qA,qB,qC,qD,qE,qF])
  refine tkR 18 rfl ?_ ?_ hHeld ?_;rotate_left
  ·intro w hSw;(try dsimp only at hSw);go_simp;(try with_reducible rfl)
  (try simp only [Act.put,qA,qB,qC,qD,qE,qF])
  refine wpAnyH_done (by kernel_rfl) ?_ _;go_wp2_with fail;refine bodyPost_ret (v:=.tuple #[.agg #[.slice none 0 0,.slice none 0 0,.int .i64 0],.bool false]) (by simp [results,Tryz.results89,go_sem, *]) rfl ?_;refine ⟨belD w _,?_⟩;rw [HD.out]
 obtain ⟨n,hn⟩ : ∃ n,bs.length=n+4:=⟨bs.length-4,by omega⟩;have HN:=hide hn;rw [hn] at hz;have h4':¬ ((n+4:Nat):Int)-4<0:=by omega
 have h6':¬ (60000:Int)<((n+4:Nat):Int):=by omega
 have hx1:=bstr_take bs n;have hx2:=bstr_drop bs n;rw [hz] at hx2;have hle:(n:Int)<=(n:Int)+4:=by omega
 have HBD:Hid (bs.take n=bs.take (bs.length-4)):=hide (by rw [hn];rfl);have HTL:Hid (bs.drop n=bs.drop (bs.length-4)):=hide (by rw [hn];rfl);obtain ⟨bd,hbd⟩ : ∃ bd,bd=bs.take n:=⟨_,rfl⟩;obtain ⟨tl,htl⟩ : ∃ tl,tl=bs.drop n:=⟨_,rfl⟩;rw [<- hbd] at hx1 HBD;rw [<- htl] at hx2 HTL;have hbl:bd.length=n:=by rw [hbd];simp;omega
 obtain ⟨s,hs⟩ : ∃ s,s=bstr bs:=⟨_,rfl⟩;rw [<- hs] at hz hx1 hx2 |-;obtain ⟨sc,hsc⟩ : ∃ sc,sc=Cx.sumCode bd:=⟨_,rfl⟩;have hscl:sc.length=4:=by rw [hsc];rfl
 have CK:Hid (∀ Y:World,Calls Tryz.prog 123 #[.slice (some ⟨Y.heap.size,0,none⟩) (bstr bd).size (grownCap Y (bstr bd).size 0 5)] (Lib.bytesWorld Y 5 (bstr bd)) fun e w'=>e=.returned (.slice (some ⟨Y.heap.size+1,0,none⟩) 4 4)/\w'=(Lib.bytesWorld Y 5 (bstr bd)).alloc (.cells (sc.map Cx.bV).toArray 5)):=hide (fun Y=>by
  have h:=sumBytes_any (Lib.bytesWorld Y 5 (bstr bd)) Y.heap.size (grownCap Y (bstr bd).size 0 5) bd (fun i hi=>by
   rw [Lib.bytesWorld_cell Y 5 (bstr bd) i (by rw [bstr_size];exact hi),bstr_data];simp [Cx.bV,hi]) (by omega)
  rw [Lib.bytesWorld_size,<- hsc] at h;rw [bstr_size];rw [bstr_size] at h
  exact h)
 have HBK:Hid (∀ Y:World,(convert 64 9 (.slice (some ⟨Y.heap.size+1,0,none⟩) 4 4)).run Tryz.prog ((Lib.bytesWorld Y 5 (bstr bd)).alloc (.cells (sc.map Cx.bV).toArray 5))=.ok (.string (bstr sc)) ((Lib.bytesWorld Y 5 (bstr bd)).alloc (.cells (sc.map Cx.bV).toArray 5)) ):=hide (fun Y=>by
  have hh:=heap_alloc_new (Lib.bytesWorld Y 5 (bstr bd)) (.cells (sc.map Cx.bV).toArray 5);rw [Lib.bytesWorld_size] at hh;have h:=back_any ((Lib.bytesWorld Y 5 (bstr bd)).alloc (.cells (sc.map Cx.bV).toArray 5)) (Y.heap.size+1) 4 sc (fun j hj=>by rw [Lib.cell_of_heap hh j];simp [hj]);rw [hscl] at h
  exact h)
 have HSC:=hide hsc;obtain ⟨X,hX⟩ : ∃ X,X=w.alloc (.cells #[.slice none 0 0,.slice none 0 0,.int .i64 0] 106):=⟨_,rfl⟩;have HBX:Hid (Below w.heap.size w X):=hide (by rw [hX];exact below_a _ _);have HRX:Hid (X.heap[w.heap.size]? = some (.cells #[.slice none 0 0,.slice none 0 0,.int .i64 0] 106 (0,0))):=hide (by rw [hX];exact heap_alloc_new _ _);have hb1:(convert 64 9 (.slice (some ⟨X.heap.size+1,0,none⟩) 4 4)).run Tryz.prog ((Lib.bytesWorld X.drew 5 (bstr bd)).alloc (.cells (sc.map Cx.bV).toArray 5))=.ok (.string (bstr sc)) ((Lib.bytesWorld X.drew 5 (bstr bd)).alloc (.cells (sc.map Cx.bV).toArray 5)):=HBK.out X.drew;have HB1:=hide hb1;clear hs hbd htl hsc hscl hb1 HBK;go_enter Tryz.func89,Tryz.ntmps89;go_wp2_with fail;rw [<- hX];clear hX;refine wp_region_held_drew (S:=fun _=>True) (by kernel_rfl) trivial (fun hHeld=>?_);refine tkR 0 rfl ?_ ?_ hHeld ?_;rotate_left
 ·intro w hSw;(try dsimp only at hSw);go_simp;(try with_reducible rfl)
 (try simp only [Act.put,qA,qB,qC,qD,qE])
 refine tkR 1 rfl (.bool false) ?_ hHeld ?_
 ·intro w hSw;(try dsimp only at hSw);go_simp;(try simp);(try omega)
 (try simp only [Act.put,qA,qB,qC,qD,qE,qF])
 refine tkR 2 rfl ?_ ?_ hHeld ?_;rotate_left
 ·intro w hSw;(try dsimp only at hSw);go_simp;(try with_reducible rfl)
 (try simp only [Act.put,qA,qB,qC,qD,qE,qF])
 refine tkR 3 rfl ?_ ?_ hHeld ?_;rotate_left
 ·intro w hSw;(try dsimp only at hSw);go_simp;(try with_reducible rfl)
 (try simp only [Act.put,qA,qB,qC,qD,qE,qF])
 refine tkR 4 rfl ?_ ?_ hHeld ?_;rotate_left
 ·intro w hSw;(try dsimp only at hSw);go_simp;(try with_reducible rfl)
 (try simp only [Act.put,qA,qB,qC,qD,qE,qF])
 refine tkR 5 rfl (.bool false) ?_ hHeld ?_
 ·intro w hSw;(try dsimp only at hSw);go_simp;(try simp);(try omega)
 (try simp only [Act.put,qA,qB,qC,qD,qE,qF])
 refine tkR 6 rfl ?_ ?_ hHeld ?_;rotate_left
 ·intro w hSw;(try dsimp only at hSw);go_simp;(try with_reducible rfl)
 (try simp only [Act.put,qA,qB,qC,qD,qE,qF])
 refine tkR 7 rfl ?_ ?_ hHeld ?_;rotate_left
 ·intro w hSw;(try dsimp only at hSw);go_simp;(try with_reducible rfl)
 (try simp only [Act.put,qA,qB,qC,qD,qE,qF])
 refine tkR 8 rfl ?_ ?_ hHeld ?_;rotate_left
 ·intro w hSw;(try dsimp only at hSw);go_simp;(try with_reducible rfl)
 (try simp only [Act.put,qA,qB,qC,qD,qE,qF])
 refine tkR 9 rfl ?_ ?_ hHeld ?_;rotate_left
 ·intro w hSw;(try dsimp only at hSw);go_simp;(try with_reducible rfl)
 (try simp only [Act.put,qA,qB,qC,qD,qE,qF])
 refine tkR 10 rfl ?_ ?_ hHeld ?_;rotate_left
 ·intro w hSw;(try dsimp only at hSw);go_simp;(try with_reducible rfl)
 (try simp only [Act.put,qA,qB,qC,qD,qE,qF])
 refine tkR 14 rfl ?_ ?_ hHeld ?_;rotate_left
 ·intro w hSw;(try dsimp only at hSw);go_simp;(try with_reducible rfl)
 (try simp only [Act.put,qA,qB,qC,qD,qE,qF])
 refine tkR 15 rfl ?_ ?_ hHeld ?_;rotate_left
 ·intro w hSw;(try dsimp only at hSw);go_simp;(try with_reducible rfl)
 (try simp only [Act.put,qA,qB,qC,qD,qE,qF])
 refine tkR 16 rfl ?_ ?_ hHeld ?_;rotate_left
 ·intro w hSw;(try dsimp only at hSw);go_simp;(try with_reducible rfl)
 (try simp only [Act.put,qA,qB,qC,qD,qE,qF])
 refine wpAnyH_ready (rs:=[11]) (by kernel_rfl) (by simp) ?_;refine AllReadyH.cons rfl (fun K hK=>?_) AllReadyH.nil
 go_simp
 refine hK.out _ _ trivial (fun _=>?_);clear hK K
 (try simp only [Act.put,qA,qB,qC,qD,qE,qF])
 refine wpAnyH_ready (rs:=[12]) (by kernel_rfl) (by simp) ?_;refine AllReadyH.cons rfl (fun K hK=>?_) AllReadyH.nil
 go_simp
 refine (CK.out X.drew).mono ?_;rintro e w2 ⟨rfl,rfl⟩;refine hK.out _ _ trivial (fun _=>?_);clear hK K
 (try simp only [Act.put,qA,qB,qC,qD,qE,qF])
 have hb1:=HB1.out;refine wpAnyH_ready (rs:=[13]) (by kernel_rfl) (by simp) ?_;refine AllReadyH.cons rfl (fun K hK=>?_) AllReadyH.nil
 go_simp
 refine hK.out _ _ trivial (fun _=>?_);clear hK K
 (try simp only [Act.put,qA,qB,qC,qD,qE,qF])
 have HW0:Hid (Below w.heap.size w ((Lib.bytesWorld X.drew 5 (bstr bd)).alloc (.cells (sc.map Cx.bV).toArray 5))):=hide (((HBX.out.drew).trans ((Lib.bytesWorld_below X.drew 5 (bstr bd)).mono HBX.out.size)).trans ((below_a _ _).mono (Nat.le_trans HBX.out.size (Lib.bytesWorld_below X.drew 5 (bstr bd)).size)))
 have HR0:Hid (((Lib.bytesWorld X.drew 5 (bstr bd)).alloc (.cells (sc.map Cx.bV).toArray 5)).heap[w.heap.size]? = some (.cells #[.slice none 0 0,.slice none 0 0,.int .i64 0] 106 (0,0))):=hide (by
  have hx:=(Array.getElem?_eq_some_iff.1 HRX.out).1
  exact ((below_a _ _).block w.heap.size (by rw [Lib.bytesWorld_size];show _<X.heap.size+1;omega)).trans (((Lib.bytesWorld_below X.drew 5 (bstr bd)).block w.heap.size hx).trans HRX.out))
 generalize (Lib.bytesWorld X.drew 5 (bstr bd)).alloc (.cells (sc.map Cx.bV).toArray 5)=W0 at *;clear hb1 HB1 CK HBX HRX
 by_cases hq:sc=tl
 ·have e8:((bstr sc).toList == (bstr tl).toList)=true:=by rw [hq];simp
  refine tkR 17 rfl (.bool false) ?_ hHeld ?_
  ·intro w hSw;(try dsimp only at hSw);go_simp;(try simp);(try omega)
  (try simp only [Act.put,qA,qB,qC,qD,qE,qF])
  refine tkR 18 rfl ?_ ?_ hHeld ?_;rotate_left
  ·intro w hSw;(try dsimp only at hSw);go_simp;(try with_reducible rfl)
  (try simp only [Act.put,qA,qB,qC,qD,qE,qF])
  refine wpAnyH_done (by kernel_rfl) ?_ _;have hRd:RdIs (W0.alloc (.cells #[.string (bstr bd),.bool false] 238)) W0.heap.size ⟨bd,false⟩:=heap_alloc_new _ _;have HRI:=hide (rimage_any _ _ _ hRd);have HW1:Hid (Below w.heap.size w (W0.alloc (.cells #[.string (bstr bd),.bool false] 238))):=hide (HW0.out.trans ((below_a _ _).mono HW0.out.size));have hws:=(Array.getElem?_eq_some_iff.1 HR0.out).1;have HR1:Hid ((W0.alloc (.cells #[.string (bstr bd),.bool false] 238)).heap[w.heap.size]? = some (.cells #[.slice none 0 0,.slice none 0 0,.int .i64 0] 106 (0,0))):=hide (((below_a _ _).block w.heap.size hws).trans HR0.out)
  have HDC:Hid (Mx.decode bs=if (Mx.Rd.mk bd false).image.2.wrong=true\/(Mx.Rd.mk bd false).image.2.rest≠[] then none else some (Mx.Rd.mk bd false).image.1):=hide (by
   unfold Mx.decode
   rw [if_neg (by rw [<- HBD.out,<- HTL.out,<- HSC.out];simp only [hq,ne_eq,not_true_eq_false,or_false];omega),<- HBD.out])
  have hz1:(W0.alloc (.cells #[.string (bstr bd),.bool false] 238)).heap.size=W0.heap.size+1:=by simp
  clear hRd HW0 HR0;go_wp2_with fail;generalize W0.alloc (.cells #[.string (bstr bd),.bool false] 238)=W1 at *;refine HRI.out.mono ?_;rintro e w2 ⟨av,cv,al,cl,rfl,hIm,hRd2,hk2⟩;generalize (Mx.Rd.mk bd false).image=ri at *;obtain ⟨im,rd⟩:=ri;simp only at hIm hRd2 HDC |-;have hs2:=hk2.size;have HW2:Hid (Below w.heap.size w w2):=hide (HW1.out.trans (hk2.toBelow (fun k e=>by omega) (by omega)));have hR2:=(hk2.block w.heap.size (by omega) (by omega)).trans HR1.out;clear hk2 HRI HW1 HR1;have hBY:Below w2.heap.size w2 (w2.alloc (.cells #[.slice av im.vars.length cv,.slice al im.leaves.length cl,.int .i64 im.first] 106)):=below_a _ _;have HWY:Hid (Below w.heap.size w (w2.alloc (.cells #[.slice av im.vars.length cv,.slice al im.leaves.length cl,.int .i64 im.first] 106))):=hide (HW2.out.trans (hBY.mono HW2.out.size));have hYI:=heap_alloc_new w2 (.cells #[.slice av im.vars.length cv,.slice al im.leaves.length cl,.int .i64 im.first] 106);have hYR:=(hBY.block w.heap.size (by omega)).trans hR2;have hYD:RdIs (w2.alloc (.cells #[.slice av im.vars.length cv,.slice al im.leaves.length cl,.int .i64 im.first] 106)) W0.heap.size rd:=hRd2.kept (Kp.ofBelow (F:=fun _=>False) hBY) id;have HIM:=hide (hIm.below hBY);have HYR:=hide hYR;have hRlt:=hRd2.lt;have y0:(w2.alloc (.cells #[.slice av im.vars.length cv,.slice al im.leaves.length cl,.int .i64 im.first] 106)).cell? ⟨w2.heap.size,0,none⟩=some (.slice av im.vars.length cv):=Lib.cell_of_heap hYI 0;have y1:(w2.alloc (.cells #[.slice av im.vars.length cv,.slice al im.leaves.length cl,.int .i64 im.first] 106)).cell? ⟨w2.heap.size,1,none⟩=some (.slice al im.leaves.length cl):=Lib.cell_of_heap hYI 1;have y2:(w2.alloc (.cells #[.slice av im.vars.length cv,.slice al im.leaves.length cl,.int .i64 im.first] 106)).cell? ⟨w2.heap.size,2,none⟩=some (.int .i64 im.first):=Lib.cell_of_heap hYI 2;have x0:(w2.alloc (.cells #[.slice av im.vars.length cv,.slice al im.leaves.length cl,.int .i64 im.first] 106)).cell? ⟨W0.heap.size,0,none⟩=some (.string (bstr rd.rest)):=Lib.cell_of_heap hYD 0;have x1:(w2.alloc (.cells #[.slice av im.vars.length cv,.slice al im.leaves.length cl,.int .i64 im.first] 106)).cell? ⟨W0.heap.size,1,none⟩=some (.bool rd.wrong):=Lib.cell_of_heap hYD 1;have z0:(w2.alloc (.cells #[.slice av im.vars.length cv,.slice al im.leaves.length cl,.int .i64 im.first] 106)).cell? ⟨w.heap.size,0,none⟩=some (.slice none 0 0):=Lib.cell_of_heap hYR 0;have z1:(w2.alloc (.cells #[.slice av im.vars.length cv,.slice al im.leaves.length cl,.int .i64 im.first] 106)).cell? ⟨w.heap.size,1,none⟩=some (.slice none 0 0):=Lib.cell_of_heap hYR 1;have z2:(w2.alloc (.cells #[.slice av im.vars.length cv,.slice al im.leaves.length cl,.int .i64 im.first] 106)).cell? ⟨w.heap.size,2,none⟩=some (.int .i64 0):=Lib.cell_of_heap hYR 2;have f0:(w2.alloc (.cells #[.slice av im.vars.length cv,.slice al im.leaves.length cl,.int .i64 im.first] 106)).frozen? ⟨w.heap.size,0,none⟩=false:=Lib.frozen_of_heap hYR 0;have f1:(w2.alloc (.cells #[.slice av im.vars.length cv,.slice al im.leaves.length cl,.int .i64 im.first] 106)).frozen? ⟨w.heap.size,1,none⟩=false:=Lib.frozen_of_heap hYR 1;have f2:(w2.alloc (.cells #[.slice av im.vars.length cv,.slice al im.leaves.length cl,.int .i64 im.first] 106)).frozen? ⟨w.heap.size,2,none⟩=false:=Lib.frozen_of_heap hYR 2;clear hIm hRd2 hBY hYI hYR hYD hR2 e8 hq hx1 hx2 hle h4' h6' hcv hz hbl h4 h6
  cases hw:rd.wrong with
  | true =>
   rw [hw] at x1;have HD:Hid (Mx.decode bs=none):=hide (by rw [HDC.out,if_pos (.inl hw)]);clear hw;go_wp2_with fail;refine bodyPost_ret (v:=.tuple #[.agg #[.slice none 0 0,.slice none 0 0,.int .i64 0],.bool false]) (by simp [results,Tryz.results89,go_sem, *]) rfl ?_;refine ⟨set3_below HWY.out _ _ _,?_⟩;rw [HD.out]
  | false =>
   rw [hw] at x1
   by_cases hr:rd.rest=[]
   ·have e8:(bstr rd.rest).toList.isEmpty=true:=by rw [hr,Lib.toList_data];rfl
    have HD:Hid (Mx.decode bs=some im):=hide (by rw [HDC.out,if_neg (by simp [hw,hr])]);clear hw hr;go_wp2_with fail;refine bodyPost_ret (v:=.tuple #[.agg #[.slice av im.vars.length cv,.slice al im.leaves.length cl,.int .i64 im.first],.bool true]) (by simp [results,Tryz.results89,go_sem, *]) rfl ?_;refine ⟨set3_below HWY.out _ _ _,?_⟩;rw [HD.out];refine ⟨av,cv,al,cl,rfl,?_⟩;have hk:=set3_kp (w2.alloc (.cells #[.slice av im.vars.length cv,.slice al im.leaves.length cl,.int .i64 im.first] 106)) w.heap.size (.slice av im.vars.length cv) (.slice al im.leaves.length cl) (.int .i64 im.first);refine (HIM.out.kept hk (fun g cur T fr _ hg hT e=>?_)).mono (by simp);subst e;rw [HYR.out] at hg;simp only [Option.some.injEq,Obj.cells.injEq] at hg;rcases hT with e | e | e <;> rw [e] at hg <;> exact absurd hg.2.1 (by decide)
   ·have e8:(bstr rd.rest).toList.isEmpty=false:=by
     rw [Lib.toList_data,bstr_data]
     cases hx:rd.rest with
     | nil=>exact absurd hx hr
     | cons _ _=>rfl
    have HD:Hid (Mx.decode bs=none):=hide (by rw [HDC.out,if_pos (.inr hr)]);clear hw hr;go_wp2_with fail;refine bodyPost_ret (v:=.tuple #[.agg #[.slice none 0 0,.slice none 0 0,.int .i64 0],.bool false]) (by simp [results,Tryz.results89,go_sem, *]) rfl ?_;refine ⟨set3_below HWY.out _ _ _,?_⟩;rw [HD.out]
 ·have e8:((bstr sc).toList == (bstr tl).toList)=false:=by rw [Lib.toList_data,Lib.toList_data,bstr_data,bstr_data];simpa using hq
  have HD:Hid (Mx.decode bs=none):=hide (by
   unfold Mx.decode
   rw [if_pos (Or.inr (Or.inr (by rw [<- HBD.out,<- HTL.out,<- HSC.out];exact hq)))])
  refine tkR 17 rfl (.bool true) ?_ hHeld ?_
  ·intro w hSw;(try dsimp only at hSw);go_simp;(try simp);(try omega)
  (try simp only [Act.put,qA,qB,qC,qD,qE,qF])
  refine tkR 18 rfl ?_ ?_ hHeld ?_;rotate_left
  ·intro w hSw;(try dsimp only at hSw);go_simp;(try with_reducible rfl)
  (try simp only [Act.put,qA,qB,qC,qD,qE,qF])
  refine wpAnyH_done (by kernel_rfl) ?_ _;have z0:W0.cell? ⟨w.heap.size,0,none⟩=some (.slice none 0 0):=Lib.cell_of_heap HR0.out 0;have z1:W0.cell? ⟨w.heap.size,1,none⟩=some (.slice none 0 0):=Lib.cell_of_heap HR0.out 1;have z2:W0.cell? ⟨w.heap.size,2,none⟩=some (.int .i64 0):=Lib.cell_of_heap HR0.out 2;have f0:W0.frozen? ⟨w.heap.size,0,none⟩=false:=Lib.frozen_of_heap HR0.out 0;have f1:W0.frozen? ⟨w.heap.size,1,none⟩=false:=Lib.frozen_of_heap HR0.out 1;have f2:W0.frozen? ⟨w.heap.size,2,none⟩=false:=Lib.frozen_of_heap HR0.out 2;go_wp2_with fail;refine bodyPost_ret (v:=.tuple #[.agg #[.slice none 0 0,.slice none 0 0,.int .i64 0],.bool false]) (by simp [results,Tryz.results89,go_sem, *]) rfl ?_;refine ⟨set3_below HW0.out _ _ _,?_⟩;rw [HD.out]
end
end Go.Proofs.YtdjaiolfdbamcaaGreatDoor
