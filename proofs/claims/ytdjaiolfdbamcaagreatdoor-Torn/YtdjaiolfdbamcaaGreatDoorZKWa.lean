/- The sum of 32 bits, bit by bit: a row of at most 32 turned bits changes it; nothing of the program is asked here. -/
import Derived.Test.YtdjaiolfdbamcaaGreatDoorZBase
import Derived.Test.YtdjaiolfdbamcaaGreatDoorZCA
import Derived.Test.YtdjaiolfdbamcaaGreatDoorZMW
import Derived.Test.YtdjaiolfdbamcaaGreatDoorZWCFJ
import Derived.Test.YtdjaiolfdbamcaaGreatDoorZWCE7
import Derived.Test.YtdjaiolfdbamcaaGreatDoorZCFind
import Derived.Test.YtdjaiolfdbamcaaGreatDoorZPRound
import Derived.Test.YtdjaiolfdbamcaaGreatDoorZPar
import Derived.Test.YtdjaiolfdbamcaaGreatDoorZWPar11
import Derived.Test.YtdjaiolfdbamcaaGreatDoorZPTab4
import Derived.Test.YtdjaiolfdbamcaaGreatDoorZWRead1
import Derived.Test.YtdjaiolfdbamcaaGreatDoorZWCG2
import Derived.Test.YtdjaiolfdbamcaaGreatDoorProg
import Derived.Lib.ConvBytes
import Derived.KernelRfl
set_option maxRecDepth 20000
set_option maxHeartbeats 400000
namespace Go.Proofs.YtdjaiolfdbamcaaGreatDoor
section
namespace Kx
end Kx
end
section
namespace Kx
end Kx
end
section
namespace Mx
end Mx
end
section
namespace Mx
end Mx
end
section
namespace Mx
end Mx
end
section
namespace Mx
end Mx
end
section
open Hx
end
section
open Hx
end
section
open Go.RowKit
namespace Kx
def pick (c:Int) (n:Nat):Nat:=((if c<0 then -(c+1) else c) % (n:Int)).toNat
theorem pick_lt (c:Int) (n:Nat) (h:0<n):pick c n<n:=by
 have h1:=Int.emod_nonneg (if c<0 then -(c+1) else c) (show (n:Int)≠0 by omega);have h2:=Int.emod_lt_of_pos (if c<0 then -(c+1) else c) (show (0:Int)<n by omega);unfold pick;omega
end Kx
theorem pick_any (c:Int) (n:Nat) (w:World) (hc : -9223372036854775808<=c/\c<=9223372036854775807) (hn:0<n) (hn2:n<=1000000000000000000) :
  Calls Tryz.prog 19 #[.int .i64 c,.int .i64 n] w fun e w'=>e=.returned (.int .i64 (Kx.pick c n:Nat))/\w'=w:=by
 have hx:∀ x:Int,0<=x->((x % (n:Int)).toNat:Int)=x % n:=fun x _=>Int.toNat_of_nonneg (Int.emod_nonneg x (by omega))
 unfold Kx.pick
 by_cases h:c<0
 ·rw [if_pos h,hx _ (by omega)]
  have ht : -((c+1).tmod n) = -(c+1) % (n:Int):=by rw [<- Int.neg_tmod,Int.tmod_eq_emod_of_nonneg (by omega)]
  have HT:=hide ht;clear ht;go_enter Tryz.func19,Tryz.ntmps19;go_wp2;go_ret;have ht:=HT.out;exact ⟨by go_num,rfl⟩
 ·rw [if_neg h,hx _ (by omega)]
  go_enter Tryz.func19,Tryz.ntmps19;go_wp2;go_ret;exact ⟨by go_num,rfl⟩
end
section
open Go.RowKit
def decB (c:Nat):List UInt8:=if c<10 then [UInt8.ofNat (48+c)] else [UInt8.ofNat (48+c/10),UInt8.ofNat (48+c % 10)]
theorem dec_conv (W:World) (c:Nat) (hc:c<10):(convert 64 9 (.slice (some ⟨W.heap.size,0,none⟩) 1 1)).run Tryz.prog (W.alloc (.cells #[.int .u8 (48+(c:Int))] 5))=.ok (.string ⟨#[UInt8.ofNat (48+c)]⟩) (W.alloc (.cells #[.int .u8 (48+(c:Int))] 5)):=by
 have h:=run_convert_bytes_back (P:=Tryz.prog) (W.alloc (.cells #[.int .u8 (48+(c:Int))] 5)) 64 9 5 ⟨W.heap.size,0,none⟩ 1 [UInt8.ofNat (48+c)] Tryz.underlying64 Tryz.underlying5 Tryz.underlying9 (fun j hj=>by
  obtain rfl:j=0:=by simpa using hj
  have e:(UInt8.ofNat (48+c)).toNat=48+c:=by rw [UInt8.toNat_ofNat',Nat.mod_eq_of_lt (by omega)]
  refine (news_new W W.heap.size rfl [Value.int .u8 (48+(c:Int))] 5 0 _ rfl).trans ?_;show some (Value.int .u8 (48+(c:Int)))=some (Value.int .u8 ((UInt8.ofNat (48+c)).toNat:Int))
  rw [e];rfl)
 exact h
theorem decimal_one (c:Nat) (hc:c<10) (w:World):Calls Tryz.prog 31 #[.int .i64 c] w fun e w'=>e=.returned (.string ⟨(decB c).toArray⟩)/\Below w.heap.size w w':=by
 have hv:=dec_conv w c hc;have h1:¬ (c:Int)<0:=by omega
 have h2:¬ (10:Int)<=c:=by omega
 have hm:(c:Int).tmod 10=c:=by rw [Int.tmod_eq_emod_of_nonneg (by omega)];omega
 have e:decB c=[UInt8.ofNat (48+c)]:=by unfold decB;rw [if_pos hc]
 rw [e];go_enter Tryz.func31,Tryz.ntmps31;go_wp2;go_ret;exact ⟨rfl,(Below.refl _ _).alloc (Nat.le_refl _) _⟩
theorem decimal_sm (c:Nat) (hc:c<100) (w:World):Calls Tryz.prog 31 #[.int .i64 c] w fun e w'=>e=.returned (.string ⟨(decB c).toArray⟩)/\Below w.heap.size w w':=by
 by_cases h9:c<10
 ·exact decimal_one c h9 w
 ·have h1:¬ (c:Int)<0:=by omega
  have h2:(10:Int)<=c:=by omega
  have hd:(c:Int).tdiv 10=((c/10:Nat):Int):=by rw [Int.tdiv_eq_ediv_of_nonneg (by omega)];rfl
  have hm:(c:Int).tmod 10=((c % 10:Nat):Int):=by rw [Int.tmod_eq_emod_of_nonneg (by omega)];rfl
  have hd2:IntKind.i64.wrap ((c:Int).tdiv 10)=((c/10:Nat):Int):=by rw [hd,IntWalk.i64_in _ (by omega)]
  have hd3:(c:Int)/10=((c/10:Nat):Int):=rfl;have hm3:(c:Int) % 10=((c % 10:Nat):Int):=rfl;have e:decB c=[UInt8.ofNat (48+c/10)]++[UInt8.ofNat (48+c % 10)]:=by unfold decB;rw [if_neg h9];rfl
  have e1:decB (c/10)=[UInt8.ofNat (48+c/10)]:=by unfold decB;rw [if_pos (by omega)]
  have HD:=hide (decimal_one (c/10) (by omega) w);rw [e1] at HD;have HV:=hide (fun W=>dec_conv W (c % 10) (by omega));have hq:c % 10<10:=by omega
  obtain ⟨q,hqe⟩ : ∃ q,q=c/10:=⟨_,rfl⟩;obtain ⟨r,hre⟩ : ∃ r,r=c % 10:=⟨_,rfl⟩;rw [<- hqe] at hd hd2 hd3 HD e;rw [<- hre] at hm hm3 HV hq e;rw [e];clear hqe hre e e1;go_enter Tryz.func31,Tryz.ntmps31;go_wp2_with fail;refine HD.out.mono ?_;rintro e w1 ⟨rfl,hb⟩;have HB:=hide hb;have hv:=HV.out w1;clear hb HD;go_wp2;go_ret;refine ⟨?_,HB.out.trans (((Below.refl _ _).alloc (Nat.le_refl _) _).mono HB.out.size)⟩;have e9:((⟨#[48+UInt8.ofNat q]⟩ : ByteArray)++⟨#[48+UInt8.ofNat r]⟩)=⟨#[UInt8.ofNat (48+q),UInt8.ofNat (48+r)]⟩:=by
   apply ByteArray.ext;simp
  show Ending.returned (.string ((⟨#[48+UInt8.ofNat q]⟩ : ByteArray)++⟨#[48+UInt8.ofNat r]⟩))=_;rw [e9]
end
section
open Hx
end
section
open Hx
theorem sorted_same:∀ (l m:List Int),l.Pairwise (· < ·)->m.Pairwise (· < ·)->(∀ x,x∈l↔x∈m)->l=m
 | [],[],_,_,_=>rfl
 | [],b::m,_,_,h=>by have:=(h b).2 (by simp);cases this
 | a::l,[],_,_,h=>by have:=(h a).1 (by simp);cases this
 | a::l,b::m,h1,h2,h=>by
  rw [List.pairwise_cons] at h1 h2;have e:a=b:=by
   have ha:=(h a).1 (by simp);have hb:=(h b).2 (by simp);rcases List.mem_cons.1 ha with e | e
   ·exact e
   ·rcases List.mem_cons.1 hb with e2 | e2
    ·exact e2.symm
    ·have:=h2.1 a e
     have:=h1.1 b e2;omega
  subst e;rw [sorted_same l m h1.2 h2.2 (fun x=>?_)];constructor
  ·intro hx
   rcases List.mem_cons.1 ((h x).1 (List.mem_cons_of_mem _ hx)) with e | e
   ·have:=h1.1 x hx;omega
   ·exact e
  ·intro hx
   rcases List.mem_cons.1 ((h x).2 (List.mem_cons_of_mem _ hx)) with e | e
   ·have:=h2.1 x hx;omega
   ·exact e
theorem least_is {a b:Int} {cs l:List Int} (h1:l.Pairwise (· < ·)) (h2:∀ x,x∈l↔x=a\/(x∈cs/\a<x/\x<=b)):Cx.leastOnes a b cs=l:=by
 obtain ⟨k1,k2⟩:=Cx.least_spec a b cs;exact sorted_same _ _ k1 h1 (fun x=>(k2 x).trans (h2 x).symm)
end
section
open Hx
def Lx (p:List UInt8) (ts:List Hx.Tok):Prop:=∃ n,n<=p.length/\∀ f r acc,lexF (f+n) (p++32::r) 1 acc=lexF f (32::r) 1 (acc++ts)
theorem Lx.app {p q:List UInt8} {ts us:List Hx.Tok} (h:Lx p ts) (k:Lx (32::q) us):Lx (p++32::q) (ts++us):=by
 obtain ⟨n,hn,h⟩:=h;obtain ⟨m,hm,k⟩:=k;refine ⟨m+n,by simp at hm |-;omega,fun f r acc=>?_⟩;have e:(p++32::q)++32::r=p++32::(q++32::r):=by simp
 rw [e,<- Nat.add_assoc,h];have e2:(32:UInt8)::(q++32::r)=(32::q)++32::r:=rfl;rw [e2,k,List.append_assoc]
theorem Lx.nil:Lx [] []:=⟨0,Nat.le_refl _,fun f r acc=>by simp⟩
def Bl (p:List UInt8):Prop:=p=[]\/∃ q,p=32::q
theorem Lx.cat {p q:List UInt8} {ts us:List Hx.Tok} (h:Lx p ts) (k:Lx q us) (hq:Bl q) (he:q=[]->us=[]):Lx (p++q) (ts++us):=by
 rcases hq with rfl | ⟨q,rfl⟩
 ·rw [he rfl];simpa using h
 ·exact h.app k
def wT (s:List UInt8):Hx.Tok:=⟨119,⟨s.toArray⟩,0,1⟩
def nT (s:List UInt8):Hx.Tok:=⟨110,⟨s.toArray⟩,0,1⟩
def sT (s:List UInt8):Hx.Tok:=⟨115,⟨s.toArray⟩,0,1⟩
def iT (c:Nat):Hx.Tok:=⟨105,⟨(decB c).toArray⟩,c,1⟩
theorem lx_when:Lx [32,119,104,101,110,32,120,32,62,61] [wT [119,104,101,110],nT [120],sT [62,61]]:=⟨6,by decide,fun f r acc=>by
 have h:lexF (f+6) ([32,119,104,101,110,32,120,32,62,61]++32::r) 1 acc=lexF f (32::r) 1 (((acc++[wT [119,104,101,110]])++[nT [120]])++[sT [62,61]]):=by kernel_rfl
 rw [h];simp⟩
theorem lx_and:Lx [32,97,110,100,32,120,32,60] [wT [97,110,100],nT [120],sT [60]]:=⟨6,by decide,fun f r acc=>by
 have h:lexF (f+6) ([32,97,110,100,32,120,32,60]++32::r) 1 acc=lexF f (32::r) 1 (((acc++[wT [97,110,100]])++[nT [120]])++[sT [60]]):=by kernel_rfl
 rw [h];simp⟩
theorem lx_stay:Lx [32,115,116,97,121,59] [wT [115,116,97,121],sT [59]]:=⟨3,by decide,fun f r acc=>by
 have h:lexF (f+3) ([32,115,116,97,121,59]++32::r) 1 acc=lexF f (32::r) 1 ((acc++[wT [115,116,97,121]])++[sT [59]]):=by kernel_rfl
 rw [h];simp⟩
theorem lx_default:Lx [32,100,101,102,97,117,108,116] [wT [100,101,102,97,117,108,116]]:=⟨2,by decide,fun f r acc=>by
 have h:lexF (f+2) ([32,100,101,102,97,117,108,116]++32::r) 1 acc=lexF f (32::r) 1 (acc++[wT [100,101,102,97,117,108,116]]):=by kernel_rfl
 exact h⟩
theorem lx_shut:Lx [32,125] [sT [125]]:=⟨2,by decide,fun f r acc=>by
 have h:lexF (f+2) ([32,125]++32::r) 1 acc=lexF f (32::r) 1 (acc++[sT [125]]):=by kernel_rfl
 exact h⟩
theorem lx_head:Lx [118,97,114,32,120,32,48,32,46,46,32,57,57,59,32,109,111,100,101,32,97,108,108,32,123] [wT [118,97,114],nT [120],iT 0,sT [46,46],iT 99,sT [59],wT [109,111,100,101],nT [97,108,108],sT [123]]:=⟨16,by decide,fun f r acc=>by
 have h:lexF (f+16) ([118,97,114,32,120,32,48,32,46,46,32,57,57,59,32,109,111,100,101,32,97,108,108,32,123]++32::r) 1 acc=lexF f (32::r) 1 (((((((((acc++[wT [118,97,114]])++[nT [120]])++[iT 0])++[sT [46,46]])++[iT 99])++[sT [59]])++[wT [109,111,100,101]])++[nT [97,108,108]])++[sT [123]]):=by kernel_rfl
 rw [h];simp⟩
theorem lx_num (c:Nat) (h:c<100):Lx (32::decB c) [iT c]:=by
 iterate 100
  rcases c with _ | c
  ·exact ⟨2,by decide,fun f r acc=>by kernel_rfl⟩
 omega
def nmB (k:Nat):List UInt8:=[109,UInt8.ofNat (97+k)]
theorem lx_to (k:Nat) (h:k<5):Lx ([32,116,111,32]++nmB k++[59]) [wT [116,111],nT (nmB k),sT [59]]:=by
 refine ⟨5,by simp [nmB],fun f r acc=>?_⟩;have h:lexF (f+5) (([32,116,111,32]++nmB k++[59])++32::r) 1 acc=lexF f (32::r) 1 (((acc++[wT [116,111]])++[nT (nmB k)])++[sT [59]]):=by
  rcases (show k=0\/k=1\/k=2\/k=3\/k=4 by omega) with rfl | rfl | rfl | rfl | rfl <;> kernel_rfl
 rw [h];simp
theorem lx_mode (k:Nat) (h:k<5):Lx ([32,109,111,100,101,32]++nmB k++[32,123]) [wT [109,111,100,101],nT (nmB k),sT [123]]:=by
 refine ⟨6,by simp [nmB],fun f r acc=>?_⟩;have h:lexF (f+6) (([32,109,111,100,101,32]++nmB k++[32,123])++32::r) 1 acc=lexF f (32::r) 1 (((acc++[wT [109,111,100,101]])++[nT (nmB k)])++[sT [123]]):=by
  rcases (show k=0\/k=1\/k=2\/k=3\/k=4 by omega) with rfl | rfl | rfl | rfl | rfl <;> kernel_rfl
 rw [h];simp
structure WRo where
 lo:Nat
 hi:Option Nat
 to_:Option Nat
def WRo.text (r:WRo):List UInt8:=[32,119,104,101,110,32,120,32,62,61]++(32::decB r.lo)++(match r.hi with | none=>[] | some d=>[32,97,110,100,32,120,32,60]++(32::decB d))++(match r.to_ with | none=>[32,115,116,97,121,59] | some k=>[32,116,111,32]++nmB k++[59])
def WRo.toks (r:WRo):List Hx.Tok:=[wT [119,104,101,110],nT [120],sT [62,61],iT r.lo]++(match r.hi with | none=>[] | some d=>[wT [97,110,100],nT [120],sT [60],iT d])++(match r.to_ with | none=>[wT [115,116,97,121],sT [59]] | some k=>[wT [116,111],nT (nmB k),sT [59]])
structure WRo.Ok (r:WRo):Prop where
 lo:r.lo<100
 hi:∀ d,r.hi=some d->d<100
 to_:∀ k,r.to_=some k->k<5
theorem lx_row (r:WRo) (h:r.Ok):Lx r.text r.toks:=by
 unfold WRo.text WRo.toks;have h1:Lx ([32,119,104,101,110,32,120,32,62,61]++(32::decB r.lo)) [wT [119,104,101,110],nT [120],sT [62,61],iT r.lo]:=lx_when.app (lx_num r.lo h.lo);have h2:Lx ([32,119,104,101,110,32,120,32,62,61]++(32::decB r.lo)++(match r.hi with | none=>[] | some d=>[32,97,110,100,32,120,32,60]++(32::decB d))) ([wT [119,104,101,110],nT [120],sT [62,61],iT r.lo]++(match r.hi with | none=>[] | some d=>[wT [97,110,100],nT [120],sT [60],iT d])):=by
  cases hh:r.hi with
  | none=>simpa using h1
  | some d=>exact h1.app (lx_and.app (lx_num d (h.hi d hh)))
 cases ht:r.to_ with
 | none=>exact h2.app lx_stay
 | some k=>exact h2.app (lx_to k (h.to_ k ht))
def rowsText (l:List WRo):List UInt8:=l.flatMap (·.text)
def rowsToks (l:List WRo):List Hx.Tok:=l.flatMap (·.toks)
theorem bl_rows (l:List WRo):Bl (rowsText l):=by
 cases l with
 | nil=>exact .inl rfl
 | cons r l=>exact .inr ⟨_,rfl⟩
theorem lx_rows:∀ (l:List WRo),(∀ r∈l,r.Ok)->Lx (rowsText l) (rowsToks l)
 | [],_=>Lx.nil
 | r::l,h=>by
  refine (lx_row r (h r (by simp))).cat (lx_rows l (fun q hq=>h q (by simp [hq]))) (bl_rows l) (fun e=>?_)
  cases l with
  | nil=>rfl
  | cons q l=>cases e
def modesText:Nat->List (List WRo)->List UInt8
 | _,[]=>[]
 | k,l::r=>(if k=0 then [32,100,101,102,97,117,108,116] else [])++([32,109,111,100,101,32]++nmB k++[32,123])++rowsText l++[32,125]++modesText (k+1) r
def modesToks:Nat->List (List WRo)->List Hx.Tok
 | _,[]=>[]
 | k,l::r=>(if k=0 then [wT [100,101,102,97,117,108,116]] else [])++[wT [109,111,100,101],nT (nmB k),sT [123]]++rowsToks l++[sT [125]]++modesToks (k+1) r
theorem bl_modes (k:Nat) (l:List (List WRo)):Bl (modesText k l):=by
 cases l with
 | nil=>exact .inl rfl
 | cons r l =>
  unfold modesText;split <;> exact .inr ⟨_,rfl⟩
theorem lx_modes:∀ (l:List (List WRo)) (k:Nat),k+l.length<=5->(∀ m∈l,∀ r∈m,r.Ok)->Lx (modesText k l) (modesToks k l)
 | [],_,_,_=>Lx.nil
 | m::l,k,hk,h=>by
  unfold modesText modesToks;have hk':k+1+l.length<=5:=by simp at hk;omega
  have h0:Lx ((if k=0 then [32,100,101,102,97,117,108,116] else [])++([32,109,111,100,101,32]++nmB k++[32,123])) ((if k=0 then [wT [100,101,102,97,117,108,116]] else [])++[wT [109,111,100,101],nT (nmB k),sT [123]]):=by
   by_cases hz:k=0
   ·rw [if_pos hz,if_pos hz];exact lx_default.app (lx_mode k (by omega))
   ·rw [if_neg hz,if_neg hz];exact lx_mode k (by omega)
  have h1:=(h0.cat (lx_rows m (h m (by simp))) (bl_rows m) (fun e=>by cases m with | nil=>rfl | cons q m=>cases e)).app lx_shut;refine h1.cat (lx_modes l (k+1) hk' (fun q hq=>h q (by simp [hq]))) (bl_modes _ l) (fun e=>?_)
  cases l with
  | nil=>rfl
  | cons q l=>exfalso;revert e;unfold modesText;rw [if_neg (by omega)];intro e;cases e
def wheelText (l:List (List WRo)):List UInt8:=[118,97,114,32,120,32,48,32,46,46,32,57,57,59,32,109,111,100,101,32,97,108,108,32,123]++modesText 0 l++[32,125]
def headToks:List Hx.Tok:=[wT [118,97,114],nT [120],iT 0,sT [46,46],iT 99,sT [59],wT [109,111,100,101],nT [97,108,108],sT [123]]
def wheelToks (l:List (List WRo)):List Hx.Tok:=headToks++modesToks 0 l++[sT [125]]++[endTok 1]
theorem wheel_lex (l:List (List WRo)) (hl:l.length<=5) (h:∀ m∈l,∀ r∈m,r.Ok):lex (wheelText l)=.inr (wheelToks l):=by
 have h1:=lx_head.cat (lx_modes l 0 (by omega) h) (bl_modes 0 l) (fun e=>by
  cases l with
  | nil=>rfl
  | cons q l=>cases e)
 obtain ⟨n,hn,hx⟩:=h1;unfold lex wheelText;obtain ⟨k,hk⟩ : ∃ k,([118,97,114,32,120,32,48,32,46,46,32,57,57,59,32,109,111,100,101,32,97,108,108,32,123]++modesText 0 l++[32,125]).length+1=(k+3)+n:=⟨([118,97,114,32,120,32,48,32,46,46,32,57,57,59,32,109,111,100,101,32,97,108,108,32,123]++modesText 0 l++[32,125]).length-2-n,by rw [List.length_append];simp only [List.length_cons,List.length_nil];omega⟩;rw [hk];have e:=hx (k+3) [125] [];have e2:([118,97,114,32,120,32,48,32,46,46,32,57,57,59,32,109,111,100,101,32,97,108,108,32,123]++modesText 0 l)++32::[125]=[118,97,114,32,120,32,48,32,46,46,32,57,57,59,32,109,111,100,101,32,97,108,108,32,123]++modesText 0 l++[32,125]:=rfl;rw [<- e2,e];have e3:∀ acc,lexF (k+3) [32,125] 1 acc=.inr ((acc++[sT [125]])++[endTok 1]):=fun acc=>by kernel_rfl
 rw [e3];rfl
end
section
open Hx
def Gx (st:List (List UInt8)) (p:List Hx.Tok) (st':List (List UInt8)):Prop:=∃ n,∀ f rest ys,runF (f+n) (st++ys) (p++rest)=runF f (st'++ys) rest
theorem Gx.trans {a b c:List (List UInt8)} {p q:List Hx.Tok} (h:Gx a p b) (k:Gx b q c):Gx a (p++q) c:=by
 obtain ⟨n,h⟩:=h;obtain ⟨m,k⟩:=k;exact ⟨m+n,fun f rest ys=>by rw [List.append_assoc,<- Nat.add_assoc,h,k]⟩
theorem Gx.nil (a:List (List UInt8)):Gx a [] a:=⟨0,fun _ _ _=>rfl⟩
theorem Gx.more {a b:List (List UInt8)} {p:List Hx.Tok} (h:Gx a p b) (zs:List (List UInt8)):Gx (a++zs) p (b++zs):=by
 obtain ⟨n,h⟩:=h;exact ⟨n,fun f rest ys=>by rw [List.append_assoc,List.append_assoc,h]⟩
theorem gx_row (r:WRo):Gx [YROWS] r.toks [YROWS]:=by
 unfold WRo.toks
 cases r.hi <;> cases r.to_
 ·exact ⟨13,fun f rest ys=>by kernel_rfl⟩
 ·exact ⟨14,fun f rest ys=>by kernel_rfl⟩
 ·exact ⟨19,fun f rest ys=>by kernel_rfl⟩
 ·exact ⟨20,fun f rest ys=>by kernel_rfl⟩
theorem gx_rows:∀ l:List WRo,Gx [YROWS] (rowsToks l) [YROWS]
 | []=>Gx.nil _
 | r::l=>(gx_row r).trans (gx_rows l)
theorem gx_modes:∀ (l:List (List WRo)) (k:Nat),Gx [YMODES] (modesToks k l) [YMODES]
 | [],_=>Gx.nil _
 | m::l,k=>by
  unfold modesToks;have h0:Gx [YMODES] ((if k=0 then [wT [100,101,102,97,117,108,116]] else [])++[wT [109,111,100,101],nT (nmB k),sT [123]]) [YROWS,YMODES]:=by
   by_cases hz:k=0
   ·rw [if_pos hz];exact ⟨6,fun f rest ys=>by kernel_rfl⟩
   ·rw [if_neg hz];exact ⟨5,fun f rest ys=>by kernel_rfl⟩
  have h1:Gx [YROWS,YMODES] (rowsToks m) [YROWS,YMODES]:=(gx_rows m).more [YMODES];have h2:Gx [YROWS,YMODES] [sT [125]] [YMODES]:=⟨3,fun f rest ys=>by kernel_rfl⟩;exact ((h0.trans h1).trans h2).trans (gx_modes l (k+1))
theorem wheel_run (l:List (List WRo)):Run [YTABLE] (wheelToks l) 0:=by
 have h0:Gx [YTABLE] headToks [YROWS]:=⟨12,fun f rest ys=>by kernel_rfl⟩;obtain ⟨n0,h0⟩:=h0;obtain ⟨n1,h1⟩:=gx_modes l 0
 by_cases hl:l=[]
 ·subst hl
  refine ⟨(4:Nat)+n0,?_⟩;have:=h0 4 ([sT [125]]++[endTok 1]) [];unfold wheelToks modesToks;rw [List.append_nil,List.append_assoc];refine (show _=_ from this).trans ?_;kernel_rfl
 ·refine ⟨((3:Nat)+n1+1)+n0,?_⟩
  have e0:=h0 ((3:Nat)+n1+1) (modesToks 0 l++[sT [125]]++[endTok 1]) [];unfold wheelToks;have ea:headToks++modesToks 0 l++[sT [125]]++[endTok 1]=headToks++(modesToks 0 l++[sT [125]]++[endTok 1]):=by simp
  rw [ea];refine (show _=_ from e0).trans ?_;have e1:runF (3+n1+1) ([YROWS]++[]) (modesToks 0 l++[sT [125]]++[endTok 1])=runF (3+n1) ([YMODES]++[]) (modesToks 0 l++([sT [125]]++[endTok 1])):=by
   cases l with
   | nil=>exact absurd rfl hl
   | cons m l=>rw [List.append_assoc];unfold modesToks;kernel_rfl
  rw [e1,h1];show runF 3 [YMODES] [sT [125],endTok 1]=some 0;kernel_rfl
end
section
open Hx
theorem dec_all:((List.range 100).all fun c=>decide ((decB c)=decI (c:Int)))=true:=by kernel_rfl
theorem txt_num (c:Nat) (h:c<100):Txt (iT c):=by
 refine ⟨(fun e=>by cases e),fun _=>⟨?_,?_,?_⟩⟩
 ·have:=dec_all
  rw [List.all_eq_true] at this;have h2:=of_decide_eq_true (this c (List.mem_range.2 h));show ByteArray.toList ⟨(decB c).toArray⟩=decI (c:Int);rw [Lib.toList_data,<- h2]
 ·show (-9999:Int)<=(c:Int);omega
 ·show (c:Int)<=9999;omega
def gLo (c:Nat) (h:c<100):G:=.atom none (nT [120]) (sT [62,61]) (iT c) ⟨(fun _ e=>by cases e),rfl,rfl,rfl,txt_num c h⟩
def gHi (c:Nat) (h:c<100):G:=.atom none (nT [120]) (sT [60]) (iT c) ⟨(fun _ e=>by cases e),rfl,rfl,rfl,txt_num c h⟩
def rowG (r:WRo) (h:r.Ok):G:=match hh:r.hi with
 | none=>gLo r.lo h.lo
 | some d=>.and (gLo r.lo h.lo) (gHi d (h.hi d hh))
theorem rowG_deep (r:WRo) (h:r.Ok):(rowG r h).deep<=3001:=by
 unfold rowG;split <;> simp [gLo,gHi,G.deep]
def rowA' (r:WRo) (h:r.Ok):RowA:=⟨wT [119,104,101,110],rowG r h,r.to_.map (fun k=>nT (nmB k)),(fun a e=>by
 cases hk:r.to_ with
 | none=>rw [hk] at e;cases e
 | some k =>
  rw [hk] at e
  cases e
  show ByteArray.toList ⟨(nmB k).toArray⟩≠[];rw [Lib.toList_data]
  simp [nmB]),rowG_deep r h⟩
theorem der_lo (c:Nat) (h:c<100) (rest:List Hx.Tok):Der 1 ([nT [120],sT [62,61],iT c]++rest) (gLo c h) rest:=.c0 (.atom0 _)
theorem der_end {l:List Hx.Tok} {g:G} {a:Hx.Tok} {m:List Hx.Tok} (d:Der 1 l g (a::m)) (h1:isMark a yand=false) (h2:isMark a yor=false):Der 4 l g (a::m):=.g2 (.g0 (.c2 d h1)) h2
def destW (o:Option Nat):List Hx.Tok:=match o with | none=>[wT [115,116,97,121],sT [59]] | some k=>[wT [116,111],nT (nmB k),sT [59]]
theorem der_key (o:Option Nat) (rest:List Hx.Tok) (g:G) (l:List Hx.Tok) (hd:∀ m,Der 1 (l++m) g m):Der 4 (l++(destW o++rest)) g (destW o++rest):=by
 cases o with
 | none=>exact der_end (hd _) (by kernel_rfl) (by kernel_rfl)
 | some k=>exact der_end (hd _) (by kernel_rfl) (by kernel_rfl)
theorem dest_D (o:Option Nat) (rest:List Hx.Tok):DestD (destW o++rest) (o.map (fun k=>nT (nmB k))) rest:=by
 cases o with
 | none=>exact .inl ⟨_,_,rfl,by kernel_rfl,by kernel_rfl,rfl⟩
 | some k=>exact .inr ⟨_,_,_,rfl,by kernel_rfl,rfl,by kernel_rfl,rfl⟩
theorem row_D (r:WRo) (h:r.Ok) (rest:List Hx.Tok):RowD (r.toks++rest) (rowA' r h) rest:=by
 obtain ⟨lo,hi,to_⟩:=r
 cases hi with
 | none=>exact ⟨[nT [120],sT [62,61],iT lo]++(destW to_++rest),destW to_++rest,rfl,by kernel_rfl,der_key to_ rest (gLo lo h.lo) [nT [120],sT [62,61],iT lo] (fun m=>der_lo lo h.lo m),dest_D to_ rest⟩
 | some d=>exact ⟨[nT [120],sT [62,61],iT lo,wT [97,110,100],nT [120],sT [60],iT d]++(destW to_++rest),destW to_++rest,rfl,by kernel_rfl,der_key to_ rest (.and (gLo lo h.lo) (gHi d (h.hi d rfl))) [nT [120],sT [62,61],iT lo,wT [97,110,100],nT [120],sT [60],iT d] (fun m=>.c1 (der_lo lo h.lo ([wT [97,110,100],nT [120],sT [60],iT d]++m)) (by kernel_rfl) (.atom0 _)),dest_D to_ rest⟩
def rowsA':(l:List WRo)->(∀ r∈l,r.Ok)->List RowA
 | [],_=>[]
 | r::l,h=>rowA' r (h r (by simp))::rowsA' l (fun q hq=>h q (by simp [hq]))
theorem rows_D:∀ (l:List WRo) (h:∀ r∈l,r.Ok) (L:List Hx.Tok) (rs:List RowA) (rest:List Hx.Tok),RowsD L rs (rowsToks l++rest)->RowsD L (rs++rowsA' l h) rest
 | [],_,L,rs,rest,k=>by simpa [rowsA',rowsToks] using k
 | r::l,h,L,rs,rest,k=>by
  have e:rowsToks (r::l)++rest=r.toks++(rowsToks l++rest):=by simp [rowsToks]
  rw [e] at k;have:=rows_D l (fun q hq=>h q (by simp [hq])) L (rs++[rowA' r (h r (by simp))]) rest (.snoc k (row_D r (h r (by simp)) _));simpa [rowsA'] using this
def modesA':(k:Nat)->(l:List (List WRo))->(∀ m∈l,∀ r∈m,r.Ok)->List MA
 | _,[],_=>[]
 | k,m::l,h=>⟨nT (nmB k),decide (k=0),1,0,rowsA' m (h m (by simp))⟩::modesA' (k+1) l (fun q hq=>h q (by simp [hq]))
theorem modes_len:∀ (l:List (List WRo)) (k:Nat) (h:∀ m∈l,∀ r∈m,r.Ok),(modesA' k l h).length=l.length
 | [],_,_=>rfl
 | m::l,k,h=>by simp [modesA',modes_len l]
theorem mode_D (m:List WRo) (h:∀ r∈m,r.Ok) (k n:Nat) (df:Bool) (rest:List Hx.Tok):MD false ([wT [109,111,100,101],nT (nmB k),sT [123]]++rowsToks m++[sT [125]]++rest) 0 df 1 n [⟨nT (nmB k),df,1,0,rowsA' m h⟩] rest:=by
 have h1:=rows_D m h (rowsToks m++([sT [125]]++rest)) [] ([sT [125]]++rest) (.nil _);have h2:=MD.mode (t:=wT [109,111,100,101]) (nm:=nT (nmB k)) (lb:=sT [123]) (rb:=sT [125]) (o:=0) (df:=df) (d:=1) (n:=n) (ext:=[]) (by kernel_rfl) rfl (by kernel_rfl) h1 (by kernel_rfl) (.none _ _ _ _) (by kernel_rfl);simpa using h2
theorem modes_D:∀ (l:List (List WRo)) (h:∀ m∈l,∀ r∈m,r.Ok) (k:Nat) (L:List Hx.Tok) (ext:List MA) (rest:List Hx.Tok),ext.length=k->MD true L 0 false 1 1 ext (modesToks k l++rest)->MD true L 0 false 1 1 (ext++modesA' k l h) rest
 | [],_,_,L,ext,rest,_,d=>by simpa [modesA',modesToks] using d
 | m::l,h,k,L,ext,rest,hk,d=>by
  have hm:=fun df=>mode_D m (h m (by simp)) k (1+ext.length) df (modesToks (k+1) l++rest)
  have step:MD true L 0 false 1 1 (ext++[⟨nT (nmB k),decide (k=0),1,0,rowsA' m (h m (by simp))⟩]) (modesToks (k+1) l++rest):=by
   unfold modesToks at d
   by_cases hz:k=0
   ·rw [if_pos hz] at d
    rw [decide_eq_true hz];refine MD.dear (t:=wT [100,101,102,97,117,108,116]) (m:=[wT [109,111,100,101],nT (nmB k),sT [123]]++rowsToks m++[sT [125]]++(modesToks (k+1) l++rest)) ?_ (by kernel_rfl) (hm true);simpa using d
   ·rw [if_neg hz] at d
    rw [decide_eq_false hz];refine MD.more (t:=wT [109,111,100,101]) (m:=[nT (nmB k),sT [123]]++rowsToks m++[sT [125]]++(modesToks (k+1) l++rest)) ?_ (by kernel_rfl) (by kernel_rfl) ?_
    ·simpa using d
    ·simpa using hm false
  have:=modes_D l (fun q hq=>h q (by simp [hq])) (k+1) L _ rest (by simp [hk]) step;simpa [modesA'] using this
def vX:VarA:=⟨nT [120],iT 0,iT 99⟩
def wheelA (l:List (List WRo)) (h:∀ m∈l,∀ r∈m,r.Ok):List MA:=⟨nT [97,108,108],false,0,-1,[]⟩::modesA' 0 l h
theorem wheel_D (l:List (List WRo)) (hl:l≠[]) (h:∀ m∈l,∀ r∈m,r.Ok):TabD (wheelToks l) [vX] (wheelA l h):=by
 cases l with
 | nil=>exact absurd rfl hl
 | cons m l =>
  have h1:MD true (modesToks 0 (m::l)++([sT [125]]++[endTok 1])) 0 false 1 1 ([]++modesA' 0 (m::l) h) ([sT [125]]++[endTok 1]):=modes_D (m::l) h 0 _ [] _ rfl (.none _ _ _ _);have h2:=MD.mode (t:=wT [109,111,100,101]) (nm:=nT [97,108,108]) (lb:=sT [123]) (rb:=sT [125]) (o := -1) (df:=false) (d:=0) (n:=0) (rs:=[]) (l':=[endTok 1]) (by kernel_rfl) rfl (by kernel_rfl) (.nil _) (by kernel_rfl) h1 (by kernel_rfl);refine ⟨wT [109,111,100,101],_,endTok 1,[],VarsD.snoc (vs:=[]) (va:=vX) (t:=wT [118,97,114]) (x:=sT [46,46]) (y:=sT [59]) (r:=wT [109,111,100,101]::(nT [97,108,108]::sT [123]::(modesToks 0 (m::l)++([sT [125]]++[endTok 1])))) ?_ (by kernel_rfl),by kernel_rfl,h2,rfl⟩;have e:wheelToks (m::l)=wT [118,97,114]::vX.name::vX.first::sT [46,46]::vX.last::sT [59]::wT [109,111,100,101]::(nT [97,108,108]::sT [123]::(modesToks 0 (m::l)++([sT [125]]++[endTok 1]))):=by
   unfold wheelToks headToks;simp [vX]
  rw [e];exact .nil _
end
section
open Hx
theorem gs_lo (c:Nat) (h:c<100) (m:List Hx.Tok):GS ([nT [120],sT [62,61],iT c]++m) m (gLo c h).sen:=GS.atom0 (n:=nT [120]) (o:=sT [62,61]) (i:=iT c) rfl rfl
theorem gs_hi (c:Nat) (h:c<100) (m:List Hx.Tok):GS ([nT [120],sT [60],iT c]++m) m (gHi c h).sen:=GS.atom0 (n:=nT [120]) (o:=sT [60]) (i:=iT c) rfl rfl
theorem gs_both (c d:Nat) (h:c<100) (k:d<100) (m:List Hx.Tok):GS ([nT [120],sT [62,61],iT c,wT [97,110,100],nT [120],sT [60],iT d]++m) m (G.and (gLo c h) (gHi d k)).sen:=by
 have h1:=gs_lo c h ([wT [97,110,100],nT [120],sT [60],iT d]++m);have h2:GS ([wT [97,110,100],nT [120],sT [60],iT d]++m) ([nT [120],sT [60],iT d]++m) (fun _ s=>s):=GS.skip rfl (by kernel_rfl) (by kernel_rfl);exact (h1.trans h2).trans (gs_hi d k m)
theorem ss_row (r:WRo) (h:r.Ok) (rest:List Hx.Tok) (inn dp:Int) (dear:Bool) (s:St) (hin:0<=inn/\inn<s.modes.length):SS (r.toks++rest) inn dp dear s rest inn dp dear (s.row inn.toNat (rowA' r h)):=by
 obtain ⟨lo,hi,to_⟩:=r;have hw:(wT [119,104,101,110]).k=119/\(wT [119,104,101,110]).s.toList=ywhen:=⟨rfl,by kernel_rfl⟩
 cases hi with
 | none =>
  cases to_ with
  | none=>exact SS.row (d:=wT [115,116,97,121]) (a:=sT [59]) (l1:=sT [59]::rest) (g:=gLo lo h.lo) hw (gs_lo lo h.lo _) hin (rowA' ⟨lo,none,none⟩ h).ok (rowA' ⟨lo,none,none⟩ h).deep (.inl ⟨rfl,by kernel_rfl,rfl,rfl⟩)
  | some k=>exact SS.row (d:=wT [116,111]) (a:=nT (nmB k)) (l1:=nT (nmB k)::sT [59]::rest) (g:=gLo lo h.lo) hw (gs_lo lo h.lo _) hin (rowA' ⟨lo,none,some k⟩ h).ok (rowA' ⟨lo,none,some k⟩ h).deep (.inr ⟨rfl,by kernel_rfl,rfl,_,rfl⟩)
 | some d =>
  cases to_ with
  | none=>exact SS.row (d:=wT [115,116,97,121]) (a:=sT [59]) (l1:=sT [59]::rest) (g:=.and (gLo lo h.lo) (gHi d (h.hi d rfl))) hw (gs_both lo d h.lo (h.hi d rfl) _) hin (rowA' ⟨lo,some d,none⟩ h).ok (rowA' ⟨lo,some d,none⟩ h).deep (.inl ⟨rfl,by kernel_rfl,rfl,rfl⟩)
  | some k=>exact SS.row (d:=wT [116,111]) (a:=nT (nmB k)) (l1:=nT (nmB k)::sT [59]::rest) (g:=.and (gLo lo h.lo) (gHi d (h.hi d rfl))) hw (gs_both lo d h.lo (h.hi d rfl) _) hin (rowA' ⟨lo,some d,some k⟩ h).ok (rowA' ⟨lo,some d,some k⟩ h).deep (.inr ⟨rfl,by kernel_rfl,rfl,_,rfl⟩)
theorem row_len (s:St) (q:Nat) (r:RowA):(s.row q r).modes.length=s.modes.length:=by rw [row_modes];simp [addRow]
theorem ss_rows:∀ (l:List WRo) (h:∀ r∈l,r.Ok) (rest:List Hx.Tok) (inn dp:Int) (dear:Bool) (s:St),(0<=inn/\inn<s.modes.length)->SS (rowsToks l++rest) inn dp dear s rest inn dp dear (s.rowsS inn.toNat (rowsA' l h))
 | [],_,rest,inn,dp,dear,s,_=>SS.refl _ _ _ _ _
 | r::l,h,rest,inn,dp,dear,s,hin=>by
  have e:rowsToks (r::l)++rest=r.toks++(rowsToks l++rest):=by simp [rowsToks]
  rw [e];exact (ss_row r (h r (by simp)) _ inn dp dear s hin).trans (ss_rows l (fun q hq=>h q (by simp [hq])) rest inn dp dear _ (by rw [row_len];exact hin))
theorem ss_mode (m:List WRo) (h:∀ r∈m,r.Ok) (k:Nat) (dear:Bool) (rest:List Hx.Tok) (s:St):SS ([wT [109,111,100,101],nT (nmB k),sT [123]]++rowsToks m++[sT [125]]++rest) 0 1 dear s rest 0 1 false (s.modesS [⟨nT (nmB k),dear,1,0,rowsA' m h⟩]):=by
 have:=SS.whole (t:=wT [109,111,100,101]) (a:=nT (nmB k)) (x:=sT [123]) (e:=sT [125]) (l1:=rowsToks m++([sT [125]]++rest)) (l2:=[sT [125]]++rest) (l3:=[sT [125]]++rest) (r:=rest) (inn:=0) (d:=1) (dp:=1) (dear:=dear) (s:=s) (rs:=rowsA' m h) (ext:=[]) ⟨rfl,by kernel_rfl⟩ ⟨rfl,by kernel_rfl⟩ rfl (fun inn' d' dear' s' hi=>ss_rows m h _ inn' d' dear' s' hi) (fun s' _=>SS.refl _ _ _ _ _) rfl;simpa using this
theorem ss_modes:∀ (l:List (List WRo)) (h:∀ m∈l,∀ r∈m,r.Ok) (k:Nat) (rest:List Hx.Tok) (s:St),SS (modesToks k l++rest) 0 1 false s rest 0 1 false (s.modesS (modesA' k l h))
 | [],_,_,rest,s=>SS.refl _ _ _ _ _
 | m::l,h,k,rest,s=>by
  have h2:=ss_modes l (fun q hq=>h q (by simp [hq])) (k+1) rest (s.modesS [⟨nT (nmB k),decide (k=0),1,0,rowsA' m (h m (by simp))⟩]);have h1:SS (modesToks k (m::l)++rest) 0 1 false s (modesToks (k+1) l++rest) 0 1 false (s.modesS [⟨nT (nmB k),decide (k=0),1,0,rowsA' m (h m (by simp))⟩]):=by
   have em:modesToks k (m::l)=(if k=0 then [wT [100,101,102,97,117,108,116]] else [])++[wT [109,111,100,101],nT (nmB k),sT [123]]++rowsToks m++[sT [125]]++modesToks (k+1) l:=rfl;rw [em]
   by_cases hz:k=0
   ·rw [if_pos hz,decide_eq_true hz]
    have:=(SS.dflt (t:=wT [100,101,102,97,117,108,116]) (r:=[wT [109,111,100,101],nT (nmB k),sT [123]]++rowsToks m++[sT [125]]++(modesToks (k+1) l++rest)) (inn:=0) (d:=1) (dear:=false) (s:=s) ⟨rfl,by kernel_rfl⟩).trans (ss_mode m (h m (by simp)) k true (modesToks (k+1) l++rest) s);simpa using this
   ·rw [if_neg hz,decide_eq_false hz]
    have:=ss_mode m (h m (by simp)) k false (modesToks (k+1) l++rest) s;simpa using this
  exact h1.trans h2
def wheelZ (l:List (List WRo)) (h:∀ m∈l,∀ r∈m,r.Ok):St:=(St.zero.addVar (nT [120]) (iT 0) (iT 99)).modesS (wheelA l h)
theorem wheel_sen (l:List (List WRo)) (h:∀ m∈l,∀ r∈m,r.Ok):∃ n,senF n (wheelToks l) (-1) 0 false St.zero=some (wheelZ l h):=by
 have h1:SS (wheelToks l) (-1) 0 false St.zero ([wT [109,111,100,101],nT [97,108,108],sT [123]]++(modesToks 0 l++([sT [125]]++[endTok 1]))) (-1) 0 false (St.zero.addVar (nT [120]) (iT 0) (iT 99)):=by
  have:=SS.var (t:=wT [118,97,114]) (a:=nT [120]) (b:=iT 0) (x:=sT [46,46]) (d:=iT 99) (e:=sT [59]) (r:=[wT [109,111,100,101],nT [97,108,108],sT [123]]++(modesToks 0 l++([sT [125]]++[endTok 1]))) (inn := -1) (dp:=0) (dear:=false) (s:=St.zero) ⟨rfl,by kernel_rfl⟩;unfold wheelToks headToks;simpa using this
 have h2:=SS.whole (t:=wT [109,111,100,101]) (a:=nT [97,108,108]) (x:=sT [123]) (e:=sT [125]) (l1:=modesToks 0 l++([sT [125]]++[endTok 1])) (l2:=modesToks 0 l++([sT [125]]++[endTok 1])) (l3:=[sT [125]]++[endTok 1]) (r:=[endTok 1]) (inn := -1) (d:=0) (dp:=0) (dear:=false) (s:=St.zero.addVar (nT [120]) (iT 0) (iT 99)) (rs:=[]) (ext:=modesA' 0 l h) ⟨rfl,by kernel_rfl⟩ ⟨rfl,by kernel_rfl⟩ rfl (fun inn' d' dear' s' _=>SS.refl _ _ _ _ _) (fun s' _=>ss_modes l h 0 _ s') rfl;exact (h1.trans h2) 1 _ rfl
structure WI (P:List (List Hx.Tok)) (s:St):Prop where
 code:s.code=0
 vars:s.vars=[⟨(nT [120]).s,0,99⟩]
 nod:s.atoms.Nodup
 sub:∀ a∈s.atoms,a∈P
theorem nodup_le {α : Type} [DecidableEq α] : ∀ (l m:List α),l.Nodup->(∀ a∈l,a∈m)->l.length<=m.length
 | [],_,_,_=>by simp
 | a::l,m,h,k=>by
  rw [List.nodup_cons] at h;have ha:a∈m:=k a (by simp);have:=nodup_le l (m.erase a) h.2 (fun b hb=>(List.mem_erase_of_ne (fun e=>h.1 (by rw [<- e];exact hb))).2 (k b (by simp [hb])));rw [List.length_erase_of_mem ha] at this;have:0<m.length:=List.length_pos_of_mem ha;simp only [List.length_cons];omega
theorem sameTok_refl (a:Hx.Tok):sameTok a a=true:=by simp [sameTok]
theorem sameToks_refl:∀ a:List Hx.Tok,sameToks a a=true
 | []=>rfl
 | t::a=>by simp [sameToks,sameTok_refl,sameToks_refl a]
theorem wrong_no (s:St) (c l:Nat):s.wrong false c l=s:=by simp [St.wrong]
theorem wi_atom {P:List (List Hx.Tok)} {s:St} (h:WI P s) (hP:P.length<=7) (o:Hx.Tok) (c:Nat) (hc:c<100) (hm:[nT [120],o,iT c]∈P):WI P (s.atom [nT [120],o,iT c] (nT [120]) (iT c)):=by
 classical
 cases hany:s.atoms.any (fun a=>sameToks a [nT [120],o,iT c]) with
 | true=>unfold St.atom;rw [if_pos hany];exact h
 | false =>
  rw [St.atom_new s _ _ _ hany];have h1:(s.atoms.length == 8)=false:=by
   have:=nodup_le s.atoms P h.nod h.sub;rw [beq_eq_false_iff_ne];omega
  have h2:(!s.hasVar (nT [120]).s)=false:=by
   unfold St.hasVar;rw [h.vars];simp
  have h3:badInt (iT c).n (-1000)=false:=by
   show badInt (c:Int) (-1000)=false;unfold badInt;simp;omega
  have e:((s.wrong (s.atoms.length == 8) 1 (nT [120]).line).wrong (!s.hasVar (nT [120]).s) 3 (nT [120]).line).number (iT c) (-1000)=s:=by
   rw [h1,h2,wrong_no,wrong_no,St.number,h3,wrong_no]
  rw [e];refine ⟨h.code,h.vars,?_,fun a ha=>?_⟩
  ·refine List.nodup_append.2 ⟨h.nod,by simp,fun a ha b hb=>?_⟩
   simp at hb;subst hb;intro e2;subst e2;have:s.atoms.any (fun a=>sameToks a [nT [120],o,iT c])=true:=List.any_eq_true.2 ⟨_,ha,sameToks_refl _⟩;rw [this] at hany;cases hany
  ·rcases List.mem_append.1 ha with ha | ha
   ·exact h.sub a ha
   ·simp at ha;rw [ha];exact hm
def InP (P:List (List Hx.Tok)) (r:WRo):Prop:=[nT [120],sT [62,61],iT r.lo]∈P/\∀ d,r.hi=some d->[nT [120],sT [60],iT d]∈P
theorem wi_row {P:List (List Hx.Tok)} {s:St} (h:WI P s) (hP:P.length<=7) (r:WRo) (hr:r.Ok) (hp:InP P r) (hn:s.rows<24) (q:Nat):WI P (s.row q (rowA' r hr))/\(s.row q (rowA' r hr)).rows=s.rows+1:=by
 have h0:WI P (s.addWhen (wT [119,104,101,110]))/\(s.addWhen (wT [119,104,101,110])).rows=s.rows+1:=by
  have e:(s.rows == 24)=false:=by rw [beq_eq_false_iff_ne];omega
  unfold St.addWhen;rw [e,wrong_no];exact ⟨⟨h.code,h.vars,h.nod,h.sub⟩,rfl⟩
 have h1:WI P ((rowG r hr).sen 0 (s.addWhen (wT [119,104,101,110])))/\((rowG r hr).sen 0 (s.addWhen (wT [119,104,101,110]))).rows=s.rows+1:=by
  have a1:=wi_atom h0.1 hP (sT [62,61]) r.lo hr.lo hp.1;unfold rowG;split
  ·exact ⟨a1,(St.atom_rows _ _ _ _).trans h0.2⟩
  ·rename_i d hd
   exact ⟨wi_atom a1 hP (sT [60]) d (hr.hi d hd) (hp.2 d hd),(St.atom_rows _ _ _ _).trans ((St.atom_rows _ _ _ _).trans h0.2)⟩
 exact ⟨⟨h1.1.code,h1.1.vars,h1.1.nod,h1.1.sub⟩,h1.2⟩
theorem wi_rows {P:List (List Hx.Tok)} (hP:P.length<=7) (q:Nat):∀ (l:List WRo) (hl:∀ r∈l,r.Ok) (s:St),WI P s->(∀ r∈l,InP P r)->s.rows+l.length<=24->WI P (s.rowsS q (rowsA' l hl))/\(s.rowsS q (rowsA' l hl)).rows=s.rows+l.length
 | [],_,s,h,_,_=>⟨h,rfl⟩
 | r::l,hl,s,h,hp,hn=>by
  simp only [List.length_cons] at hn;obtain ⟨a,b⟩:=wi_row h hP r (hl r (by simp)) (hp r (by simp)) (by omega) q;obtain ⟨c,d⟩:=wi_rows hP q l (fun x hx=>hl x (by simp [hx])) (s.row q (rowA' r (hl r (by simp)))) a (fun x hx=>hp x (by simp [hx])) (by omega);refine ⟨c,d.trans ?_⟩;rw [b];simp only [List.length_cons];omega
def NmI (k:Nat) (s:St):Prop:=s.modes.length=k+1/\∀ m∈s.modes,m.name=(nT [97,108,108]).s\/∃ j,j<k/\m.name=(nT (nmB j)).s
theorem nm_ne (j k:Nat) (h:j<k) (hk:k<5):((nT (nmB j)).s.toList == (nT (nmB k)).s.toList)=false:=by
 rcases (show (j=0/\k=1)\/(j=0/\k=2)\/(j=0/\k=3)\/(j=0/\k=4)\/(j=1/\k=2)\/(j=1/\k=3)\/(j=1/\k=4)\/(j=2/\k=3)\/(j=2/\k=4)\/(j=3/\k=4) by omega) with ⟨rfl,rfl⟩ | ⟨rfl,rfl⟩ | ⟨rfl,rfl⟩ | ⟨rfl,rfl⟩ | ⟨rfl,rfl⟩ | ⟨rfl,rfl⟩ | ⟨rfl,rfl⟩ | ⟨rfl,rfl⟩ | ⟨rfl,rfl⟩ | ⟨rfl,rfl⟩ <;> kernel_rfl
theorem all_ne (k:Nat):((nT [97,108,108]).s.toList == (nT (nmB k)).s.toList)=false:=by
 show (ByteArray.toList ⟨[97,108,108].toArray⟩ == ByteArray.toList ⟨(nmB k).toArray⟩)=false;rw [Lib.toList_data,Lib.toList_data];rw [beq_eq_false_iff_ne];intro e;have:=congrArg List.length e;simp [nmB] at this
theorem nmi_no {k:Nat} {s:St} (h:NmI k s) (hk:k<5):s.hasMode (nT (nmB k)).s=false:=by
 unfold St.hasMode;rw [List.any_eq_false];intro a ha;obtain ⟨m,hm,rfl⟩:=List.mem_map.1 ha;rcases h.2 m hm with e | ⟨j,hj,e⟩
 ·rw [e,all_ne];simp
 ·rw [e,nm_ne j k hj hk];simp
theorem wi_mode {P:List (List Hx.Tok)} {s:St} (h:WI P s) (hP:P.length<=7) (m:List WRo) (hm:∀ r∈m,r.Ok) (hp:∀ r∈m,InP P r) (hn:s.rows+m.length<=24) (k:Nat) (hk:k<5) (hN:NmI k s) (df:Bool) :
  WI P (s.mode ⟨nT (nmB k),df,1,0,rowsA' m hm⟩)/\(s.mode ⟨nT (nmB k),df,1,0,rowsA' m hm⟩).rows=s.rows+m.length/\NmI (k+1) (s.mode ⟨nT (nmB k),df,1,0,rowsA' m hm⟩):=by
 have e1:(s.modes.length == 12 || ((1:Nat):Int) == 6)=false:=by
  have:(s.modes.length == 12)=false:=by rw [beq_eq_false_iff_ne,hN.1];omega
  rw [this];rfl
 have h0:WI P (s.addMode (nT (nmB k)) 0 ((1:Nat):Int) df)/\(s.addMode (nT (nmB k)) 0 ((1:Nat):Int) df).rows=s.rows:=by
  unfold St.addMode;rw [e1,wrong_no,nmi_no hN hk,wrong_no];exact ⟨⟨h.code,h.vars,h.nod,h.sub⟩,rfl⟩
 obtain ⟨a,b⟩:=wi_rows hP s.modes.length m hm _ h0.1 hp (by rw [h0.2];exact hn);refine ⟨a,b.trans (by rw [h0.2]),?_⟩;unfold NmI;rw [mode_modes];refine ⟨by simp [hN.1],fun x hx=>?_⟩;rcases List.mem_append.1 hx with hx | hx
 ·rcases hN.2 x hx with e | ⟨j,hj,e⟩
  ·exact .inl e
  ·exact .inr ⟨j,by omega,e⟩
 ·simp at hx;rw [hx];exact .inr ⟨k,by omega,rfl⟩
theorem wi_modes {P:List (List Hx.Tok)} (hP:P.length<=7):∀ (l:List (List WRo)) (k:Nat) (h:∀ m∈l,∀ r∈m,r.Ok) (s:St),WI P s->(∀ m∈l,∀ r∈m,InP P r)->s.rows+l.flatten.length<=24->k+l.length<=5->NmI k s->WI P (s.modesS (modesA' k l h))
 | [],_,_,_,h,_,_,_,_=>h
 | m::l,k,hl,s,h,hp,hn,hk,hN=>by
  simp only [List.flatten_cons,List.length_append,List.length_cons] at hn hk;obtain ⟨a,b,c⟩:=wi_mode h hP m (hl m (by simp)) (hp m (by simp)) (by omega) k (by omega) hN (decide (k=0));exact wi_modes hP l (k+1) (fun x hx=>hl x (by simp [hx])) _ a (fun x hx=>hp x (by simp [hx])) (by rw [b];omega) (by omega) c
theorem wheel_wi {P:List (List Hx.Tok)} (hP:P.length<=7) (l:List (List WRo)) (h:∀ m∈l,∀ r∈m,r.Ok) (hp:∀ m∈l,∀ r∈m,InP P r) (hn:l.flatten.length<=24) (hl:l.length<=5):WI P (wheelZ l h):=by
 have h0:WI P ((St.zero.addVar (nT [120]) (iT 0) (iT 99)).mode ⟨nT [97,108,108],false,0,-1,[]⟩):=⟨by kernel_rfl,by kernel_rfl,by
  have:((St.zero.addVar (nT [120]) (iT 0) (iT 99)).mode ⟨nT [97,108,108],false,0,-1,[]⟩).atoms=[]:=by kernel_rfl
  rw [this];simp,fun a ha=>by
  have:((St.zero.addVar (nT [120]) (iT 0) (iT 99)).mode ⟨nT [97,108,108],false,0,-1,[]⟩).atoms=[]:=by kernel_rfl
  rw [this] at ha;simp at ha⟩
 refine wi_modes hP l 0 h _ h0 hp ?_ (by omega) ?_
 ·have:((St.zero.addVar (nT [120]) (iT 0) (iT 99)).mode ⟨nT [97,108,108],false,0,-1,[]⟩).rows=0:=by kernel_rfl
  rw [this];omega
 ·have:((St.zero.addVar (nT [120]) (iT 0) (iT 99)).mode ⟨nT [97,108,108],false,0,-1,[]⟩).modes=[⟨(nT [97,108,108]).s,1,-1,false,[]⟩]:=by kernel_rfl
  unfold NmI;rw [this];exact ⟨rfl,fun m hm=>.inl (by simp at hm;rw [hm])⟩
theorem fold_same {α β : Type} (f : β -> α -> β) (s : β):∀ l:List α,(∀ a∈l,f s a=s)->l.foldl f s=s
 | [],_=>rfl
 | a::l,h=>by rw [List.foldl_cons,h a (by simp)];exact fold_same f s l (fun b hb=>h b (by simp [hb]))
theorem modes_mem:∀ (l:List (List WRo)) (k:Nat) (h:∀ m∈l,∀ r∈m,r.Ok) (x:MA),x∈modesA' k l h->∃ j,k<=j/\∃ (hj:j-k<l.length) (hm:∀ r∈l[j-k],r.Ok),x=⟨nT (nmB j),decide (j=0),1,0,rowsA' l[j-k] hm⟩
 | [],_,_,_,hx=>by simp [modesA'] at hx
 | m::l,k,h,x,hx=>by
  unfold modesA' at hx;rcases List.mem_cons.1 hx with rfl | hx
  ·exact ⟨k,Nat.le_refl _,by simp,by simpa using h m (by simp),by simp⟩
  ·obtain ⟨j,hj,h1,h2,h3⟩:=modes_mem l (k+1) _ x hx
   have e:j-k=(j-(k+1))+1:=by omega
   have e2:(m::l)[j-k]'(by simp;omega)=l[j-(k+1)]:=by simp [e]
   refine ⟨j,by omega,by simp;omega,by rw [e2];exact h2,?_⟩;rw [h3];simp only [e2]
theorem modes_get:∀ (l:List (List WRo)) (k:Nat) (h:∀ m∈l,∀ r∈m,r.Ok) (i:Nat) (hi:i<l.length),(modesA' k l h)[i]? = some ⟨nT (nmB (k+i)),decide (k+i=0),1,0,rowsA' l[i] (h _ (List.getElem_mem hi))⟩
 | [],_,_,i,hi=>by simp at hi
 | m::l,k,h,0,_=>by simp [modesA']
 | m::l,k,h,i+1,hi=>by
  have:=modes_get l (k+1) (fun q hq=>h q (by simp [hq])) i (by simpa using hi);unfold modesA';rw [List.getElem?_cons_succ,this];have e:k+1+i=k+(i+1):=by omega
  simp [e]
theorem rows_mem:∀ (l:List WRo) (h:∀ r∈l,r.Ok) (x:RowA),x∈rowsA' l h->∃ r,∃ (hr:r∈l),x=rowA' r (h r hr)
 | [],_,_,hx=>by simp [rowsA'] at hx
 | r::l,h,x,hx=>by
  unfold rowsA' at hx;rcases List.mem_cons.1 hx with rfl | hx
  ·exact ⟨r,by simp,rfl⟩
  ·obtain ⟨q,hq,e⟩:=rows_mem l _ x hx
   exact ⟨q,by simp [hq],e⟩
theorem wheelZ_modes (l:List (List WRo)) (h:∀ m∈l,∀ r∈m,r.Ok):(wheelZ l h).modes=(wheelA l h).map MA.p:=by
 unfold wheelZ;rw [modes_modes];rfl
theorem ts_same (s0:St):∀ (l:List ModeP) (i:Nat) (s:St),(∀ j,i<=j->j<i+l.length->∀ m,linkT s0 s j m=s)->linkTs s0 i l s=s
 | [],_,_,_=>rfl
 | m::l,i,s,h=>by
  unfold linkTs;rw [h i (Nat.le_refl _) (by simp) m];exact ts_same s0 l (i+1) s (fun j h1 h2 x=>h j (by omega) (by simp only [List.length_cons];omega) x)
theorem wheel_link (l:List (List WRo)) (h:∀ m∈l,∀ r∈m,r.Ok) (hl:l≠[]) (ht:∀ m∈l,∀ r∈m,∀ k,r.to_=some k->k<l.length):linkS (wheelZ l h)=wheelZ l h:=by
 have hmo:=wheelZ_modes l h;have hhas:∀ k,k<l.length->(wheelZ l h).hasMode (nT (nmB k)).s=true:=by
  intro k hk;unfold St.hasMode;rw [hmo,List.any_eq_true];refine ⟨(nT (nmB k)).s,List.mem_map.2 ⟨MA.p ⟨nT (nmB k),decide (k=0),1,0,rowsA' l[k] (h _ (List.getElem_mem hk))⟩,List.mem_map.2 ⟨_,?_,rfl⟩,rfl⟩,by simp⟩;have:=modes_get l 0 h k hk;simp only [Nat.zero_add] at this;exact List.mem_cons_of_mem _ (List.mem_of_getElem? this)
 have h1:(wheelZ l h).modes.foldl (linkRows (wheelZ l h)) (wheelZ l h)=wheelZ l h:=by
  refine fold_same _ _ _ (fun m hm=>?_);unfold linkRows;refine fold_same _ _ _ (fun r hr=>?_);have:(!(r.to.toList == []) && !((wheelZ l h).hasMode r.to))=false:=by
   rw [hmo] at hm;obtain ⟨a,ha,rfl⟩:=List.mem_map.1 hm;unfold wheelA at ha;rcases List.mem_cons.1 ha with rfl | ha
   ·simp [MA.p] at hr
   ·obtain ⟨j,_,h3,h4,rfl⟩:=modes_mem l 0 h a ha
    simp only [MA.p] at hr;obtain ⟨x,hx,rfl⟩:=List.mem_map.1 hr;obtain ⟨q,hq,rfl⟩:=rows_mem _ _ x hx
    cases hk:q.to_ with
    | none =>
     have he:(⟨#[]⟩ : ByteArray).toList=[]:=by rw [Lib.toList_data]
     simp only [RowA.p,rowA',hk,Option.map_none,he];rfl
    | some k =>
     simp only [RowA.p,rowA',hk,Option.map_some];rw [hhas k (ht _ (List.getElem_mem h3) q hq k hk)];simp
  rw [this,wrong_no]
 unfold linkS;rw [h1];refine ts_same _ _ 0 _ (fun j _ _ m=>?_);unfold linkT;have e:(decide (0<((wheelZ l h).modes.filter fun k=>decide (k.outer=(j:Int))).length) && decide ((((wheelZ l h).modes.filter fun k=>decide (k.outer=(j:Int))).filter fun k=>k.dflt).length≠1))=false:=by
  rw [hmo]
  cases j with
  | succ j =>
   have:((wheelA l h).map MA.p).filter (fun k=>decide (k.outer=((j+1:Nat):Int)))=[]:=by
    rw [List.filter_eq_nil_iff];intro x hx;obtain ⟨a,ha,rfl⟩:=List.mem_map.1 hx;unfold wheelA at ha;rcases List.mem_cons.1 ha with rfl | ha
    ·intro e
     have e2:(-1:Int)=((j+1:Nat):Int):=of_decide_eq_true e;omega
    ·obtain ⟨q,_,_,_,rfl⟩:=modes_mem l 0 h a ha
     intro e;have e2:(0:Int)=((j+1:Nat):Int):=of_decide_eq_true e;omega
   rw [this];rfl
  | zero =>
   have:((((wheelA l h).map MA.p).filter (fun k=>decide (k.outer=((0:Nat):Int)))).filter fun k=>k.dflt).length=1:=by
    cases l with
    | nil=>exact absurd rfl hl
    | cons m l =>
     have hr:∀ x∈(modesA' 1 l (fun q hq=>h q (by simp [hq]))).map MA.p,x.dflt=false:=by
      intro x hx;obtain ⟨a,ha,rfl⟩:=List.mem_map.1 hx;obtain ⟨q,hq,_,_,rfl⟩:=modes_mem l 1 _ a ha;simp [MA.p];omega
     have e2:(wheelA (m::l) h).map MA.p=MA.p ⟨nT [97,108,108],false,0,-1,[]⟩::MA.p ⟨nT (nmB 0),true,1,0,rowsA' m (h m (by simp))⟩::(modesA' 1 l (fun q hq=>h q (by simp [hq]))).map MA.p:=by
      simp [wheelA,modesA']
     rw [e2,List.filter_cons,if_neg (by simp [MA.p]),List.filter_cons,if_pos (by simp [MA.p]),List.filter_cons,if_pos (by simp [MA.p])];have e3:(((modesA' 1 l (fun q hq=>h q (by simp [hq]))).map MA.p).filter (fun k=>decide (k.outer=((0:Nat):Int)))).filter (fun k=>k.dflt)=[]:=by
      rw [List.filter_eq_nil_iff];intro x hx;rw [hr x (List.mem_filter.1 hx).1];simp
     rw [e3];rfl
   rw [this];simp
 rw [e,wrong_no]
end
section
open Hx
namespace Cx
theorem bits_or (a b:Nat) (ha:a<4294967296) (hb:b<4294967296):bits .or .u32 (a:Int) (b:Int)=((a ||| b:Nat):Int):=by
 have e1:(BitVec.ofInt 32 (a:Int)).toNat=a:=by rw [BitVec.ofInt_natCast,BitVec.toNat_ofNat];exact Nat.mod_eq_of_lt (by omega)
 have e2:(BitVec.ofInt 32 (b:Int)).toNat=b:=by rw [BitVec.ofInt_natCast,BitVec.toNat_ofNat];exact Nat.mod_eq_of_lt (by omega)
 have e3:a ||| b<4294967296:=Nat.or_lt_two_pow (n:=32) ha hb;show IntKind.u32.wrap ((BitVec.ofInt 32 (a:Int) ||| BitVec.ofInt 32 (b:Int)).toNat:Int)=_;rw [BitVec.toNat_or,e1,e2,IntKind.wrap_u32];omega
theorem bits_and (a b:Nat) (ha:a<4294967296) (hb:b<4294967296):bits .and .u32 (a:Int) (b:Int)=((a &&& b:Nat):Int):=by
 have e1:(BitVec.ofInt 32 (a:Int)).toNat=a:=by rw [BitVec.ofInt_natCast,BitVec.toNat_ofNat];exact Nat.mod_eq_of_lt (by omega)
 have e2:(BitVec.ofInt 32 (b:Int)).toNat=b:=by rw [BitVec.ofInt_natCast,BitVec.toNat_ofNat];exact Nat.mod_eq_of_lt (by omega)
 have e3:a &&& b<4294967296:=Nat.and_lt_two_pow (n:=32) a hb;show IntKind.u32.wrap ((BitVec.ofInt 32 (a:Int) &&& BitVec.ofInt 32 (b:Int)).toNat:Int)=_;rw [BitVec.toNat_and,e1,e2,IntKind.wrap_u32];omega
def bitsN (p:Nat->Bool):Nat->Nat
 | 0=>0
 | n+1=>if p n then bitsN p n ||| 2 ^ n else bitsN p n
theorem bitsN_test (p:Nat->Bool) (k:Nat):∀ n,(bitsN p n).testBit k=(decide (k<n) && p k)
 | 0=>by simp [bitsN]
 | n+1=>by
  unfold bitsN;have ih:=bitsN_test p k n
  by_cases hp:p n=true
  ·rw [if_pos hp,Nat.testBit_or,ih,Nat.testBit_two_pow]
   by_cases hk:k=n
   ·subst hk;simp [hp]
   ·have:(decide (k<n+1))=decide (k<n):=by simp;omega
    rw [this,decide_eq_false (show ¬ n=k by omega)];simp
  ·rw [if_neg hp,ih]
   by_cases hk:k=n
   ·subst hk;simp at hp;simp [hp]
   ·have:(decide (k<n+1))=decide (k<n):=by simp;omega
    rw [this]
theorem bitsN_lt (p:Nat->Bool):∀ n,n<=32->bitsN p n<4294967296
 | 0,_=>by simp [bitsN]
 | n+1,h=>by
  unfold bitsN;have h1:(2:Nat) ^ n<2 ^ 32:=Nat.pow_lt_pow_right (by omega) (by omega);split
  ·exact Nat.or_lt_two_pow (n:=32) (bitsN_lt p n (by omega)) h1
  ·exact bitsN_lt p n (by omega)
theorem pow32 (n:Nat) (h:n<32):(2:Int) ^ min n 32 % 4294967296=((2 ^ n:Nat):Int):=by
 have h1:(2:Nat) ^ n<2 ^ 32:=Nat.pow_lt_pow_right (by omega) (by omega);rw [Nat.min_eq_left (by omega)];have:(2:Int) ^ n=((2 ^ n:Nat):Int):=by simp
 rw [this];generalize (2:Nat) ^ n=a at *;omega
theorem rowsTo_bits (ps:List (List Int->Bool)) (l:List Int):∀ n,n<=32->rowsTo ps l n=(bitsN (fun k=>(ps.getD k (fun _=>false)) l) n:Int)
 | 0,_=>rfl
 | n+1,h=>by
  unfold rowsTo bitsN;have ih:=rowsTo_bits ps l n (by omega);split
  ·rw [ih,pow32 n (by omega),bits_or _ _ (bitsN_lt _ n (by omega)) (Nat.pow_lt_pow_right (a:=2) (n:=32) (by omega) (by omega))]
  ·exact ih
theorem bitV_pow:∀ n,n<32->bitV n=((2 ^ n:Nat):Int)
 | 0,_=>rfl
 | n+1,h=>by
  unfold bitV;rw [bitV_pow n (by omega)];have h1:(2:Nat) ^ (n+1)<2 ^ 32:=Nat.pow_lt_pow_right (by omega) (by omega);have h2:(2:Nat) ^ (n+1)=2 ^ n*2:=Nat.pow_succ 2 n;generalize (2:Nat) ^ n=a at *;rw [h2] at h1 |-;omega
theorem setTo_bits (ns:List ByteArray) (x:ByteArray):∀ n,n<=32->setTo ns n x=(bitsN (fun k=>decide (ns[k]? = some x)) n:Int)
 | 0,_=>rfl
 | n+1,h=>by
  unfold setTo bitsN;have ih:=setTo_bits ns x n (by omega)
  by_cases e:ns[n]? = some x
  ·rw [if_pos e,if_pos (by simpa using e),ih,bitV_pow n (by omega),bits_or _ _ (bitsN_lt _ n (by omega)) (Nat.pow_lt_pow_right (a:=2) (n:=32) (by omega) (by omega))]
  ·rw [if_neg e,if_neg (by simpa using e)];exact ih
theorem pop_bits:∀ f x,Lib.popAux f x=((List.range f).filter (fun k=>x.testBit k)).length
 | 0,x=>rfl
 | f+1,x=>by
  show x % 2+Lib.popAux f (x/2)=_;rw [pop_bits f (x/2),List.range_succ_eq_map,List.filter_cons,List.filter_map];have e:(fun k=>x.testBit k) ∘ Nat.succ=fun k=>(x/2).testBit k:=by
   funext k;simp [Function.comp,Nat.testBit_succ]
  rw [e];have h0:x.testBit 0=decide (x % 2=1):=by simp [Nat.testBit_zero]
  rw [h0]
  by_cases h:x % 2=1
  ·rw [if_pos (by simpa using h),h];simp;omega
  ·rw [if_neg (by simpa using h)];simp;omega
theorem range_filter {α : Type} (p : α -> Bool):∀ (L:List α) (f:Nat),L.length<=f->((List.range f).filter (fun k=>(L[k]?).any p)).length=(L.filter p).length
 | [],f,_=>by
  have:(List.range f).filter (fun k=>(([] : List α)[k]?).any p)=[]:=by rw [List.filter_eq_nil_iff];intro a _;simp
  rw [this];rfl
 | a::L,0,h=>by simp at h
 | a::L,f+1,h=>by
  rw [List.range_succ_eq_map,List.filter_cons,List.filter_map];have e:(fun k=>((a::L)[k]?).any p) ∘ Nat.succ=fun k=>(L[k]?).any p:=by funext k;simp [Function.comp]
  rw [e];have ih:=range_filter p L f (by simpa using h)
  by_cases hp:p a=true
  ·rw [if_pos (by simpa using hp),List.filter_cons,if_pos hp];simp [ih]
  ·rw [if_neg (by simpa using hp),List.filter_cons,if_neg hp];simp [ih]
def rowPairs (ms:List MA):List (ByteArray×RowA):=ms.flatMap fun m=>m.rows.map fun r=>(m.name.s,r)
def cntR (vs:List VarA) (ms:List MA) (x:ByteArray) (l:List Int):Nat:=((rowPairs ms).filter fun p=>decide (p.1=x) && eval vs p.2.g l).length
theorem names_pairs (ms:List MA):rowNames ms=(rowPairs ms).map (·.1):=by
 unfold rowNames rowPairs;rw [List.map_flatMap];simp [Function.comp_def]
theorem guards_pairs (vs:List VarA) (ms:List MA):guards vs ms=(rowPairs ms).map (fun p=>eval vs p.2.g):=by
 unfold guards rowsAll rowPairs;rw [List.map_flatMap,List.map_flatMap];simp [Function.comp_def]
theorem pop_cnt (vs:List VarA) (ms:List MA) (x:ByteArray) (l:List Int) (h:(rowPairs ms).length<=32):Lib.popAux 32 (bits .and .u32 (setOf ms x) (rowsTo (guards vs ms) l (guards vs ms).length)).toNat=cntR vs ms x l:=by
 have h1:(rowNames ms).length=(rowPairs ms).length:=by rw [names_pairs];simp
 have h2:(guards vs ms).length=(rowPairs ms).length:=by rw [guards_pairs];simp
 unfold setOf;rw [h1,h2,setTo_bits _ _ _ h,rowsTo_bits _ _ _ h,bits_and _ _ (bitsN_lt _ _ h) (bitsN_lt _ _ h),Int.toNat_natCast,pop_bits];unfold cntR;rw [<- range_filter (fun p:ByteArray×RowA=>decide (p.1=x) && eval vs p.2.g l) (rowPairs ms) 32 h];congr 2;funext k;rw [Nat.testBit_and,bitsN_test,bitsN_test,names_pairs,guards_pairs]
 by_cases hk:k<(rowPairs ms).length
 ·simp [hk]
 ·simp [hk]
theorem judge_cons (vs:List VarA) (ms:List MA) (x:ByteArray) (l:List Int) (rs:List Int) (h:(rowPairs ms).length<=32):judgeP (setOf ms x::rs) (rowsTo (guards vs ms) l (guards vs ms).length)=if cntR vs ms x l=0 then judgeP rs (rowsTo (guards vs ms) l (guards vs ms).length) else if cntR vs ms x l=1 then 0 else 6:=by
 show (if Lib.popAux 32 (bits .and .u32 (setOf ms x) (rowsTo (guards vs ms) l (guards vs ms).length)).toNat=0 then judgeP rs (rowsTo (guards vs ms) l (guards vs ms).length) else if Lib.popAux 32 (bits .and .u32 (setOf ms x) (rowsTo (guards vs ms) l (guards vs ms).length)).toNat=1 then 0 else 6)=_;rw [pop_cnt vs ms x l h]
end Cx
end
section
open Hx
def WRo.at (r:WRo) (x:Nat):Bool:=decide (r.lo<=x) && (match r.hi with | none=>true | some d=>decide (x<d))
theorem q_lo (c:Nat):Cx.qOf [vX] false (nT [120]) (sT [62,61]) (iT c)=⟨1,false,(c:Int),true⟩:=by kernel_rfl
theorem q_hi (c:Nat):Cx.qOf [vX] false (nT [120]) (sT [60]) (iT c)=⟨1,false,(c:Int),false⟩:=by kernel_rfl
theorem eval_lo (c:Nat) (h:c<100) (b:Int) (x:Nat):Cx.eval [vX] (gLo c h) [b,(x:Int)]=decide (c<=x):=by
 show (Cx.qOf [vX] false (nT [120]) (sT [62,61]) (iT c)).answer [b,(x:Int)]=_;rw [q_lo]
 by_cases h1:c<=x
 ·simp [Cx.Q.answer,h1]
 ·simp [Cx.Q.answer,h1];omega
theorem eval_hi (c:Nat) (h:c<100) (b:Int) (x:Nat):Cx.eval [vX] (gHi c h) [b,(x:Int)]=decide (x<c):=by
 show (Cx.qOf [vX] false (nT [120]) (sT [60]) (iT c)).answer [b,(x:Int)]=_;rw [q_hi];simp [Cx.Q.answer]
theorem eval_row (r:WRo) (h:r.Ok) (b:Int) (x:Nat):Cx.eval [vX] (rowA' r h).g [b,(x:Int)]=r.at x:=by
 obtain ⟨lo,hi,to_⟩:=r
 cases hi with
 | none=>exact (eval_lo lo h.lo b x).trans (by simp [WRo.at])
 | some d =>
  show (Cx.eval [vX] (gLo lo h.lo) [b,(x:Int)] && Cx.eval [vX] (gHi d (h.hi d rfl)) [b,(x:Int)])=_;rw [eval_lo,eval_hi];rfl
theorem rows_cnt:∀ (m:List WRo) (h:∀ r∈m,r.Ok) (b:Int) (x:Nat),((rowsA' m h).filter (fun r=>Cx.eval [vX] r.g [b,(x:Int)])).length=(m.filter (·.at x)).length
 | [],_,_,_=>rfl
 | r::m,h,b,x=>by
  have ih:=rows_cnt m (fun q hq=>h q (by simp [hq])) b x;unfold rowsA';rw [List.filter_cons,List.filter_cons,eval_row];split <;> simp [ih]
theorem pairs_cons (m:MA) (ms:List MA):Cx.rowPairs (m::ms)=(m.rows.map fun r=>(m.name.s,r))++Cx.rowPairs ms:=by simp [Cx.rowPairs]
theorem nm_inj {j k:Nat} (hj:j<5) (hk:k<5) (h:(nT (nmB j)).s=(nT (nmB k)).s):j=k:=by
 rcases Nat.lt_trichotomy j k with e | e | e
 ·have:=nm_ne j k e hk;rw [h] at this;simp at this
 ·exact e
 ·have:=nm_ne k j e hj;rw [h] at this;simp at this
theorem cnt_modes (j:Nat) (hj:j<5) (b:Int) (x:Nat):∀ (l:List (List WRo)) (k:Nat) (h:∀ m∈l,∀ r∈m,r.Ok),k+l.length<=5->((Cx.rowPairs (modesA' k l h)).filter (fun p=>decide (p.1=(nT (nmB j)).s) && Cx.eval [vX] p.2.g [b,(x:Int)])).length=if k<=j then ((l.getD (j-k) []).filter (·.at x)).length else 0
 | [],k,_,_=>by simp [modesA',Cx.rowPairs]
 | m::l,k,h,hl=>by
  simp only [List.length_cons] at hl;have ih:=cnt_modes j hj b x l (k+1) (fun q hq=>h q (by simp [hq])) (by omega);unfold modesA';rw [pairs_cons,List.filter_append,List.length_append,ih,List.filter_map,List.length_map]
  by_cases e:k=j
  ·subst e
   have e1:((fun p:ByteArray×RowA=>decide (p.1=(nT (nmB k)).s) && Cx.eval [vX] p.2.g [b,(x:Int)]) ∘ fun r=>((nT (nmB k)).s,r))=fun r=>Cx.eval [vX] r.g [b,(x:Int)]:=by funext r;simp
   show (List.filter ((fun p:ByteArray×RowA=>decide (p.1=(nT (nmB k)).s) && Cx.eval [vX] p.2.g [b,(x:Int)]) ∘ fun r=>((nT (nmB k)).s,r)) _).length+_=_;rw [e1,rows_cnt,if_neg (by omega),if_pos (Nat.le_refl _)];simp
  ·have e1:List.filter ((fun p:ByteArray×RowA=>decide (p.1=(nT (nmB j)).s) && Cx.eval [vX] p.2.g [b,(x:Int)]) ∘ fun r=>((nT (nmB k)).s,r)) (rowsA' m (h m (by simp)))=[]:=by
    rw [List.filter_eq_nil_iff];intro r _;have:¬ (nT (nmB k)).s=(nT (nmB j)).s:=fun q=>e (nm_inj (by omega) hj q)
    simp [this]
   show (List.filter ((fun p:ByteArray×RowA=>decide (p.1=(nT (nmB j)).s) && Cx.eval [vX] p.2.g [b,(x:Int)]) ∘ fun r=>((nT (nmB k)).s,r)) _).length+_=_;rw [e1]
   by_cases e2:k<=j
   ·have e3:j-k=(j-(k+1))+1:=by omega
    rw [if_pos e2,if_pos (by omega),e3];simp
   ·rw [if_neg e2,if_neg (by omega)];rfl
theorem pairs_name:∀ (l:List (List WRo)) (k:Nat) (h:∀ m∈l,∀ r∈m,r.Ok) (p:ByteArray×RowA),p∈Cx.rowPairs (modesA' k l h)->∃ j,p.1=(nT (nmB j)).s
 | [],_,_,_,hp=>by simp [modesA',Cx.rowPairs] at hp
 | m::l,k,h,p,hp=>by
  unfold modesA' at hp;rw [pairs_cons] at hp;rcases List.mem_append.1 hp with hp | hp
  ·obtain ⟨r,_,rfl⟩:=List.mem_map.1 hp;exact ⟨k,rfl⟩
  ·exact pairs_name l (k+1) _ p hp
theorem pairs_len:∀ (l:List (List WRo)) (k:Nat) (h:∀ m∈l,∀ r∈m,r.Ok),(Cx.rowPairs (modesA' k l h)).length=l.flatten.length
 | [],_,_=>rfl
 | m::l,k,h=>by
  have hr:∀ (m:List WRo) (h:∀ r∈m,r.Ok),(rowsA' m h).length=m.length:=by
   intro m
   induction m with
   | nil=>intro _;rfl
   | cons r m ih=>intro h;simp [rowsA',ih]
  unfold modesA';rw [pairs_cons,List.length_append,List.length_map,pairs_len l (k+1),hr];simp
section
variable (l:List (List WRo)) (h:∀ m∈l,∀ r∈m,r.Ok)
theorem wheel_pairs:Cx.rowPairs (wheelA l h)=Cx.rowPairs (modesA' 0 l h):=by unfold wheelA;rw [pairs_cons];rfl
theorem cnt_all (b:Int) (x:Nat):Cx.cntR [vX] (wheelA l h) (nT [97,108,108]).s [b,(x:Int)]=0:=by
 unfold Cx.cntR;rw [wheel_pairs,List.length_eq_zero_iff,List.filter_eq_nil_iff];intro p hp;obtain ⟨j,e⟩:=pairs_name l 0 h p hp;have:¬ p.1=(nT [97,108,108]).s:=fun q=>by
  have:=all_ne j;rw [<- e,q] at this;simp at this
 simp [this]
theorem cnt_nm (hl:l.length<=5) (j:Nat) (hj:j<5) (b:Int) (x:Nat):Cx.cntR [vX] (wheelA l h) (nT (nmB j)).s [b,(x:Int)]=((l.getD j []).filter (·.at x)).length:=by
 unfold Cx.cntR;rw [wheel_pairs,cnt_modes j hj b x l 0 h (by omega),if_pos (Nat.zero_le _)];simp
theorem wheel_get (j:Nat) (hj:j<l.length):(wheelA l h)[j+1]? = some ⟨nT (nmB j),decide (j=0),1,0,rowsA' l[j] (h _ (List.getElem_mem hj))⟩:=by
 have:=modes_get l 0 h j hj;simp only [Nat.zero_add] at this;unfold wheelA;rw [List.getElem?_cons_succ];exact this
theorem wheel_len:(wheelA l h).length=l.length+1:=by simp [wheelA,modes_len]
theorem modes_inner:∀ (l:List (List WRo)) (k q:Nat) (h:∀ m∈l,∀ r∈m,r.Ok),(((modesA' k l h).zipIdx q).filter (fun p=>decide (p.1.outer=((0:Nat):Int)))).map (·.2)=(List.range l.length).map (· + q)
 | [],_,_,_=>rfl
 | m::l,k,q,h=>by
  unfold modesA';rw [List.zipIdx_cons,List.filter_cons,if_pos (by simp),List.map_cons,modes_inner l (k+1) (q+1),List.length_cons,List.range_succ_eq_map,List.map_cons,List.map_map];congr 1
  ·simp
  ·refine List.map_congr_left (fun a _=>?_);simp;omega
theorem wheel_inner0:Cx.innerIx (wheelA l h) 0=(List.range l.length).map (· + 1):=by
 unfold Cx.innerIx wheelA;rw [List.zipIdx_cons,List.filter_cons,if_neg (by simp),modes_inner l 0 (0+1) h]
theorem wheel_innerS (i:Nat):Cx.innerIx (wheelA l h) (i+1)=[]:=by
 unfold Cx.innerIx;rw [List.map_eq_nil_iff,List.filter_eq_nil_iff];intro p hp;have hm:p.1∈wheelA l h:=List.fst_mem_of_mem_zipIdx hp;unfold wheelA at hm;rcases List.mem_cons.1 hm with e | hm
 ·rw [e];simp;omega
 ·obtain ⟨j,_,_,_,e⟩:=modes_mem l 0 h _ hm
  rw [e];simp;omega
theorem wheel_leaves (hl:l≠[]):Cx.leaves (wheelA l h)=(List.range l.length).map (· + 1):=by
 unfold Cx.leaves Cx.leavesTo;rw [wheel_len,List.range_succ_eq_map,List.filter_cons];have h0:Cx.isLeaf (wheelA l h) 0=false:=by
  unfold Cx.isLeaf;rw [wheel_inner0]
  cases l with
  | nil=>exact absurd rfl hl
  | cons a l=>simp [List.range_succ_eq_map]
 rw [h0,if_neg (by simp),List.filter_eq_self.2];intro a ha;obtain ⟨i,_,rfl⟩:=List.mem_map.1 ha;unfold Cx.isLeaf;rw [Nat.succ_eq_add_one,wheel_innerS];rfl
theorem wheel_outer0:Cx.outerOf (wheelA l h) 0 = -1:=rfl
theorem wheel_path (j:Nat) (hj:j<l.length):Cx.path (wheelA l h) (j+1)=[0,j+1]:=by
 have h1:Cx.outerOf (wheelA l h) (j+1)=0:=by unfold Cx.outerOf;rw [wheel_get l h j hj]
 unfold Cx.path Cx.pathF;rw [h1,if_neg (by omega)]
 cases j with
 | zero=>rfl
 | succ j =>
  show Cx.pathF _ (j+1) 0++_=_;unfold Cx.pathF;rw [wheel_outer0,if_pos (by omega)];rfl
theorem wheel_name (j:Nat) (hj:j<l.length):Cx.nameOf (wheelA l h) (j+1)=(nT (nmB j)).s:=by unfold Cx.nameOf;rw [wheel_get l h j hj]
theorem wheel_judge (hl:l.length<=5) (hn:l.flatten.length<=32) (j:Nat) (hj:j<l.length) (b:Int) (x:Nat) :
  Cx.judgeP (Cx.placeOf (wheelA l h) (j+1)).2 (Cx.rowsTo (Cx.guards [vX] (wheelA l h)) [b,(x:Int)] (Cx.guards [vX] (wheelA l h)).length)=if ((l.getD j []).filter (·.at x)).length=0 then 7 else if ((l.getD j []).filter (·.at x)).length=1 then 0 else 6:=by
 unfold Cx.placeOf;rw [wheel_path l h j hj];simp only [List.map_cons,List.map_nil];rw [wheel_name l h j hj];have hp:(Cx.rowPairs (wheelA l h)).length<=32:=by rw [wheel_pairs,pairs_len];exact hn
 have e0:Cx.nameOf (wheelA l h) 0=(nT [97,108,108]).s:=rfl;rw [e0,Cx.judge_cons _ _ _ _ _ hp,cnt_all,if_pos rfl,Cx.judge_cons _ _ _ _ _ hp,cnt_nm l h hl j (by omega)];rfl
def WRo.nums (r:WRo):List Nat:=r.lo::r.hi.toList
theorem atoms_row (r:WRo) (h:r.Ok):(Cx.atoms [vX] (rowA' r h).g).filter (fun q=>q.which == 0)=[]/\((Cx.atoms [vX] (rowA' r h).g).filter (fun q=>q.which == 1)).flatMap Cx.Q.cuts=r.nums.map (fun (n:Nat)=>(n:Int)):=by
 obtain ⟨lo,hi,to_⟩:=r
 cases hi with
 | none =>
  have e:Cx.atoms [vX] (rowA' ⟨lo,none,to_⟩ h).g=[⟨1,false,(lo:Int),true⟩]:=by
   show [Cx.qOf [vX] false (nT [120]) (sT [62,61]) (iT lo)]=_;rw [q_lo]
  rw [e];exact ⟨rfl,rfl⟩
 | some d =>
  have e:Cx.atoms [vX] (rowA' ⟨lo,some d,to_⟩ h).g=[⟨1,false,(lo:Int),true⟩,⟨1,false,(d:Int),false⟩]:=by
   show [Cx.qOf [vX] false (nT [120]) (sT [62,61]) (iT lo)]++[Cx.qOf [vX] false (nT [120]) (sT [60]) (iT d)]=_;rw [q_lo,q_hi];rfl
  rw [e];exact ⟨rfl,rfl⟩
theorem cuts_rows (x:Int):∀ (m:List WRo) (h:∀ r∈m,r.Ok),(Cx.cutsAt ((rowsA' m h).flatMap fun r=>Cx.atoms [vX] r.g) 0=[])/\(x∈Cx.cutsAt ((rowsA' m h).flatMap fun r=>Cx.atoms [vX] r.g) 1↔∃ r∈m,∃ n∈r.nums,(n:Int)=x)
 | [],_=>⟨rfl,by simp [rowsA',Cx.cutsAt]⟩
 | r::m,h=>by
  obtain ⟨i1,i2⟩:=cuts_rows x m (fun q hq=>h q (by simp [hq]));obtain ⟨a1,a2⟩:=atoms_row r (h r (by simp));unfold Cx.cutsAt at i1 i2 |-;unfold rowsA';rw [List.flatMap_cons,List.filter_append,List.filter_append,List.flatMap_append,List.flatMap_append,a1,a2,i1];refine ⟨rfl,?_⟩;rw [List.mem_append,i2,List.mem_map];simp
theorem cuts_modes (x:Int):∀ (l:List (List WRo)) (k:Nat) (h:∀ m∈l,∀ r∈m,r.Ok),(Cx.cutsAt (Cx.allAtoms [vX] (modesA' k l h)) 0=[])/\(x∈Cx.cutsAt (Cx.allAtoms [vX] (modesA' k l h)) 1↔∃ m∈l,∃ r∈m,∃ n∈r.nums,(n:Int)=x)
 | [],_,_=>⟨rfl,by simp [modesA',Cx.allAtoms,Cx.rowsAll,Cx.cutsAt]⟩
 | m::l,k,h=>by
  obtain ⟨i1,i2⟩:=cuts_modes x l (k+1) (fun q hq=>h q (by simp [hq]));obtain ⟨a1,a2⟩:=cuts_rows x m (h m (by simp));have e:Cx.allAtoms [vX] (modesA' k (m::l) h)=((rowsA' m (h m (by simp))).flatMap fun r=>Cx.atoms [vX] r.g)++Cx.allAtoms [vX] (modesA' (k+1) l (fun q hq=>h q (by simp [hq]))):=by
   simp [Cx.allAtoms,Cx.rowsAll,modesA']
  rw [e];unfold Cx.cutsAt at i1 i2 a1 a2 |-;rw [List.filter_append,List.filter_append,List.flatMap_append,List.flatMap_append,a1,i1];refine ⟨rfl,?_⟩;rw [List.mem_append,i2,a2];simp
theorem wheel_choices (cuts:List Nat) (hc1:cuts.Pairwise (· < ·)) (hc2:∀ c,c∈cuts↔c=0\/(c<100/\∃ m∈l,∃ r∈m,c∈r.nums)):Cx.choices [vX] (wheelA l h)=[[0],cuts.map (fun (c:Nat)=>(c:Int))]:=by
 have e:Cx.allAtoms [vX] (wheelA l h)=Cx.allAtoms [vX] (modesA' 0 l h):=rfl;have c0:Cx.choice [vX] (Cx.allAtoms [vX] (wheelA l h)) 0=[0]:=by
  show Cx.leastOnes 0 99 (Cx.cutsAt (Cx.allAtoms [vX] (wheelA l h)) 0)=[0];rw [e,(cuts_modes 0 l 0 h).1];exact least_is (by simp) (fun x=>by simp)
 have c1:Cx.choice [vX] (Cx.allAtoms [vX] (wheelA l h)) 1=cuts.map (fun (c:Nat)=>(c:Int)):=by
  show Cx.leastOnes 0 99 (Cx.cutsAt (Cx.allAtoms [vX] (wheelA l h)) 1)=_;rw [e];refine least_is ?_ (fun x=>?_)
  ·rw [List.pairwise_map]
   exact hc1.imp (fun hh=>by omega)
  ·rw [(cuts_modes x l 0 h).2,List.mem_map]
   constructor
   ·rintro ⟨c,hc,rfl⟩
    rcases (hc2 c).1 hc with e | ⟨h1,m,hm,r,hr,hx⟩
    ·exact .inl (by omega)
    ·by_cases h0:c=0
     ·exact .inl (by omega)
     ·exact .inr ⟨⟨m,hm,r,hr,c,hx,rfl⟩,by omega,by omega⟩
   ·rintro (rfl | ⟨⟨m,hm,r,hr,n,hx,rfl⟩,h1,h2⟩)
    ·exact ⟨0,(hc2 0).2 (.inl rfl),rfl⟩
    ·exact ⟨n,(hc2 n).2 (.inr ⟨by omega,m,hm,r,hr,hx⟩),rfl⟩
 show [Cx.choice [vX] (Cx.allAtoms [vX] (wheelA l h)) 0,Cx.choice [vX] (Cx.allAtoms [vX] (wheelA l h)) 1]=_;rw [c0,c1]
theorem wheel_scenes (cuts:List Nat) (hc1:cuts.Pairwise (· < ·)) (hc2:∀ c,c∈cuts↔c=0\/(c<100/\∃ m∈l,∃ r∈m,c∈r.nums)):Cx.scenes [vX] (wheelA l h)=cuts.map (fun (c:Nat)=>([0,(c:Int)],Cx.rowsTo (Cx.guards [vX] (wheelA l h)) [0,(c:Int)] (Cx.guards [vX] (wheelA l h)).length)):=by
 unfold Cx.scenes;rw [wheel_choices l h cuts hc1 hc2];have e:Cx.combine [[0],cuts.map (fun (c:Nat)=>(c:Int))]=cuts.map (fun (c:Nat)=>[0,(c:Int)]):=by
  simp [Cx.combine,Cx.longer]
 rw [e,List.map_map];rfl
theorem wheel_places (hl:l≠[]):Cx.places (wheelA l h)=(List.range l.length).map (fun j=>Cx.placeOf (wheelA l h) (j+1)):=by
 unfold Cx.places;rw [wheel_leaves l h hl,List.map_map];rfl
end
end
section
open Hx Go.RowKit
def cutStep (cs:List Nat) (b:Int):List Nat:=if cs.getLastD 0<98 then cs++[cs.getLastD 0+1+Kx.pick b (99-cs.getLastD 0)] else cs
def cutsOf:List Int->List Nat->List Nat
 | [],cs=>cs
 | b::bs,cs=>if cs.length<4 then cutsOf bs (cutStep cs b) else cs
structure CutOk (cs:List Nat):Prop where
 up:cs.Pairwise (· < ·)
 zero:cs.head? = some 0
 lt:∀ c∈cs,c<100
 few:cs.length<=4
theorem CutOk.pos {cs:List Nat} (h:CutOk cs):0<cs.length:=by
 have:=h.zero
 cases cs with
 | nil=>cases this
 | cons a l=>simp
theorem cut_zero:CutOk [0]:=⟨by simp,rfl,by simp,by simp⟩
theorem last_mem {cs:List Nat} (h:0<cs.length):cs.getLastD 0∈cs:=by
 cases cs with
 | nil=>simp at h
 | cons a l=>rw [List.getLastD_cons];exact List.getLastD_mem_cons
theorem up_last:∀ {cs:List Nat},cs.Pairwise (· < ·)->∀ c∈cs,c<=cs.getLastD 0:=by
 intro cs h c hc;obtain ⟨l,x,rfl⟩ : ∃ l x,cs=l++[x]:=by
  rcases List.eq_nil_or_concat cs with rfl | ⟨l,x,e⟩
  ·simp at hc
  ·exact ⟨l,x,by simpa using e⟩
 rw [List.getLastD_concat];rcases List.mem_append.1 hc with hc | hc
 ·have:=(List.pairwise_append.1 h).2.2 c hc x (by simp);omega
 ·simp at hc;omega
theorem cut_step {cs:List Nat} (h:CutOk cs) (b:Int) (hl:cs.length<4):CutOk (cutStep cs b):=by
 unfold cutStep;split
 ·rename_i hlt
  have hp:=Kx.pick_lt b (99-cs.getLastD 0) (by omega);have h0:=h.pos;refine ⟨List.pairwise_append.2 ⟨h.up,by simp,fun a ha c hc=>?_⟩,?_,fun c hc=>?_,by simp;omega⟩
  ·rw [List.mem_singleton] at hc
   have:=up_last h.up a ha;omega
  ·have:=h.zero
   cases cs with
   | nil=>cases this
   | cons a l=>exact this
  ·rcases List.mem_append.1 hc with hc | hc
   ·exact h.lt c hc
   ·rw [List.mem_singleton] at hc;omega
 ·exact h
theorem cuts_ok:∀ (bs:List Int) (cs:List Nat),CutOk cs->CutOk (cutsOf bs cs)
 | [],_,h=>h
 | b::bs,cs,h=>by
  unfold cutsOf;split
  ·rename_i hl;exact cuts_ok bs _ (cut_step h b hl)
  ·exact h
def gAt (goals:List Int) (n a:Nat):Nat:=if a<goals.length then Kx.pick (goals.getD a 0) (n+1) else 0
theorem gAt_le (goals:List Int) (n a:Nat):gAt goals n a<=n:=by
 unfold gAt;split
 ·have:=Kx.pick_lt (goals.getD a 0) (n+1) (by omega);omega
 ·omega
def wRow (cuts:List Nat) (goals:List Int) (n k i:Nat):WRo:=⟨cuts.getD i 0,cuts[i+1]?,if gAt goals n (k*cuts.length+i)=n then none else some (gAt goals n (k*cuts.length+i))⟩
def wRows (cuts:List Nat) (goals:List Int) (n k:Nat):List WRo:=(List.range cuts.length).map (wRow cuts goals n k)
def wL (cuts:List Nat) (goals:List Int) (n:Nat):List (List WRo):=(List.range n).map (wRows cuts goals n)
def toAt (goals:List Int) (n p k i:Nat):Nat:=if gAt goals n (k*p+i)=n then k else gAt goals n (k*p+i)
def partTo (cuts:List Nat) (x:Nat):Nat->Nat
 | 0=>0
 | j+1=>if cuts.getD j 0<=x then j else partTo cuts x j
theorem part_spec {cuts:List Nat} (h:CutOk cuts) (x:Nat):∀ j,0<j->j<=cuts.length->partTo cuts x j<j/\cuts.getD (partTo cuts x j) 0<=x/\∀ i,partTo cuts x j<i->i<j->x<cuts.getD i 0
 | 0,hj,_=>absurd hj (Nat.lt_irrefl _)
 | j+1,_,hj=>by
  unfold partTo;split
  ·rename_i hc;exact ⟨by omega,hc,fun i h1 h2=>by omega⟩
  ·rename_i hc
   have h0:0<j:=by
    rcases Nat.eq_zero_or_pos j with rfl | e
    ·exfalso
     have:=h.zero
     cases cuts with
     | nil=>simp at hj
     | cons a l=>simp at this hc;omega
    ·exact e
   obtain ⟨a1,a2,a3⟩:=part_spec h x j h0 (by omega);refine ⟨by omega,a2,fun i h1 h2=>?_⟩
   by_cases e:i=j
   ·subst e;omega
   ·exact a3 i h1 (by omega)
def part (cuts:List Nat) (x:Nat):Nat:=partTo cuts x cuts.length
theorem cut_lt {cuts:List Nat} (h:CutOk cuts) {i j:Nat} (hij:i<j) (hj:j<cuts.length):cuts.getD i 0<cuts.getD j 0:=by
 have:=List.pairwise_iff_getElem.1 h.up i j (by omega) hj hij;simpa [List.getD_eq_getElem?_getD,hj,show i<cuts.length by omega] using this
theorem row_at {cuts:List Nat} (h:CutOk cuts) (goals:List Int) (n k x i:Nat) (hi:i<cuts.length):(wRow cuts goals n k i).at x=decide (i=part cuts x):=by
 obtain ⟨a1,a2,a3⟩:=part_spec h x cuts.length h.pos (Nat.le_refl _);unfold WRo.at wRow part
 by_cases hn:i+1<cuts.length
 ·simp only [List.getElem?_eq_getElem hn]
  have e:cuts[i+1]=cuts.getD (i+1) 0:=by simp [List.getD_eq_getElem?_getD,hn]
  rw [e]
  by_cases hp:i=partTo cuts x cuts.length
  ·rw [decide_eq_true hp,decide_eq_true (by rw [hp];exact a2),decide_eq_true (a3 (i+1) (by omega) hn)];rfl
  ·rw [decide_eq_false hp]
   by_cases hlo:cuts.getD i 0<=x
   ·rw [decide_eq_true hlo,Bool.true_and,decide_eq_false]
    intro hh;have hlt:i<partTo cuts x cuts.length:=by
     rcases Nat.lt_trichotomy i (partTo cuts x cuts.length) with q | q | q
     ·exact q
     ·exact absurd q hp
     ·have:=a3 i q hi;omega
    by_cases e2:i+1=partTo cuts x cuts.length
    ·rw [e2] at hh;omega
    ·have:=cut_lt h (show i+1<partTo cuts x cuts.length by omega) a1;omega
   ·rw [decide_eq_false hlo];rfl
 ·simp only [List.getElem?_eq_none (show cuts.length<=i+1 by omega),Bool.and_true]
  by_cases hp:i=partTo cuts x cuts.length
  ·rw [decide_eq_true hp,decide_eq_true (by rw [hp];exact a2)]
  ·rw [decide_eq_false hp,decide_eq_false]
   have:=a3 i (by omega) hi;omega
theorem range_one (q:Nat):∀ p,(List.range p).filter (fun i=>decide (i=q))=if q<p then [q] else []
 | 0=>by simp
 | p+1=>by
  rw [List.range_succ,List.filter_append,range_one q p]
  by_cases e:p=q
  ·subst e;simp
  ·by_cases e2:q<p
   ·simp [e,e2,show q<p+1 by omega]
   ·simp [e,e2,show ¬ q<p+1 by omega]
theorem rows_one {cuts:List Nat} (h:CutOk cuts) (goals:List Int) (n k x:Nat):(wRows cuts goals n k).filter (·.at x)=[wRow cuts goals n k (part cuts x)]:=by
 have hp:part cuts x<cuts.length:=(part_spec h x cuts.length h.pos (Nat.le_refl _)).1;unfold wRows;rw [List.filter_map];have e:(List.range cuts.length).filter ((fun r:WRo=>r.at x) ∘ wRow cuts goals n k)=(List.range cuts.length).filter (fun i=>decide (i=part cuts x)):=by
  refine List.filter_congr (fun i hi=>?_);exact row_at h goals n k x i (List.mem_range.1 hi)
 rw [e,range_one,if_pos hp];rfl
theorem wL_get (cuts:List Nat) (goals:List Int) (n k:Nat) (hk:k<n):(wL cuts goals n).getD k []=wRows cuts goals n k:=by
 simp [wL,List.getD_eq_getElem?_getD,hk]
theorem wL_mem {cuts:List Nat} {goals:List Int} {n:Nat} {m:List WRo} (hm:m∈wL cuts goals n) {r:WRo} (hr:r∈m):∃ k i,k<n/\i<cuts.length/\r=wRow cuts goals n k i:=by
 obtain ⟨k,hk,rfl⟩:=List.mem_map.1 hm;obtain ⟨i,hi,rfl⟩:=List.mem_map.1 hr;exact ⟨k,i,List.mem_range.1 hk,List.mem_range.1 hi,rfl⟩
theorem getD_mem {cuts:List Nat} {i:Nat} (hi:i<cuts.length):cuts.getD i 0∈cuts:=by simp [List.getD_eq_getElem?_getD,hi]
theorem wL_to {cuts:List Nat} {goals:List Int} {n:Nat}:∀ m∈wL cuts goals n,∀ r∈m,∀ k,r.to_=some k->k<n:=by
 intro m hm r hr k hk;obtain ⟨j,i,_,_,rfl⟩:=wL_mem hm hr;have:=gAt_le goals n (j*cuts.length+i);simp only [wRow] at hk;split at hk
 ·cases hk
 ·cases hk;omega
theorem wL_ok {cuts:List Nat} (h:CutOk cuts) (goals:List Int) (n:Nat) (h5:n<=5):∀ m∈wL cuts goals n,∀ r∈m,r.Ok:=by
 intro m hm r hr;have ht:=wL_to m hm r hr;obtain ⟨k,i,hk,hi,rfl⟩:=wL_mem hm hr;refine ⟨h.lt _ (getD_mem hi),fun d hd=>?_,fun k hk=>by have:=ht k hk;omega⟩;exact h.lt d (List.mem_of_getElem? hd)
def wP (cuts:List Nat):List (List Hx.Tok):=cuts.map (fun c=>[nT [120],sT [62,61],iT c])++cuts.tail.map (fun c=>[nT [120],sT [60],iT c])
theorem wP_len {cuts:List Nat} (h:CutOk cuts):(wP cuts).length<=7:=by
 have:=h.few;simp [wP];omega
theorem wL_in {cuts:List Nat} (goals:List Int) (n:Nat):∀ m∈wL cuts goals n,∀ r∈m,InP (wP cuts) r:=by
 intro m hm r hr;obtain ⟨k,i,hk,hi,rfl⟩:=wL_mem hm hr;refine ⟨List.mem_append_left _ (List.mem_map.2 ⟨_,getD_mem hi,rfl⟩),fun d hd=>List.mem_append_right _ (List.mem_map.2 ⟨d,?_,rfl⟩)⟩;have:cuts[i+1]? = some d:=hd;rw [<- List.getElem?_tail] at this;exact List.mem_of_getElem? this
theorem wL_rows (cuts:List Nat) (goals:List Int):∀ n k,((List.range k).map (wRows cuts goals n)).flatten.length=k*cuts.length
 | _,0=>by simp
 | n,k+1=>by
  rw [List.range_succ,List.map_append,List.flatten_append,List.length_append,wL_rows cuts goals n k,Nat.succ_mul];simp [wRows]
theorem wL_few {cuts:List Nat} (h:CutOk cuts) (goals:List Int) (n:Nat) (h5:n<=5):(wL cuts goals n).flatten.length<=20:=by
 unfold wL;rw [wL_rows];exact Nat.mul_le_mul h5 h.few
theorem wL_cuts {cuts:List Nat} (h:CutOk cuts) (goals:List Int) (n:Nat) (h1:1<=n) (c:Nat):c∈cuts↔c=0\/(c<100/\∃ m∈wL cuts goals n,∃ r∈m,c∈r.nums):=by
 constructor
 ·intro hc
  obtain ⟨i,hi,rfl⟩:=List.getElem_of_mem hc;refine .inr ⟨h.lt _ hc,wRows cuts goals n 0,List.mem_map.2 ⟨0,List.mem_range.2 (by omega),rfl⟩,wRow cuts goals n 0 i,List.mem_map.2 ⟨i,List.mem_range.2 hi,rfl⟩,?_⟩;simp [WRo.nums,wRow,List.getD_eq_getElem?_getD,hi]
 ·rintro (rfl | ⟨_,m,hm,r,hr,hx⟩)
  ·have:=h.zero
   exact List.mem_of_mem_head? (by rw [this];simp)
  ·obtain ⟨k,i,hk,hi,rfl⟩:=wL_mem hm hr
   rcases List.mem_cons.1 hx with rfl | hx
   ·exact getD_mem hi
   ·simp only [wRow,Option.mem_toList] at hx
    exact List.mem_of_getElem? hx
theorem decB_len (c:Nat):(decB c).length<=2:=by unfold decB;split <;> simp
theorem text_row (r:WRo):r.text.length<=40:=by
 obtain ⟨lo,hi,to_⟩:=r;have h1:=decB_len lo
 cases hi with
 | none=>cases to_ <;> simp [WRo.text,nmB] <;> omega
 | some d =>
  have h2:=decB_len d
  cases to_ <;> simp [WRo.text,nmB] <;> omega
theorem text_rows:∀ l:List WRo,(rowsText l).length<=40*l.length
 | []=>by simp [rowsText]
 | r::l=>by
  have h1:=text_row r;have h2:=text_rows l;simp only [rowsText,List.flatMap_cons,List.length_append,List.length_cons] at h2 |-;omega
theorem text_modes:∀ (l:List (List WRo)) (k:Nat),(modesText k l).length<=30*l.length+40*l.flatten.length
 | [],_=>by simp [modesText]
 | m::l,k=>by
  have h1:=text_rows m;have h2:=text_modes l (k+1);unfold modesText
  by_cases hk:k=0
  ·simp only [hk,if_true,List.length_append,List.length_cons,List.length_nil,nmB,List.flatten_cons] at h2 |-;omega
  ·simp only [if_neg hk,List.length_append,List.length_cons,List.length_nil,nmB,List.flatten_cons] at h2 |-;omega
theorem wheel_size {cuts:List Nat} (h:CutOk cuts) (goals:List Int) (n:Nat) (h5:n<=5):(wheelText (wL cuts goals n)).length<=1000:=by
 have h1:=text_modes (wL cuts goals n) 0;have h2:=wL_few h goals n h5;have h3:(wL cuts goals n).length=n:=by simp [wL]
 unfold wheelText;simp only [List.length_append,List.length_cons,List.length_nil];omega
theorem tab_oneW {ts:List Hx.Tok} {vs vs':List VarA} {ms ms':List MA} (h:TabD ts vs ms) (h':TabD ts vs' ms'):vs=vs'/\ms=ms':=by
 obtain ⟨f0,e0⟩:=tab_ev h;obtain ⟨f1,e1⟩:=tab_ev h';have:=(e0 (f0+f1) (by omega)).symm.trans (e1 (f0+f1) (by omega));injection this with this;injection this with h1 h2;exact ⟨h1,h2⟩
end
end Go.Proofs.YtdjaiolfdbamcaaGreatDoor
