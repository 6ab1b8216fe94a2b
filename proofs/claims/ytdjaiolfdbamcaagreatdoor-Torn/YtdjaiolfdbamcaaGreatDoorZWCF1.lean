/- The walk of OnesCount32. -/
import Derived.Test.YtdjaiolfdbamcaaGreatDoorZWRead1
import Derived.Test.YtdjaiolfdbamcaaGreatDoorZCA
import Derived.Lib.BitFns
import Derived.WalkSmall
import Derived.Test.YtdjaiolfdbamcaaGreatDoorShelf2
import Derived.Lib.OwnBridge
import Derived.Sort.OwnSortedInts
set_option maxRecDepth 20000
set_option maxHeartbeats 400000
namespace Go.Proofs.YtdjaiolfdbamcaaGreatDoor
section
open Go.RowKit
theorem and255 (a:Int) (h0:0<=a) (h1:a<4294967296):bits .and .u32 a 255=a % 256:=by
 obtain ⟨n,rfl⟩ : ∃ n:Nat,a=(n:Int):=⟨a.toNat,by omega⟩;have e1:(BitVec.ofInt 32 (n:Int)).toNat=n:=by
  rw [BitVec.ofInt_natCast,BitVec.toNat_ofNat];exact Nat.mod_eq_of_lt (by omega)
 have e2:(BitVec.ofInt 32 (255:Int)).toNat=255:=by decide
 have e3:n &&& 255=n % 256:=Nat.and_two_pow_sub_one_eq_mod n 8;show IntKind.u32.wrap ((BitVec.ofInt 32 (n:Int) &&& BitVec.ofInt 32 (255:Int)).toNat:Int)=_;rw [BitVec.toNat_and,e1,e2,e3,IntKind.wrap_u32];omega
theorem pop_zero:∀ f:Nat,Lib.popAux f 0=0
 | 0=>rfl
 | f+1=>by
  show 0 % 2+Lib.popAux f (0/2)=0;rw [Nat.zero_div,pop_zero f]
theorem pop_split:∀ a b x:Nat,Lib.popAux (a+b) x=Lib.popAux a x+Lib.popAux b (x/2 ^ a)
 | 0,b,x=>by simp [Lib.popAux]
 | a+1,b,x=>by
  rw [show a+1+b=a+b+1 by omega];show x % 2+Lib.popAux (a+b) (x/2)=x % 2+Lib.popAux a (x/2)+_;rw [pop_split a b (x/2),Nat.div_div_eq_div_mul,Nat.pow_succ,Nat.mul_comm 2,Nat.add_assoc]
theorem pop_mod:∀ a x:Nat,Lib.popAux a (x % 2 ^ a)=Lib.popAux a x
 | 0,_=>rfl
 | a+1,x=>by
  show x % 2 ^ (a+1) % 2+Lib.popAux a (x % 2 ^ (a+1)/2)=x % 2+Lib.popAux a (x/2);have e1:x % 2 ^ (a+1) % 2=x % 2:=Nat.mod_mod_of_dvd _ ⟨2 ^ a,by rw [Nat.pow_succ,Nat.mul_comm]⟩;have e2:x % 2 ^ (a+1)/2=x/2 % 2 ^ a:=by
   rw [Nat.pow_succ,Nat.mul_comm,Nat.mod_mul_right_div_self]
  rw [e1,e2,pop_mod a (x/2)]
theorem pop_le:∀ a x:Nat,Lib.popAux a x<=a
 | 0,_=>Nat.le_refl _
 | a+1,x=>by
  show x % 2+Lib.popAux a (x/2)<=a+1;have:=pop_le a (x/2);omega
theorem pop8_aux (n:Nat) (h:n<256):Lib.pop8 (n:Int)=(Lib.popAux 8 n:Int):=by
 rw [Lib.pop8_eq ⟨n,h⟩];show ((Lib.popAux (8+56) n:Nat):Int)=_;rw [pop_split,show n/2 ^ 8=0 by omega,pop_zero];rfl
theorem pop_bytes (x:Int) (h0:0<=x) (h1:x<4294967296) :
  (Lib.pop8 (x/16777216)+Lib.pop8 (x/65536 % 256)+Lib.pop8 (x/256 % 256)+Lib.pop8 (x % 256)) % 256
   = (Lib.popAux 32 x.toNat:Int):=by
 obtain ⟨n,rfl⟩ : ∃ n:Nat,x=(n:Int):=⟨x.toNat,by omega⟩
 rw [show ((n:Int)/16777216)=((n/16777216:Nat):Int) by omega,
  show ((n:Int)/65536 % 256)=((n/65536 % 256:Nat):Int) by omega,
  show ((n:Int)/256 % 256)=((n/256 % 256:Nat):Int) by omega,
  show ((n:Int) % 256)=((n % 256:Nat):Int) by omega,
  pop8_aux _ (by omega),pop8_aux _ (by omega),pop8_aux _ (by omega),pop8_aux _ (by omega),Int.toNat_natCast]
 have s1:=pop_split 8 24 n;have s2:=pop_split 8 16 (n/2 ^ 8);have s3:=pop_split 8 8 (n/2 ^ 8/2 ^ 8);have m1:=pop_mod 8 n;have m2:=pop_mod 8 (n/2 ^ 8);have m3:=pop_mod 8 (n/2 ^ 8/2 ^ 8);have l:=pop_le 32 n;rw [show n/2 ^ 8/2 ^ 8/2 ^ 8=n/16777216 by omega] at s3;rw [show n/2 ^ 8/2 ^ 8=n/65536 by omega] at s2 s3 m3;rw [show n/2 ^ 8=n/256 by omega] at s1 s2 m2;simp only [show (8:Nat)+24=32 from rfl,show (8:Nat)+16=24 from rfl,show (8:Nat)+8=16 from rfl,show (2:Nat) ^ 8=256 from rfl] at s1 s2 s3 m1 m2 m3;omega
theorem OnesCount32_any (w:World) (x:Int) (h0:0<=x) (h1:x<4294967296) :
  Calls Tryz.prog 167 #[.int .u32 x] w fun e w'=>e=.returned (.int .i64 (Lib.popAux 32 x.toNat))/\w'=w.drew:=by
 have b0:0<=x/16777216:=by omega
 have b1:x/16777216<=255:=by omega
 have a1:bits BinOp.and IntKind.u32 (x/65536) 255=x/65536 % 256:=and255 _ (by omega) (by omega);have a2:bits BinOp.and IntKind.u32 (x/256) 255=x/256 % 256:=and255 _ (by omega) (by omega);have a3:bits BinOp.and IntKind.u32 x 255=x % 256:=and255 _ (by omega) (by omega);go_enter Tryz.func167,Tryz.ntmps167;generalize hT:(ByteArray.mk (List.toArray (List.append _ _)))=T;have eT:T=Lib.pop8tab:=by rw [<- hT];rfl
 clear hT;subst eT;go_wp2
 go_region
 go_wp2;go_ret;exact ⟨congrArg (fun n=>Ending.returned (Value.int IntKind.i64 n)) (pop_bytes x h0 h1),rfl⟩
end
section
open Go.RowKit
namespace Cx
def judgeP:List Int->Int->Int
 | [],_=>7
 | r::rs,x=>if Lib.popAux 32 (bits .and .u32 r x).toNat=0 then judgeP rs x else if Lib.popAux 32 (bits .and .u32 r x).toNat=1 then 0 else 6
end Cx
theorem bits_u32 (op:BinOp) (a b:Int):0<=bits op .u32 a b/\bits op .u32 a b<4294967296:=by
 have:∃ n,bits op .u32 a b=IntKind.u32.wrap n:=⟨_,rfl⟩;obtain ⟨n,e⟩:=this;rw [e,IntKind.wrap_u32];omega
theorem judge_any (w:World) (g cap:Nat) (l:List Int) (x:Int) (hc:∀ i (hi:i<l.length),w.cell? ⟨g,i,none⟩=some (.int .u32 l[i])) (hg:0<l.length->g<w.heap.size) (hl:l.length<=100000) :
  Calls Tryz.prog 117 #[.slice (some ⟨g,0,none⟩) l.length cap,.int .u32 x] w fun e w'=>e=.returned (.int .i64 (Cx.judgeP l x))/\Below w.heap.size w w':=by
 have HC:=hide hc;clear hc;go_enter Tryz.func117,Tryz.ntmps117;go_wp2_with fail
 go_loopw [9] (fun v9 wr=>∃ k:Nat,k<=l.length/\v9=.int .i64 k/\Below w.heap.size w wr/\Cx.judgeP (l.drop k) x=Cx.judgeP l x) (fun v9 _=>l.length-(intOf v9).toNat)
 case atStart=>exact ⟨0,by omega,rfl,Below.refl _ _,rfl⟩
 case round =>
  obtain ⟨k,hk,rfl,hb,ha⟩:=hrel;have HA:=hide ha;have HB:=hide hb;have hsz:=hb.size;clear ha
  by_cases hlt:k<l.length
  ·have hgl:=hg (by omega)
   have hki:(k:Int)<l.length:=by omega
   have hk0:(0:Int)<=k:=by omega
   have x0:=(hb.cell (p:=⟨g,k,none⟩) hgl).trans (HC.out k hlt);have HD:Hid (Cx.judgeP (l.drop k) x=_):=hide (by rw [List.drop_eq_getElem_cons hlt,Cx.judgeP]);clear hb;generalize l[k]=r at *;have HN:=hide (OnesCount32_any wr _ (bits_u32 .and r x).1 (bits_u32 .and r x).2);generalize hn:Lib.popAux 32 (bits .and .u32 r x).toNat=n at *;clear hn;go_wp2_with fail;refine HN.out.mono ?_;rintro e w1 ⟨rfl,rfl⟩;have HB1:Hid (Below w.heap.size w wr.drew):=hide (HB.out.trans ((below_d wr).mono HB.out.size));clear HN
   by_cases n0:n=0
   ·subst n0
    have HE:Hid (Cx.judgeP (l.drop (k+1)) x=Cx.judgeP l x):=hide (by rw [<- HA.out,HD.out,if_pos rfl]);go_wp2_with fail
    go_roundw
    case rel=>exact ⟨k+1,by omega,by go_num,HB1.out,HE.out⟩
    case measure=>simp [intOf];omega
   ·by_cases n1:n=1
    ·subst n1
     have HE:Hid (Cx.judgeP l x=0):=hide (by rw [<- HA.out,HD.out,if_neg (by omega),if_pos rfl]);go_wp2_with fail;go_ret;exact ⟨ret_int HE.out.symm,HB1.out⟩
    ·have HE:Hid (Cx.judgeP l x=6):=hide (by rw [<- HA.out,HD.out,if_neg n0,if_neg n1])
     have c0:((n:Int) == 0)=false:=by simp;omega
     have c1:((n:Int) == 1)=false:=by simp;omega
     go_wp2_with fail;go_ret;exact ⟨ret_int HE.out.symm,HB1.out⟩
  ·obtain rfl:k=l.length:=by omega
   have HZ:Hid (Cx.judgeP l x=7):=hide (by rw [<- HA.out,List.drop_length];rfl);go_wp2_with fail;go_ret;exact ⟨ret_int HZ.out.symm,HB.out⟩
end
section
open Go.RowKit
def NS (m:Nat) (W:World) (s:Value) (l:List Int):Prop :=
 l.length=m/\∃ g cap,s=.slice (some ⟨g,0,none⟩) l.length cap/\g<W.heap.size/\∀ i (hi:i<l.length),W.cell? ⟨g,i,none⟩=some (.int .i64 l[i])
theorem NS.below {m:Nat} {W W':World} {s:Value} {l:List Int} (h:NS m W s l) (hb:Below W.heap.size W W'):NS m W' s l:=by
 obtain ⟨e,g,cap,rfl,hg,hc⟩:=h;exact ⟨e,g,cap,rfl,Nat.lt_of_lt_of_le hg hb.size,fun i hi=>(hb.cell (p:=⟨g,i,none⟩) hg).trans (hc i hi)⟩
def Ans (m:Nat) (w:World) (v:Value) (p:List Int->Bool):Prop :=
 ∃ f bs cs,v=.func (.func f) bs cs/\(∀ args W,(callFunc f args).run Tryz.prog W=.ok (.enter f args) W) /\
  ∀ W s l,Below w.heap.size w W->NS m W s l->Calls Tryz.prog f (bs.push s++cs) W fun e w'=>e=.returned (.bool (p l))/\Below W.heap.size W w'
theorem Ans.below {m:Nat} {w w':World} {v:Value} {p:List Int->Bool} (h:Ans m w v p) (hb:Below w.heap.size w w'):Ans m w' v p:=by
 obtain ⟨f,bs,cs,rfl,he,hc⟩:=h;exact ⟨f,bs,cs,rfl,he,fun W s l hW hs=>hc W s l (hb.trans (hW.mono hb.size)) hs⟩
theorem ans_not {m:Nat} {w:World} {c:Nat} {v:Value} {p:List Int->Bool} (hc:c<w.heap.size) (hx:w.cell? ⟨c,0,none⟩=some v) (ha:Ans m w v p) :
  Ans m w (.func (.func 207) #[] #[.pointer (some ⟨c,0,none⟩)]) (fun l=>!p l):=by
 obtain ⟨f,bs,cs,rfl,he,hf⟩:=ha;refine ⟨_,_,_,rfl,enters_of Tryz.func207 (by kernel_rfl) rfl,fun W s l hW hs=>?_⟩;have x0:=(hW.cell (p:=⟨c,0,none⟩) hc).trans hx;have HF:=hide (hf W s l hW hs);clear hf hW hx hs;show Calls Tryz.prog _ #[s,.pointer (some ⟨c,0,none⟩)] W fun e w'=>e=.returned (.bool (!p l))/\Below W.heap.size W w'
 generalize p l=b at *;go_enter Tryz.func207,Tryz.ntmps207;go_wp2_with fail;refine HF.out.mono ?_;rintro e w1 ⟨rfl,hb⟩;have HB:=hide hb;clear hb;go_wp2_with fail;go_ret;exact ⟨rfl,HB.out⟩
theorem ans_true {m:Nat} {w:World}:Ans m w (.func (.func 209) #[] #[]) (fun _=>true):=by
 refine ⟨_,_,_,rfl,enters_of Tryz.func209 (by kernel_rfl) rfl,fun W s l hW hs=>?_⟩;show Calls Tryz.prog _ #[s] W _;go_enter Tryz.func209,Tryz.ntmps209;go_wp2_with fail;go_ret;exact ⟨rfl,Below.refl _ _⟩
theorem ans_or {m:Nat} {w:World} {c d:Nat} {v u:Value} {p q:List Int->Bool} (hc:c<w.heap.size) (hd:d<w.heap.size) (hx:w.cell? ⟨c,0,none⟩=some v) (hy:w.cell? ⟨d,0,none⟩=some u) (ha:Ans m w v p) (ha':Ans m w u q) :
  Ans m w (.func (.func 205) #[] #[.pointer (some ⟨c,0,none⟩),.pointer (some ⟨d,0,none⟩)]) (fun l=>p l || q l):=by
 obtain ⟨f,bs,cs,rfl,he,hf⟩:=ha;obtain ⟨f',bs',cs',rfl,he',hf'⟩:=ha';refine ⟨_,_,_,rfl,enters_of Tryz.func205 (by kernel_rfl) rfl,fun W s l hW hs=>?_⟩;have x0:=(hW.cell (p:=⟨c,0,none⟩) hc).trans hx;have y0:=(hW.cell (p:=⟨d,0,none⟩) hd).trans hy;have HD:=hide (Nat.lt_of_lt_of_le hd hW.size);have HF:=hide (hf W s l hW hs);have HG:=hide (fun W' (hb:Below W.heap.size W W')=>hf' W' s l (hW.trans (hb.mono hW.size)) (hs.below hb));clear hf hf' hW hx hy hs;show Calls Tryz.prog _ #[s,.pointer (some ⟨c,0,none⟩),.pointer (some ⟨d,0,none⟩)] W fun e w'=>e=.returned (.bool (p l || q l))/\Below W.heap.size W w'
 generalize p l=b at *;generalize q l=b' at *;go_enter Tryz.func205,Tryz.ntmps205;go_wp2_with fail;refine HF.out.mono ?_;rintro e w1 ⟨rfl,hb⟩;have HB:=hide hb;have y1:=(hb.cell (p:=⟨d,0,none⟩) HD.out).trans y0;clear hb
 cases b with
 | true =>
  go_wp2_with fail;go_ret;exact ⟨rfl,HB.out⟩
 | false =>
  go_wp2_with fail;refine (HG.out w1 HB.out).mono ?_;rintro e w2 ⟨rfl,hb2⟩;have HB2:=hide (HB.out.trans (hb2.mono HB.out.size));clear hb2;go_wp2_with fail;go_ret;exact ⟨rfl,HB2.out⟩
theorem ans_and {m:Nat} {w:World} {c d:Nat} {v u:Value} {p q:List Int->Bool} (hc:c<w.heap.size) (hd:d<w.heap.size) (hx:w.cell? ⟨c,0,none⟩=some v) (hy:w.cell? ⟨d,0,none⟩=some u) (ha:Ans m w v p) (ha':Ans m w u q) :
  Ans m w (.func (.func 206) #[] #[.pointer (some ⟨c,0,none⟩),.pointer (some ⟨d,0,none⟩)]) (fun l=>p l && q l):=by
 obtain ⟨f,bs,cs,rfl,he,hf⟩:=ha;obtain ⟨f',bs',cs',rfl,he',hf'⟩:=ha';refine ⟨_,_,_,rfl,enters_of Tryz.func206 (by kernel_rfl) rfl,fun W s l hW hs=>?_⟩;have x0:=(hW.cell (p:=⟨c,0,none⟩) hc).trans hx;have y0:=(hW.cell (p:=⟨d,0,none⟩) hd).trans hy;have HD:=hide (Nat.lt_of_lt_of_le hd hW.size);have HF:=hide (hf W s l hW hs);have HG:=hide (fun W' (hb:Below W.heap.size W W')=>hf' W' s l (hW.trans (hb.mono hW.size)) (hs.below hb));clear hf hf' hW hx hy hs;show Calls Tryz.prog _ #[s,.pointer (some ⟨c,0,none⟩),.pointer (some ⟨d,0,none⟩)] W fun e w'=>e=.returned (.bool (p l && q l))/\Below W.heap.size W w'
 generalize p l=b at *;generalize q l=b' at *;go_enter Tryz.func206,Tryz.ntmps206;go_wp2_with fail;refine HF.out.mono ?_;rintro e w1 ⟨rfl,hb⟩;have HB:=hide hb;have y1:=(hb.cell (p:=⟨d,0,none⟩) HD.out).trans y0;clear hb
 cases b with
 | false =>
  go_wp2_with fail;go_ret;exact ⟨rfl,HB.out⟩
 | true =>
  go_wp2_with fail;refine (HG.out w1 HB.out).mono ?_;rintro e w2 ⟨rfl,hb2⟩;have HB2:=hide (HB.out.trans (hb2.mono HB.out.size));clear hb2;go_wp2_with fail;go_ret;exact ⟨rfl,HB2.out⟩
end
section
open Go.RowKit
namespace Cx
def rowsTo (ps:List (List Int->Bool)) (l:List Int):Nat->Int
 | 0=>0
 | n+1=>if (ps.getD n (fun _=>false)) l then bits .or .u32 (rowsTo ps l n) (2 ^ min n 32 % 4294967296) else rowsTo ps l n
end Cx
theorem trueRows_any (m:Nat) (w:World) (a:Option Addr) (g cap:Nat) (vs:List Value) (ps:List (List Int->Bool)) (s:Value) (l:List Int)
  (hl:vs.length=ps.length) (hn:vs.length<=100) (hg:0<vs.length->a=some ⟨g,0,none⟩/\g<w.heap.size) (hc:∀ i (hi:i<vs.length),w.cell? ⟨g,i,none⟩=some vs[i])
  (ha:∀ i (hi:i<vs.length) (hp:i<ps.length),Ans m w vs[i] ps[i]) (hs:NS m w s l) :
  Calls Tryz.prog 116 #[.slice a vs.length cap,s] w fun e w'=>e=.returned (.int .u32 (Cx.rowsTo ps l ps.length))/\Below w.heap.size w w':=by
 have HC:=hide hc;have HS:=hide hs;have HP:=hide ha;have HL:=hide hl;clear hc hs ha hl;go_enter Tryz.func116,Tryz.ntmps116;go_wp2_with fail
 go_loopw [5,10] (fun v5 v10 wr=>∃ k:Nat,k<=vs.length/\v10=.int .i64 k/\Below w.heap.size w wr/\v5=.int .u32 (Cx.rowsTo ps l k)) (fun _ v10 _=>vs.length-(intOf v10).toNat)
 case atStart=>exact ⟨0,by omega,rfl,Below.refl _ _,rfl⟩
 case round =>
  obtain ⟨k,hk,rfl,hb,rfl⟩:=hrel;have HB:=hide hb;have hsz:=hb.size
  by_cases hlt:k<vs.length
  ·obtain ⟨rfl,hgl⟩:=hg (by omega)
   have hki:(k:Int)<vs.length:=by omega
   have hk0:(0:Int)<=k:=by omega
   have x0:=(hb.cell (p:=⟨g,k,none⟩) hgl).trans (HC.out k hlt);obtain ⟨f,bs,cs,ev,he,hf⟩:=HP.out k hlt (HL.out ▸ hlt);have HF:=hide (hf wr s l hb (HS.out.below hb));rw [ev] at x0;have HR:Hid (Cx.rowsTo ps l (k+1)=if (ps[k]'(HL.out ▸ hlt)) l then bits .or .u32 (Cx.rowsTo ps l k) (2 ^ min k 32 % 4294967296) else Cx.rowsTo ps l k):=hide (by rw [Cx.rowsTo,List.getD_eq_getElem?_getD,List.getElem?_eq_getElem (HL.out ▸ hlt)];rfl);clear hb hf ev;generalize (ps[k]'(HL.out ▸ hlt)) l=b at *;generalize Cx.rowsTo ps l k=y at *;go_wp2_with fail;refine HF.out.mono ?_;rintro e w1 ⟨rfl,hb1⟩;have HB1:=hide (HB.out.trans (hb1.mono HB.out.size));clear hb1 HF
   cases b with
   | true =>
    go_wp2_with fail
    go_roundw
    case rel=>exact ⟨k+1,by omega,by go_num,HB1.out,by rw [HR.out];rfl⟩
    case measure=>simp [intOf];omega
   | false =>
    go_wp2_with fail
    go_roundw
    case rel=>exact ⟨k+1,by omega,by go_num,HB1.out,by rw [HR.out];rfl⟩
    case measure=>simp [intOf];omega
  ·obtain rfl:k=vs.length:=by omega
   go_wp2_with fail;go_ret;exact ⟨ret_int (by rw [HL.out]),HB.out⟩
end
section
open Go.RowKit
namespace Cx
def cutsIn (a b:Int) (cs:List Int):List Int:=cs.filter fun c=>decide (a<c) && decide (c<=b)
def leastOnes (a b:Int) (cs:List Int):List Int:=Lib.compact ((a::cutsIn a b cs).mergeSort fun x y=>decide (x<=y))
def leastTo (a b:Int) (cs:List Int) (i:Nat):List Int:=a::cutsIn a b (cs.take i)
theorem leastTo_succ (a b:Int) (cs:List Int) (i:Nat) (h:i<cs.length):leastTo a b cs (i+1)=if decide (a<cs[i]) && decide (cs[i]<=b) then leastTo a b cs i++[cs[i]] else leastTo a b cs i:=by
 simp only [leastTo,cutsIn];rw [List.take_add_one,List.getElem?_eq_getElem h,List.filter_append];simp only [Option.toList,List.filter_cons,List.filter_nil];split <;> simp
theorem leastTo_len (a b:Int) (cs:List Int) (i:Nat):(leastTo a b cs i).length<=i+1:=by
 have:=List.length_filter_le (fun c=>decide (a<c) && decide (c<=b)) (cs.take i);simp only [leastTo,cutsIn,List.length_cons];have:=List.length_take_le i cs;omega
end Cx
theorem below_grow1 {B:Nat} {a w:World} (os:Array Obj) (h:Below B a w) (hB:B<=a.heap.size):Below B a (Sort.grow w os) :=
 ⟨h.os,h.tape,h.output,by have:=h.size;show a.heap.size<=(w.heap++os).size;rw [Array.size_append];omega,fun k hk=>by
  rw [<- h.block k hk];have:=h.size;show (w.heap++os)[k]? = _;rw [Array.getElem?_append_left (by omega)]⟩
theorem own_some {w:World} {b e s n:Nat} {v:Value} {xs:List Value} (h:w.ownsRow b e s v n xs) (hn:0<n):v≠.slice none 0 0:=by
 intro hv;rcases h.2 with ⟨_,h0⟩ | ⟨_,_,_,e,_⟩
 ·omega
 ·rw [hv] at e;cases e
theorem Tryz.infoInt5:(Tryz.prog.info? 3).map (fun i=>(i.zero,i.size,i.bytes))=some (some (.int .i64 0),1,8):=by kernel_rfl
theorem leastOnes_any (w:World) (a b:Int) (av:Option Addr) (g cap:Nat) (cs:List Int) (hn:cs.length<=100000) (hg:0<cs.length->av=some ⟨g,0,none⟩/\g<w.heap.size)
  (hc:∀ i (hi:i<cs.length),w.cell? ⟨g,i,none⟩=some (.int .i64 cs[i])) :
  Calls Tryz.prog 114 #[.int .i64 a,.int .i64 b,.slice av cs.length cap] w fun e w'=>∃ g' cap',e=.returned (.slice (some ⟨g',0,none⟩) (Cx.leastOnes a b cs).length cap')/\w'.ownsRow w.heap.size 3 1 (.slice (some ⟨g',0,none⟩) (Cx.leastOnes a b cs).length cap') (Cx.leastOnes a b cs).length ((Cx.leastOnes a b cs).map (.int .i64))/\Below w.heap.size w w':=by
 have HC:=hide hc;clear hc;go_enter Tryz.func114,Tryz.ntmps114;obtain ⟨i0,hi0,hz0,hz1,hz2⟩:=info_parts Tryz.infoInt5;go_wp2_with fail
 go_loopg [7,14] (cs.length) (fun k v7 v14 wr=>∃ i:Nat,i+k=cs.length/\v14=.int .i64 i/\Below w.heap.size w wr/\wr.ownsRow w.heap.size 3 1 v7 (Cx.leastTo a b cs i).length ((Cx.leastTo a b cs i).map (.int .i64)))
 case atStart=>exact ⟨0,by omega,rfl,(Below.refl _ _).alloc (Nat.le_refl _) _,World.ownsRow_lit (size:=1) w #[.int .i64 a] 1 (Nat.le_refl _) (by decide) rfl⟩
 case round =>
  obtain ⟨i,hi,rfl,hb,ho⟩:=hrel;have HB:=hide hb;have HO:=hide ho;have hsz:=hb.size;have hlen:=Cx.leastTo_len a b cs i
  by_cases hlt:i<cs.length
  ·obtain ⟨rfl,hgl⟩:=hg (by omega)
   have hli:(i:Int)<cs.length:=by omega
   have hi0':(0:Int)<=i:=by omega
   have x0:=(hb.cell (p:=⟨g,i,none⟩) hgl).trans (HC.out i hlt);have HLS:=hide (Cx.leastTo_succ a b cs i hlt);clear hb ho;generalize cs[i]=c at *
   by_cases q1:a<c
   ·by_cases q2:c<=b
    ·obtain ⟨av,cv,rfl,_,_⟩:=row_shape HO.out
     go_wp2_with (at_builtin;refine wpList_append_own_at _ rfl _ _ 32 rfl w.heap.size 3 i0 _ 1 8 Tryz.underlying32 hi0 hz0 hz1 hz2 rfl (by decide) _ (Cx.leastTo a b cs i).length _ rfl (own_below HO.out ((Below.refl _ _).alloc (Nat.le_refl _) _)) ⟨wr.heap.size,0,none⟩ 1 1 [.int .i64 c] rfl rfl (news_new _ _ rfl [_] _) ?c2 ?c3 ?c4 ?c5 ?_)
     case c2=>rfl
     case c3=>unfold maxLen;omega
     case c4=>omega
     case c5=>omega
     intro v9 w9 hown hgrow _ hat;have hG:=gr_made hown hgrow (by simpa using hat);have HB9:Hid (Below w.heap.size w w9):=hide (HB.out.trans (hG.kept.toBelow (fun k e=>(HO.out.lt k e).1) hsz))
     have HO9:Hid (w9.ownsRow w.heap.size 3 1 v9 (Cx.leastTo a b cs (i+1)).length ((Cx.leastTo a b cs (i+1)).map (.int .i64))):=hide (by
      rw [HLS.out,if_pos (by simp [q1,q2]),List.length_append,List.map_append]
      exact hG.own)
     clear hown hgrow hat hG;go_wp2_with fail
     go_roundg (cs.length-(i+1))
     case measure=>omega
     case rel=>exact ⟨i+1,by omega,by go_num,HB9.out,HO9.out⟩
    ·have HO9:Hid (wr.ownsRow w.heap.size 3 1 u7 (Cx.leastTo a b cs (i+1)).length ((Cx.leastTo a b cs (i+1)).map (.int .i64))):=hide (by
      rw [HLS.out,if_neg (by simp [q2])];exact HO.out)
     go_wp2_with fail
     go_roundg (cs.length-(i+1))
     case measure=>omega
     case rel=>exact ⟨i+1,by omega,by go_num,HB.out,HO9.out⟩
   ·have HO9:Hid (wr.ownsRow w.heap.size 3 1 u7 (Cx.leastTo a b cs (i+1)).length ((Cx.leastTo a b cs (i+1)).map (.int .i64))):=hide (by
     rw [HLS.out,if_neg (by simp [q1])];exact HO.out)
    go_wp2_with fail
    go_roundg (cs.length-(i+1))
    case measure=>omega
    case rel=>exact ⟨i+1,by omega,by go_num,HB.out,HO9.out⟩
  ·obtain rfl:i=cs.length:=by omega
   have hE:Cx.leastTo a b cs cs.length=a::Cx.cutsIn a b cs:=by rw [Cx.leastTo,List.take_length]
   have HR:Hid (Cx.leastOnes a b cs=Lib.compact ((Cx.leastTo a b cs cs.length).mergeSort fun x y=>decide (x<=y))):=hide (by rw [hE];rfl);have hz:0<(Cx.leastTo a b cs cs.length).length:=by rw [hE];simp
   clear hE ho hb;generalize Cx.leastTo a b cs cs.length=zs at *;obtain ⟨g1,cp1,rfl,hg1,hg2,hn1,hm1,hl1,hH⟩:=Lib.holds_of_ownsRow HO.out (own_some HO.out hz);obtain ⟨cur,hcu,hcs⟩ : ∃ cur,wr.heap[g1]? = some (.cells cur 3 (0,0))/\cur.size=cp1*1:=by
    rcases HO.out.2 with ⟨e,_⟩ | ⟨g',cap',cur,e,_,h1,_,_,h2,_⟩
    ·cases e
    ·cases e;exact ⟨cur,h1,h2⟩
   have HS:=hide (Tryz.slices_Sort_int g1 0 cp1 zs wr hH hg2 (by omega));clear hH;go_wp2_with fail;refine HS.out.mono ?_;rintro e w2 ⟨rfl,nn,os,rfl⟩;have hp:(zs.mergeSort fun x y=>decide (x<=y)).length=zs.length:=List.length_mergeSort zs;have ho2:=ownsRow_sortedI (n:=nn) (os:=os) hp hg1 hcu hn1 hm1 hcs;have hb2:=below_grow1 os (Lib.below_putRow (enc:=Value.int .i64) (q:=nn) (d:=(zs.mergeSort fun x y=>decide (x<=y)).toArray) HB.out hg1) (Nat.le_refl _);obtain ⟨w2,hw2⟩ : ∃ w2,w2=Sort.grow (Sort.putRow (Value.int .i64) (Sort.ahead wr nn) g1 0 (zs.mergeSort fun x y=>decide (x<=y)).toArray) os:=⟨_,rfl⟩;rw [<- hw2] at ho2 hb2 |-;clear hw2 HS hcu;generalize hys:(zs.mergeSort fun x y=>decide (x<=y))=ys at *;rw [<- hp] at ho2;have HP:=hide hp;have HO2:=hide ho2;have HB2:=hide hb2;obtain ⟨_,_,e,_,_,_,_,_,hH2⟩:=Lib.holds_of_ownsRow ho2 (by intro h;cases h)
   cases e
   have HCm:=hide (Tryz.slices_Compact_int g1 0 cp1 ys w2 hH2 (by omega) (by omega));rw [hp] at HCm;clear hH2 ho2 hb2 hp;go_wp2_with fail;refine HCm.out.mono ?_;rintro e w3 ⟨rfl,q,rfl⟩;have hcl:=Lib.compact_length_le ys;have HO3:=hide (Lib.ownsRow_putRow (q:=q) (k:=(Lib.compact ys).length) (ys:=Lib.compact ys++List.replicate (ys.length-(Lib.compact ys).length) 0) HO2.out (by simp;omega) hcl);have HB3:=hide (Lib.below_putRow (enc:=Value.int .i64) (q:=q) (d:=(Lib.compact ys++List.replicate (ys.length-(Lib.compact ys).length) 0).toArray) HB2.out hg1);rw [List.take_left'  rfl] at HO3;rw [HP.out] at HO3 HB3;generalize (Sort.putRow (Value.int .i64) (Sort.ahead w2 q) g1 0 (Lib.compact ys++List.replicate (zs.length-(Lib.compact ys).length) 0).toArray)=w3 at *;clear HO HB HO2 HB2 HP HCm hcl;generalize Lib.compact ys=us at *;go_wp2_with fail;go_ret;rw [HR.out];exact ⟨g1,cp1,rfl,HO3.out,HB3.out⟩
end
section
open Go.RowKit
theorem Clone_any (w:World) (s:ByteArray) (hs:s.size<=281474976710656) :
  Calls Tryz.prog 54 #[.string s] w fun e w'=>e=.returned (.string s)/\Below w.heap.size w w':=by
 have HS:=hide (Tryz.stringslite_Clone s w hs);go_enter Tryz.func54,Tryz.ntmps54;go_wp2_with fail;refine HS.out.mono ?_;rintro e w1 ⟨rfl,hb⟩;have HB:=hide hb;clear hb;go_wp2_with fail;go_ret;exact ⟨rfl,HB.out⟩
end
end Go.Proofs.YtdjaiolfdbamcaaGreatDoor
