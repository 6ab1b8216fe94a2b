/- Images as they are read, programs that are right, and how they run, as plain functions; nothing of the program is asked here. -/
import Derived.Test.YtdjaiolfdbamcaaGreatDoorZWRead1
import Derived.Test.YtdjaiolfdbamcaaGreatDoorShelf2
import Derived.Lib.OwnBridge
import Derived.Sort.OwnSortedInts
import Derived.Lib.AtoiErrMem
set_option maxRecDepth 20000
set_option maxHeartbeats 400000
namespace Go.Proofs.YtdjaiolfdbamcaaGreatDoor
variable {b c d e k m n s:Nat}{w:World}{u v:Value}{q:List Int->Bool}{xs:List Value}
section
namespace Mx
def two(a b:UInt8):Nat:=a.toNat+256*b.toNat
def Et(n:Nat):Int:=if n<32768 then(n:Int)else(n:Int)-65536
structure Shape where
 width:Nat
 takes:Nat
 qJ:Nat
 ends:Bool
def shapeOf(b:UInt8):Option Shape:=
 if b=0 then some ⟨0,0,0,true⟩else if b=1 then some ⟨1,0,0,true⟩else if b=2 then some ⟨2,1,0,false⟩else if b=3\/b=4 then some ⟨0,2,1,false⟩
 else if b=5 then some ⟨0,1,1,false⟩else if b=6 then some ⟨0,0,1,false⟩else if b=7\/b=8 then some ⟨3,0,1,false⟩else none
def named(p:List UInt8)(leaves numbers at_:Nat):Bool:=
 if p.getD at_ 0=1 then decide ((p.getD (at_+1) 0).toNat<leaves)else if p.getD at_ 0=7\/p.getD at_ 0=8 then decide ((p.getD (at_+1) 0).toNat<numbers)else true
abbrev Aw:=List (Nat×Nat)
def Aw.get(a:Aw)(k:Nat):Option Nat:=List.lookup k a
def Aw.del(a:Aw)(k:Nat):Aw:=a.filter λq=>q.1 !=k
def Aw.set(a:Aw)(k v:Nat):Aw:=(k,v)::a.del k
theorem Aw.Er(a:Aw)(k j:Nat):(a.del k).get j=if j=k then none else a.get j:=by
 unfold Aw.get Aw.del
 induction a<;>grind
theorem Aw.rJ(a:Aw)(k v j:Nat):(a.set k v).get j=if j=k then some v else a.get j:=by
 have h:=Aw.Er a k j
 grind[beq_eq_false_iff_ne,Aw.get,Aw.set]
theorem Aw.none(a:Aw)(h:∀k,a.get k=Option.none):a=[]:=by
 cases a with
 |nil=>rfl
 |cons q r=>
  have:=h q.1
  grind[Aw.get]
def K0(a:Aw)(k c:Nat):Option Aw:=if 32<c then none else match a.get k with
 |some d=>if d=c then some (a.set k c)else none
 |none=>some (a.set k c)
def jV(p:List UInt8)(leaves numbers at_:Nat)(a:Aw):Option (Nat×Aw):=match shapeOf (p.getD at_ 0),a.get at_ with
 |some s,some c=>
  if p.length<at_+1+s.width\/c<s.takes\/named p leaves numbers at_=false then none
  else if s.ends=true then some (at_+1+s.width,a.del at_)
  else(match(if p.getD at_ 0=2 then K0 (a.del at_) (at_+1+s.width+two (p.getD (at_+1) 0) (p.getD (at_+2) 0)) (c-s.takes+s.qJ)else some (a.del at_))with
   |some a2=>(K0 a2 (at_+1+s.width) (c-s.takes+s.qJ)).map λa3=>(at_+1+s.width,a3)
   |none=>none)
 |_,_=>none
def qL(p:List UInt8)(leaves numbers:Nat):Nat->Nat->Aw->Bool
 |0,_,_=>false
 |f+1,at_,a=>if at_<p.length then(match jV p leaves numbers at_ a with|some (b,a2)=>qL p leaves numbers f b a2|none=>false)else a.isEmpty
def isRight(p:List UInt8)(leaves numbers:Nat):Bool:=qL p leaves numbers (p.length+1) 0 [(0,0)]
theorem po{a a2:Aw}(h:K0 a k c=some a2):c<=32/\a2=a.set k c/\∀d,a.get k=some d->d=c:=by
 unfold K0 at h
 grind
theorem wY{a a2:Aw}(h:K0 a k c=some a2):a2.get k=some c/\∀j d,a.get j=some d->a2.get j=some d:=by
 obtain⟨_,rfl,hd⟩:=po h;refine⟨by rw[Aw.rJ,if_pos rfl],λj d hj=>?_⟩
 grind[Aw.rJ]
theorem OD{p:List UInt8}{leaves numbers:Nat}{a a2:Aw}(h:jV p leaves numbers k a=some (b,a2)):k<b/\b<=p.length:=by
 grind[Option.map_eq_some_iff,jV]
end Mx
namespace Mx
structure Zd where
 vars:List (Int×Int)
 leaves:List (List UInt8×List UInt8)
 first:Nat
def hd:List UInt8:=[72,69,76,77,49]
end Mx
namespace Mx
end Mx
namespace Mx
end Mx
end
section
open Go.RowKit
theorem Lh(a:Int)(h0:0<=a)(h1:a<4294967296):bits .and .u32 a 255=a%256:=by
 obtain⟨n,rfl⟩:∃n:Nat,a=(n):=⟨a.toNat,by omega⟩;have e1:(BitVec.ofInt 32 (n)).toNat=n:=by
  rw[BitVec.ofInt_natCast,BitVec.toNat_ofNat];exact Nat.mod_eq_of_lt (by omega)
 have e2:(BitVec.ofInt 32 (255)).toNat=255:=by decide
 have e3:n&&&255=n%256:=Nat.and_two_pow_sub_one_eq_mod n 8;show IntKind.u32.wrap ((BitVec.ofInt 32 (n:Int)&&&BitVec.ofInt 32 (255:Int)).toNat:Int)=_
 grind[BitVec.toNat_and,IntKind.wrap_u32]
theorem Hw:∀f:Nat,Lib.popAux f 0=0
 |0=>rfl
 |f+1=>by
  show 0%2+Lib.popAux f (0/2)=0;rw[Nat.zero_div,Hw f]
theorem mG:∀a b x:Nat,Lib.popAux (a+b) x=Lib.popAux a x+Lib.popAux b (x/2^a)
 |0,b,x=>by simp[Lib.popAux]
 |a+1,b,x=>by
  rw[show a+1+b=a+b+1 by omega];show x%2+Lib.popAux (a+b) (x/2)=x%2+Lib.popAux a (x/2)+_;rw[mG a b (x/2),Nat.div_div_eq_div_mul,Nat.pow_succ,Nat.mul_comm 2,Nat.add_assoc]
theorem wO:∀a x:Nat,Lib.popAux a (x%2^a)=Lib.popAux a x
 |0,_=>rfl
 |a+1,x=>by
  show x%2^(a+1)%2+Lib.popAux a (x%2^(a+1)/2)=x%2+Lib.popAux a (x/2);have e1:x%2^(a+1)%2=x%2:=Nat.mod_mod_of_dvd _ ⟨2^a,by omega⟩;have e2:x%2^(a+1)/2=x/2%2^a:=by
   rw[Nat.pow_succ,Nat.mul_comm,Nat.mod_mul_right_div_self]
  rw[e1,e2,wO a (x/2)]
theorem Td:∀a x:Nat,Lib.popAux a x<=a
 |0,_=>Nat.le_refl _
 |a+1,x=>by
  show x%2+Lib.popAux a (x/2)<=a+1;have:=Td a (x/2);omega
theorem sE(n:Nat)(h:n<256):Lib.pop8 (n:Int)=(Lib.popAux 8 n:Int):=by
 rw[Lib.pop8_eq ⟨n,h⟩];show((Lib.popAux (8+56) n:Nat):Int)=_;rw[mG,show n/2^8=0 by omega,Hw];rfl
theorem O4(x:Int)(h0:0<=x)(h1:x<4294967296):
  (Lib.pop8 (x/16777216)+Lib.pop8 (x/65536%256)+Lib.pop8 (x/256%256)+Lib.pop8 (x%256))%256
   =(Lib.popAux 32 x.toNat:Int):=by
 obtain⟨n,rfl⟩:∃n:Nat,x=(n):=⟨x.toNat,by omega⟩
 rw[show((n)/16777216)=((n/16777216:Nat):Int) by omega,
  show((n)/65536%256)=((n/65536%256:Nat):Int) by omega,
  show((n)/256%256)=((n/256%256:Nat):Int) by omega,
  show((n)%256)=((n%256:Nat):Int) by omega,
  sE _ (by omega),sE _ (by omega),sE _ (by omega),sE _ (by omega),Int.toNat_natCast]
 have s1:=mG 8 24 n;have s2:=mG 8 16 (n/2^8);have s3:=mG 8 8 (n/2^8/2^8);have m1:=wO 8 n;have m2:=wO 8 (n/2^8);have m3:=wO 8 (n/2^8/2^8);have l:=Td 32 n;rw[show n/2^8/2^8/2^8=n/16777216 by omega]at s3;rw[show n/2^8/2^8=n/65536 by omega]at s2 s3 m3
 grind
theorem we(w:World)(x:Int)(h0:0<=x)(h1:x<4294967296):
  Calls Tryz.prog 167 #[.int .u32 x] w λe w'=>e=.returned (.int .i64 (Lib.popAux 32 x.toNat))/\w'=w.drew:=by
 have b0:0<=x/16777216:=by omega
 have b1:x/16777216<=255:=by omega
 have a1:bits BinOp.and IntKind.u32 (x/65536) 255=x/65536%256:=Lh _ (by omega) (by omega);have a2:bits BinOp.and IntKind.u32 (x/256) 255=x/256%256:=Lh _ (by omega) (by omega);have a3:bits BinOp.and IntKind.u32 x 255=x%256:=Lh _ (by omega) (by omega);go_enter Tryz.func167,Tryz.ntmps167;generalize hT:(ByteArray.mk (List.toArray (List.append _ _)))=T;have eT:T=Lib.pop8tab:=by rw[<-hT];rfl
 clear hT;subst eT;go_wp2
 go_region
 go_wp2;go_ret;exact⟨congrArg (λn=>Ending.returned (Value.int IntKind.i64 n)) (O4 x h0 h1),rfl⟩
namespace Cx
def eA:List Int->Int->Int
 |[],_=>7
 |r::rs,x=>if Lib.popAux 32 (bits .and .u32 r x).toNat=0 then eA rs x else if Lib.popAux 32 (bits .and .u32 r x).toNat=1 then 0 else 6
end Cx
theorem yd(op:BinOp)(a b:Int):0<=bits op .u32 a b/\bits op .u32 a b<4294967296:=by
 have:∃n,bits op .u32 a b=IntKind.u32.wrap n:=⟨_,rfl⟩
 grind[IntKind.wrap_u32]
theorem O5(w:World)(g cap:Nat)(l:List Int)(x:Int)(hc:∀i (hi:i<l.length),w.cell? ⟨g,i,none⟩=some (.int .u32 l[i]))(hg:0<l.length->g<w.heap.size)(hl:l.length<=100000):
  Calls Tryz.prog 117 #[.slice (some ⟨g,0,none⟩) l.length cap,.int .u32 x] w λe w'=>e=.returned (.int .i64 (Cx.eA l x))/\Below w.heap.size w w':=by
 have HC:=ae hc;clear hc;go_enter Tryz.func117,Tryz.ntmps117;go_wp2_with fail
 go_loopw [9] (λv9 wr=>∃k:Nat,k<=l.length/\v9=.int .i64 k/\Below w.heap.size w wr/\Cx.eA (l.drop k) x=Cx.eA l x) (λv9 _=>l.length-(intOf v9).toNat)
 case atStart=>exact⟨0,by omega,rfl,Below.refl _ _,rfl⟩
 case round=>
  obtain⟨k,hk,rfl,hb,ha⟩:=hrel;have HA:=ae ha;have HB:=ae hb;have hsz:=hb.size;clear ha
  by_cases hlt:k<l.length
  ·have ck:=hg (by omega)
   have rM:(k:Int)<l.length:=by omega
   have jf:(0:Int)<=k:=by omega
   have x0:=(hb.cell ck).trans (HC.out k hlt);have HD:Hid (Cx.eA (l.drop k) x=_):=ae (by rw[List.drop_eq_getElem_cons hlt,Cx.eA]);clear hb;generalize l[k]=r at*;have HN:=ae (we wr _ (yd .and r x).1 (yd .and r x).2);generalize hn:Lib.popAux 32 (bits .and .u32 r x).toNat=n at*;clear hn;go_wp2_with fail;refine HN.out.mono ?_;rintro e w1 ⟨rfl,rfl⟩;have b6:=ae (HB.out.trans ((bm wr).mono HB.out.size));clear HN
   by_cases n0:n=0
   ·subst n0
    have HE:Hid (Cx.eA (l.drop (k+1)) x=Cx.eA l x):=ae (by rw[<-HA.out,HD.out,if_pos rfl]);go_wp2_with fail
    go_roundw
    case rel=>exact⟨k+1,by omega,by go_num,b6.out,HE.out⟩
    case measure=>grind[intOf]
   ·by_cases n1:n=1
    ·subst n1
     have HE:Hid (Cx.eA l x=0):=ae (by rw[<-HA.out,HD.out,if_neg (by omega),if_pos rfl]);go_wp2_with fail;go_ret;exact⟨di HE.out.symm,b6.out⟩
    ·have HE:Hid (Cx.eA l x=6):=ae (by rw[<-HA.out,HD.out,if_neg n0,if_neg n1])
     have c0:((n:Int)==0)=false:=by simp;omega
     have c1:((n:Int)==1)=false:=by simp;omega
     go_wp2_with fail;go_ret;exact⟨di HE.out.symm,b6.out⟩
  ·obtain rfl:k=l.length:=by omega
   have HZ:Hid (Cx.eA l x=7):=ae (by rw[<-HA.out,List.drop_length];rfl);go_wp2_with fail;go_ret;exact⟨di HZ.out.symm,HB.out⟩
def NS(m:Nat)(W:World)(s:Value)(l:List Int):Prop:=
 l.length=m/\∃g cap,s=.slice (some ⟨g,0,none⟩) l.length cap/\g<W.heap.size/\∀i (hi:i<l.length),W.cell? ⟨g,i,none⟩=some (.int .i64 l[i])
theorem NS.below{W W':World}{s:Value}{l:List Int}(h:NS m W s l)(hb:Below W.heap.size W W'):NS m W' s l:=by
 obtain⟨e,g,cap,rfl,hg,hc⟩:=h;exact⟨e,g,cap,rfl,Nat.lt_of_lt_of_le hg hb.size,λi hi=>(hb.cell hg).trans (hc i hi)⟩
def Hm(m:Nat)(w:World)(v:Value)(p:List Int->Bool):Prop:=
 ∃f bs cs,v=.func (.func f) bs cs/\(∀args W,(callFunc f args).run Tryz.prog W=.ok (.enter f args) W)/\
  ∀W s l,Below w.heap.size w W->NS m W s l->Calls Tryz.prog f (bs.push s++cs) W λe w'=>e=.returned (.bool (p l))/\Below W.heap.size W w'
theorem Hm.below{w':World}{p:List Int->Bool}(h:Hm m w v p)(hb:Below w.heap.size w w'):Hm m w' v p:=by
 obtain⟨f,bs,cs,rfl,he,hc⟩:=h;exact⟨f,bs,cs,rfl,he,λW s l hW hs=>hc W s l (hb.trans (hW.mono hb.size)) hs⟩
theorem aah{p:List Int->Bool}(hc:c<w.heap.size)(hx:w.cell? ⟨c,0,none⟩=some v)(ha:Hm m w v p):
  Hm m w (.func (.func 207) #[] #[.pointer (some ⟨c,0,none⟩)]) (λl=>!p l):=by
 obtain⟨f,bs,cs,rfl,he,hf⟩:=ha;refine⟨_,_,_,rfl,enters_of Tryz.func207 (by kernel_rfl) rfl,λW s l hW hs=>?_⟩;have x0:=(hW.cell hc).trans hx;have HF:=ae (hf W s l hW hs);clear hf hW hx hs;show Calls Tryz.prog _ #[s,.pointer (some ⟨c,0,none⟩)] W λe w'=>e=.returned (.bool (!p l))/\Below W.heap.size W w'
 generalize p l=b at*;go_enter Tryz.func207,Tryz.ntmps207;go_wp2_with fail;refine HF.out.mono ?_;rintro e w1 ⟨rfl,hb⟩;have HB:=ae hb;clear hb;go_wp2_with fail;go_ret;exact⟨rfl,HB.out⟩
theorem Te:Hm m w (.func (.func 209) #[] #[]) (λ_=>true):=by
 refine⟨_,_,_,rfl,enters_of Tryz.func209 (by kernel_rfl) rfl,λW s l hW hs=>?_⟩;show Calls Tryz.prog _ #[s] W _;go_enter Tryz.func209,Tryz.ntmps209;go_wp2_with fail;go_ret;exact⟨rfl,Below.refl _ _⟩
theorem afl{p:List Int->Bool}(hc:c<w.heap.size)(hd:d<w.heap.size)(hx:w.cell? ⟨c,0,none⟩=some v)(hy:w.cell? ⟨d,0,none⟩=some u)(ha:Hm m w v p)(ha':Hm m w u q):
  Hm m w (.func (.func 205) #[] #[.pointer (some ⟨c,0,none⟩),.pointer (some ⟨d,0,none⟩)]) (λl=>p l||q l):=by
 obtain⟨f,bs,cs,rfl,he,hf⟩:=ha;obtain⟨f',bs',SO,rfl,Zc,hf'⟩:=ha';refine⟨_,_,_,rfl,enters_of Tryz.func205 (by kernel_rfl) rfl,λW s l hW hs=>?_⟩;have x0:=(hW.cell hc).trans hx;have y0:=(hW.cell hd).trans hy;have HD:=ae (Nat.lt_of_lt_of_le hd hW.size);have HF:=ae (hf W s l hW hs);have HG:=ae (λW' (hb)=>hf' W' s l (hW.trans (hb.mono hW.size)) (hs.below hb));clear hf hf' hW hx hy hs;show Calls Tryz.prog _ #[s,.pointer (some ⟨c,0,none⟩),.pointer (some ⟨d,0,none⟩)] W λe w'=>e=.returned (.bool (p l||q l))/\Below W.heap.size W w'
 generalize p l=b at*;generalize q l=b' at*;go_enter Tryz.func205,Tryz.ntmps205;go_wp2_with fail;refine HF.out.mono ?_;rintro e w1 ⟨rfl,hb⟩;have HB:=ae hb;have y1:=(hb.cell HD.out).trans y0;clear hb
 cases b with
 |true=>
  go_wp2_with fail;go_ret;exact⟨rfl,HB.out⟩
 |false=>
  go_wp2_with fail;refine(HG.out w1 HB.out).mono ?_;rintro e w2 ⟨rfl,aT⟩;have dH:=ae (HB.out.trans (aT.mono HB.out.size));clear aT;go_wp2_with fail;go_ret;exact⟨rfl,dH.out⟩
theorem aai{p:List Int->Bool}(hc:c<w.heap.size)(hd:d<w.heap.size)(hx:w.cell? ⟨c,0,none⟩=some v)(hy:w.cell? ⟨d,0,none⟩=some u)(ha:Hm m w v p)(ha':Hm m w u q):
  Hm m w (.func (.func 206) #[] #[.pointer (some ⟨c,0,none⟩),.pointer (some ⟨d,0,none⟩)]) (λl=>p l&&q l):=by
 obtain⟨f,bs,cs,rfl,he,hf⟩:=ha;obtain⟨f',bs',SO,rfl,Zc,hf'⟩:=ha';refine⟨_,_,_,rfl,enters_of Tryz.func206 (by kernel_rfl) rfl,λW s l hW hs=>?_⟩;have x0:=(hW.cell hc).trans hx;have y0:=(hW.cell hd).trans hy;have HD:=ae (Nat.lt_of_lt_of_le hd hW.size);have HF:=ae (hf W s l hW hs);have HG:=ae (λW' (hb)=>hf' W' s l (hW.trans (hb.mono hW.size)) (hs.below hb));clear hf hf' hW hx hy hs;show Calls Tryz.prog _ #[s,.pointer (some ⟨c,0,none⟩),.pointer (some ⟨d,0,none⟩)] W λe w'=>e=.returned (.bool (p l&&q l))/\Below W.heap.size W w'
 generalize p l=b at*;generalize q l=b' at*;go_enter Tryz.func206,Tryz.ntmps206;go_wp2_with fail;refine HF.out.mono ?_;rintro e w1 ⟨rfl,hb⟩;have HB:=ae hb;have y1:=(hb.cell HD.out).trans y0;clear hb
 cases b with
 |false=>
  go_wp2_with fail;go_ret;exact⟨rfl,HB.out⟩
 |true=>
  go_wp2_with fail;refine(HG.out w1 HB.out).mono ?_;rintro e w2 ⟨rfl,aT⟩;have dH:=ae (HB.out.trans (aT.mono HB.out.size));clear aT;go_wp2_with fail;go_ret;exact⟨rfl,dH.out⟩
namespace Cx
def dy(ps:List (List Int->Bool))(l:List Int):Nat->Int
 |0=>0
 |n+1=>if(ps.getD n (λ_=>false)) l then bits .or .u32 (dy ps l n) (2^min n 32%4294967296)else dy ps l n
end Cx
theorem sF(m:Nat)(w:World)(a:Option Addr)(g cap:Nat)(vs:List Value)(ps:List (List Int->Bool))(s:Value)(l:List Int)
  (hl:vs.length=ps.length) (hn:vs.length<=100) (hg:0<vs.length->a=some ⟨g,0,none⟩/\g<w.heap.size) (hc:∀i (hi:i<vs.length),w.cell? ⟨g,i,none⟩=some vs[i])
  (ha:∀i (hi:i<vs.length) (hp:i<ps.length),Hm m w vs[i] ps[i]) (hs:NS m w s l):
  Calls Tryz.prog 116 #[.slice a vs.length cap,s] w λe w'=>e=.returned (.int .u32 (Cx.dy ps l ps.length))/\Below w.heap.size w w':=by
 have HC:=ae hc;have HS:=ae hs;have HP:=ae ha;have HL:=ae hl;clear hc hs ha hl;go_enter Tryz.func116,Tryz.ntmps116;go_wp2_with fail
 go_loopw [5,10] (λv5 v10 wr=>∃k:Nat,k<=vs.length/\v10=.int .i64 k/\Below w.heap.size w wr/\v5=.int .u32 (Cx.dy ps l k)) (λ_ v10 _=>vs.length-(intOf v10).toNat)
 case atStart=>exact⟨0,by omega,rfl,Below.refl _ _,rfl⟩
 case round=>
  obtain⟨k,hk,rfl,hb,rfl⟩:=hrel;have HB:=ae hb;have hsz:=hb.size
  by_cases hlt:k<vs.length
  ·obtain⟨rfl,ck⟩:=hg (by omega)
   have rM:(k:Int)<vs.length:=by omega
   have jf:(0:Int)<=k:=by omega
   have x0:=(hb.cell ck).trans (HC.out k hlt);obtain⟨f,bs,cs,ev,he,hf⟩:=HP.out k hlt (HL.out▸hlt);have HF:=ae (hf wr s l hb (HS.out.below hb));rw[ev]at x0;have HR:Hid (Cx.dy ps l (k+1)=if(ps[k]'(HL.out▸hlt)) l then bits .or .u32 (Cx.dy ps l k) (2^min k 32%4294967296)else Cx.dy ps l k):=ae (by rw[Cx.dy,List.getD_eq_getElem?_getD,List.getElem?_eq_getElem (HL.out▸hlt)];rfl);clear hb hf ev;generalize (ps[k]'(HL.out▸hlt)) l=b at*;generalize Cx.dy ps l k=y at*;go_wp2_with fail;refine HF.out.mono ?_;rintro e w1 ⟨rfl,bH⟩;have b6:=ae (HB.out.trans (bH.mono HB.out.size));clear bH HF
   cases b with
   |true=>
    go_wp2_with fail
    go_roundw
    case rel=>exact⟨k+1,by omega,by go_num,b6.out,by rw[HR.out];rfl⟩
    case measure=>grind[intOf]
   |false=>
    go_wp2_with fail
    go_roundw
    case rel=>exact⟨k+1,by omega,by go_num,b6.out,by rw[HR.out];rfl⟩
    case measure=>grind[intOf]
  ·obtain rfl:k=vs.length:=by omega
   go_wp2_with fail;go_ret;exact⟨di (by rw[HL.out]),HB.out⟩
namespace Cx
def jw(a b:Int)(cs:List Int):List Int:=cs.filter λc=>decide (a<c)&&decide (c<=b)
def bz(a b:Int)(cs:List Int):List Int:=Lib.compact ((a::jw a b cs).mergeSort λx y=>decide (x<=y))
def d7(a b:Int)(cs:List Int)(i:Nat):List Int:=a::jw a b (cs.take i)
theorem EX(a b:Int)(cs:List Int)(i:Nat)(h:i<cs.length):d7 a b cs (i+1)=if decide (a<cs[i])&&decide (cs[i]<=b)then d7 a b cs i++[cs[i]]else d7 a b cs i:=by
 grind[Option.toList,List.take_add_one,List.getElem?_eq_getElem,d7,jw]
theorem Hy(a b:Int)(cs:List Int)(i:Nat):(d7 a b cs i).length<=i+1:=by
 grind[List.length_take_le,d7,jw,List.length_cons,List.length_filter_le,decide]
end Cx
theorem Hz{B:Nat}{a:World}(os:Array Obj)(h:Below B a w)(hB:B<=a.heap.size):Below B a (Sort.grow w os):=
 ⟨h.os,h.tape,h.output,by have:=h.size;show a.heap.size<=(w.heap++os).size;grind,λk hk=>by
  rw[<-h.block k hk];have:=h.size;show(w.heap++os)[k]?=_;grind⟩
theorem Tf(h:w.ownsRow b e s v n xs)(hn:0<n):v≠.slice none 0 0:=by
 intro hv;rcases h.2 with⟨_,h0⟩|⟨_,_,_,e,_⟩
 all_goals grind
theorem Tryz.infoInt5:(Tryz.prog.info? 3).map (λi=>(i.zero,i.size,i.bytes))=some (some (.int .i64 0),1,8):=by kernel_rfl
theorem zB(w:World)(a b:Int)(av:Option Addr)(g cap:Nat)(cs:List Int)(hn:cs.length<=100000)(hg:0<cs.length->av=some ⟨g,0,none⟩/\g<w.heap.size)
  (hc:∀i (hi:i<cs.length),w.cell? ⟨g,i,none⟩=some (.int .i64 cs[i])):
  Calls Tryz.prog 114 #[.int .i64 a,.int .i64 b,.slice av cs.length cap] w λe w'=>∃g' cap',e=.returned (.slice (some ⟨g',0,none⟩) (Cx.bz a b cs).length cap')/\w'.ownsRow w.heap.size 3 1 (.slice (some ⟨g',0,none⟩) (Cx.bz a b cs).length cap') (Cx.bz a b cs).length ((Cx.bz a b cs).map (.int .i64))/\Below w.heap.size w w':=by
 have HC:=ae hc;clear hc;go_enter Tryz.func114,Tryz.ntmps114;obtain⟨i0,dl,eu,dA,eg⟩:=info_parts Tryz.infoInt5;go_wp2_with fail
 go_loopg [7,14] (cs.length) (λk v7 v14 wr=>∃i:Nat,i+k=cs.length/\v14=.int .i64 i/\Below w.heap.size w wr/\wr.ownsRow w.heap.size 3 1 v7 (Cx.d7 a b cs i).length ((Cx.d7 a b cs i).map (.int .i64)))
 case atStart=>exact⟨0,by omega,rfl,(Below.refl _ _).alloc (Nat.le_refl _) _,World.ownsRow_lit (size:=1) w #[.int .i64 a] 1 (Nat.le_refl _) (by decide) rfl⟩
 case round=>
  obtain⟨i,hi,rfl,hb,ho⟩:=hrel;have HB:=ae hb;have HO:=ae ho;have hsz:=hb.size;have hlen:=Cx.Hy a b cs i
  by_cases hlt:i<cs.length
  ·obtain⟨rfl,ck⟩:=hg (by omega)
   have mQ:(i:Int)<cs.length:=by omega
   have Ti:(0:Int)<=i:=by omega
   have x0:=(hb.cell ck).trans (HC.out i hlt);have HLS:=ae (Cx.EX a b cs i hlt);clear hb ho;generalize cs[i]=c at*
   by_cases q1:a<c
   ·by_cases q2:c<=b
    ·obtain⟨av,cv,rfl,_,_⟩:=aj HO.out
     go_wp2_with (at_builtin;refine wpList_append_own_at _ rfl _ _ 32 rfl w.heap.size 3 i0 _ 1 8 Tryz.underlying32 dl eu dA eg rfl (by decide) _ (Cx.d7 a b cs i).length _ rfl (ah HO.out ((Below.refl _ _).alloc (Nat.le_refl _) _)) ⟨wr.heap.size,0,none⟩ 1 1 [.int .i64 c] rfl rfl (aF _ _ rfl [_] _) ?c2 ?c3 ?c4 ?c5 ?_)
     case c2=>rfl
     case c3=>grind[maxLen]
     case c4=>omega
     case c5=>omega
     intro v9 w9 aJ ax _ bu;have hG:=eF aJ ax (by omega);have kh:=ae (HB.out.trans (hG.kept.toBelow (λk e=>(HO.out.lt k e).1) hsz))
     have lq:Hid (w9.ownsRow w.heap.size 3 1 v9 (Cx.d7 a b cs (i+1)).length ((Cx.d7 a b cs (i+1)).map (.int .i64))):=ae (by
      rw[HLS.out,if_pos (by grind),List.length_append,List.map_append]
      grind)
     clear aJ ax bu hG;go_wp2_with fail
     go_roundg (cs.length-(i+1))
     case measure=>omega
     case rel=>exact⟨i+1,by omega,by go_num,kh.out,lq.out⟩
    ·have lq:Hid (wr.ownsRow w.heap.size 3 1 u7 (Cx.d7 a b cs (i+1)).length ((Cx.d7 a b cs (i+1)).map (.int .i64))):=ae (by
      rw[HLS.out,if_neg (by simp[q2])];exact HO.out)
     go_wp2_with fail
     go_roundg (cs.length-(i+1))
     case measure=>omega
     case rel=>exact⟨i+1,by omega,by go_num,HB.out,lq.out⟩
   ·have lq:Hid (wr.ownsRow w.heap.size 3 1 u7 (Cx.d7 a b cs (i+1)).length ((Cx.d7 a b cs (i+1)).map (.int .i64))):=ae (by
     rw[HLS.out,if_neg (by simp[q1])];exact HO.out)
    go_wp2_with fail
    go_roundg (cs.length-(i+1))
    case measure=>omega
    case rel=>exact⟨i+1,by omega,by go_num,HB.out,lq.out⟩
  ·obtain rfl:i=cs.length:=by omega
   have hE:Cx.d7 a b cs cs.length=a::Cx.jw a b cs:=by rw[Cx.d7,List.take_length]
   have HR:Hid (Cx.bz a b cs=Lib.compact ((Cx.d7 a b cs cs.length).mergeSort λx y=>decide (x<=y))):=ae (by rw[hE];rfl);have hz:0<(Cx.d7 a b cs cs.length).length:=by rw[hE];simp
   clear hE ho hb;generalize Cx.d7 a b cs cs.length=zs at*;obtain⟨g1,cp1,rfl,DK,rF,QT,Q0,nW,hH⟩:=Lib.holds_of_ownsRow HO.out (Tf HO.out hz);obtain⟨cur,hcu,hcs⟩:∃cur,wr.heap[g1]?=some (.cells cur 3 (0,0))/\cur.size=cp1*1:=by
    rcases HO.out.2 with⟨e,_⟩|⟨g',cap',cur,e,_,h1,_,_,h2,_⟩
    ·cases e
    grind
   have HS:=ae (Tryz.slices_Sort_int g1 0 cp1 zs wr hH rF (by omega));clear hH;go_wp2_with fail;refine HS.out.mono ?_;rintro e w2 ⟨rfl,nn,os,rfl⟩;have hp:(zs.mergeSort λx y=>decide (x<=y)).length=zs.length:=List.length_mergeSort zs;have j9:=ownsRow_sortedI (n:=nn) (os:=os) hp DK hcu QT Q0 hcs;have aT:=Hz os (Lib.below_putRow (enc:=Value.int .i64) (q:=nn) (d:=(zs.mergeSort λx y=>decide (x<=y)).toArray) HB.out DK) (Nat.le_refl _);obtain⟨w2,mh⟩:∃w2,w2=Sort.grow (Sort.putRow (Value.int .i64) (Sort.ahead wr nn) g1 0 (zs.mergeSort λx y=>decide (x<=y)).toArray) os:=⟨_,rfl⟩;rw[<-mh]at j9 aT|-;clear mh HS hcu;generalize hys:(zs.mergeSort λx y=>decide (x<=y))=ys at*;rw[<-hp]at j9;have HP:=ae hp;have lu:=ae j9;have dH:=ae aT;obtain⟨_,_,e,_,_,_,_,_,hH2⟩:=Lib.holds_of_ownsRow j9 (by simp)
   cases e
   have HCm:=ae (Tryz.slices_Compact_int g1 0 cp1 ys w2 hH2 (by omega) (by omega));rw[hp]at HCm;clear hH2 j9 aT hp;go_wp2_with fail;refine HCm.out.mono ?_;rintro e w3 ⟨rfl,q,rfl⟩;have lP:=Lib.compact_length_le ys;have mH:=ae (Lib.ownsRow_putRow (q:=q) (ys:=Lib.compact ys++List.replicate (ys.length-(Lib.compact ys).length) 0) lu.out (by grind) lP);have ji:=ae (Lib.below_putRow (enc:=Value.int .i64) (q:=q) (d:=(Lib.compact ys++List.replicate (ys.length-(Lib.compact ys).length) 0).toArray) dH.out DK);rw[List.take_left' rfl]at mH;rw[HP.out]at mH ji;generalize (Sort.putRow (Value.int .i64) (Sort.ahead w2 q) g1 0 (Lib.compact ys++List.replicate (zs.length-(Lib.compact ys).length) 0).toArray)=w3 at*;clear HO HB lu dH HP HCm lP;generalize Lib.compact ys=us at*;go_wp2_with fail;go_ret;rw[HR.out];exact⟨g1,cp1,rfl,mH.out,ji.out⟩
theorem O6(w:World)(s:ByteArray)(hs:s.size<=281474976710656):
  Calls Tryz.prog 54 #[.string s] w λe w'=>e=.returned (.string s)/\Below w.heap.size w w':=by
 have HS:=ae (Tryz.stringslite_Clone s w hs);go_enter Tryz.func54,Tryz.ntmps54;go_wp2_with fail;refine HS.out.mono ?_;rintro e w1 ⟨rfl,hb⟩;have HB:=ae hb;clear hb;go_wp2_with fail;go_ret;exact⟨rfl,HB.out⟩
theorem gX(w:World)(b o:Nat)(v:Value):Kp (λk=>k=b) w (w.setCell ⟨b,o,none⟩ v):=Kp.setCell (p:=⟨b,o,none⟩) (Kp.refl (λk=>k=b) w) (.inl rfl) v
theorem aak{T g:Nat}{cur:Array Value}{fr:Nat×Nat}(h:w.ownsRow b e s v n xs)(hg:w.heap[g]?=some (.cells cur T fr))(he:T≠e):¬v.ownBlock=some g:=by
 intro hk;rcases h.2 with⟨rfl,_⟩|⟨g',cap,apn,rfl,_,Q5,_⟩
 ·cases hk
 ·simp[Value.ownBlock]at hk
  subst hk;rw[hg]at Q5;simp only [Option.some.injEq,Obj.cells.injEq]at Q5;exact he Q5.2.1
theorem GJ{b' e' s' n':Nat}{v':Value}{xs':List Value}(h:w.ownsRow b e s v n xs)(h':w.ownsRow b' e' s' v' n' xs')(he:e≠e'):∀k,v.ownBlock=some k->¬v'.ownBlock=some k:=by
 intro k hk vY;rcases h.2 with⟨rfl,_⟩|⟨g,cap,cur,rfl,_,hg,_⟩
 ·cases hk
 ·simp[Value.ownBlock]at hk
  subst hk;exact aak h' hg he vY
theorem tT{base:Nat}(h:w.ownsRow base e s v n xs)(hn:0<n):∃g cap cur,v=.slice (some ⟨g,0,none⟩) n cap/\w.heap[g]?=some (.cells cur e (0,0))/\∀j,j<n*s->cur[j]?=xs[j]?:=by
 obtain⟨g,cap,e1,_,hg,_,_,hcc⟩:=aR h hn;rcases h.2 with⟨e2,_⟩|⟨g2,axu,cur,e2,_,rF,_⟩
 ·rw[e1]at e2;cases e2
 ·rw[e1]at e2
  cases e2
  exact⟨g,cap,cur,e1,rF,λj hj=>(Lib.cell_of_heap rF j).symm.trans (hcc j hj)⟩
