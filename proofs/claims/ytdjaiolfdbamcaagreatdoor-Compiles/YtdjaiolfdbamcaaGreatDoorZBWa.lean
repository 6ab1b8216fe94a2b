/- Walks of the document's own pair, signed and crc. -/
import Derived.Test.YtdjaiolfdbamcaaGreatDoorZKC
import Derived.Test.YtdjaiolfdbamcaaGreatDoorZBRd
import Derived.Deep.Onto
set_option maxRecDepth 20000
set_option maxHeartbeats 4000000
namespace Go.Proofs.YtdjaiolfdbamcaaGreatDoor
variable {c:UInt8}{n:Nat}
section
open Go.RowKit
def byteOf(s:ByteArray)(k:Nat):UInt8:=s.data.toList.getD k 0
theorem mf(s:ByteArray)(k:Nat)(h:k<s.size):s[k]=byteOf s k:=by
 unfold byteOf;rw[List.getD_eq_getElem?_getD,List.getElem?_eq_getElem (by simpa using h)];rfl
theorem od(s:ByteArray)(k:Nat)(w:World)(hk:k+1<s.size)(hs:s.size<=1000000000):
  Calls Tryz.prog 66 #[.string s,.int .i64 k] w λe w'=>e=.returned (.int .i64 (Mx.two (byteOf s k) (byteOf s (k+1)):Nat))/\Below w.heap.size w w':=by
 obtain⟨k1,e1⟩:∃k1,k1=k+1:=⟨_,rfl⟩;have hw:IntKind.i64.wrap ((k)+1)=k1:=by rw[IntWalk.i64_in _ (by omega)];omega
 have h0:(0:Int)<=k:=by omega
 have h1:(k:Int)<s.size:=by omega
 have h2:(k1:Int)<s.size:=by omega
 have h3:(0:Int)<=k1:=by omega
 have H1:=ae e1;clear e1;go_enter Tryz.func66,Tryz.ntmps66;go_wp2_with fail
 go_region
 go_wp2_with fail;go_ret;have b1:=mf s k (by omega);have b2:=mf s k1 (by omega);have u1:=s[k].toNat_lt;have u2:=s[k1].toNat_lt;rw[<-H1.out,<-b1,<-b2];unfold Mx.two;generalize s[k].toNat=x at*;generalize s[k1].toNat=y at*;refine⟨?_,bm w⟩;have e:wrap64 (wrap64 (x)+wrap64 (256*wrap64 (y)))=((x+256*y:Nat)):=by unfold wrap64;omega
 rw[e];rfl
theorem qM(s:ByteArray)(k:Nat)(w:World)(hk:k+1<s.size)(hs:s.size<=1000000000):
  Calls Tryz.prog 68 #[.string s,.int .i64 k] w λe w'=>e=.returned (.int .i64 (Mx.Et (Mx.two (byteOf s k) (byteOf s (k+1)))))/\Below w.heap.size w w':=by
 have HP:=ae (od s k w hk hs);have hb:Mx.two (byteOf s k) (byteOf s (k+1))<65536:=by
  have u1:=(byteOf s k).toNat_lt;have u2:=(byteOf s (k+1)).toNat_lt;unfold Mx.two;omega
 generalize Mx.two (byteOf s k) (byteOf s (k+1))=n at*;have HS:Hid (Mx.Et n=if n<32768 then(n:Int)else(n)-65536):=ae rfl;generalize Mx.Et n=z at*;go_enter Tryz.func68,Tryz.ntmps68;go_wp2_with fail;refine HP.out.mono ?_;rintro e w' ⟨rfl,hw⟩;have HW:=ae hw;clear hw HP
 by_cases h:n<32768
 ·have h1:((n:Int)<32768):=by omega
  have h2:¬(32768:Int)<=n:=by omega
  have HZ:Hid (z=n):=ae (by rw[HS.out,if_pos h]);clear h hb HS;generalize (n:Int)=m at*;go_wp2_with fail;go_ret;exact⟨by rw[HZ.out];rfl,HW.out⟩
 ·have h1:((32768:Int)<=n):=by omega
  have aT:(n:Int)<65536:=by omega
  have HZ:Hid (z=(n)-65536):=ae (by rw[HS.out,if_neg h]);clear h hb HS;go_wp2_with fail;go_ret;exact⟨by rw[HZ.out];rfl,HW.out⟩
theorem N6(j x:Nat):Kx.dN (j+1) x=Kx.dN j x++[x/2^j%2==1]:=by
 rw[Kx.Df];rfl
theorem aiB(y:Nat)(b:Bool):Kx.st y b=if(y%2==1) !=b then(y/2)^^^3988292384 else y/2:=by
 unfold Kx.st Kx.cb;have h1:=Kx.MR y (Kx.bn b);have h2:=Kx.Gn y (Kx.bn b);have h3:Kx.bn b/2=0:=by cases b<;>rfl
 grind[Nat.mod_two_eq_zero_or_one,Kx.bn]
theorem aeF(x y j:Nat)(hx:x<256)(hy:y<4294967296)(q:Bool)(h:(bits BinOp.and IntKind.u32 ((x:Int)%4294967296/2^j) 1 !=bits BinOp.and IntKind.u32 (y:Int) 1)=q):Kx.st y (x/2^j%2==1)=if q=true then(y/2)^^^3988292384 else y/2:=by
 have e1:((x)%4294967296/2^j)=((x/2^j:Nat):Int):=by
  rw[Int.emod_eq_of_lt (by omega) (by omega)];simp
 have hd:x/2^j<4294967296:=Nat.lt_of_le_of_lt (Nat.div_le_self _ _) (by omega);rw[e1,show(1)=((1:Nat):Int)from rfl,Kx.Rs _ _ hd (by decide),Kx.Rs _ _ hy (by decide),Nat.and_one_is_mod,Nat.and_one_is_mod]at h
 grind[Nat.mod_two_eq_zero_or_one,aiB]
theorem Rt(l:List UInt8)(k:Nat)(h:k<l.length):Kx.reg (l.take (k+1))=(Kx.dN 8 (l.getD k 0).toNat).foldl Kx.st (Kx.reg (l.take k)):=by
 grind[Kx.bitsOf,List.take_add_one,List.getElem?_eq_getElem,Kx.zp,Kx.reg]
theorem Kr(l:List UInt8):Kx.reg l<4294967296:=Kx.rL _ _ (by decide)
theorem Ze(s:ByteArray)(w:World)(hs:s.size<=1000000000):
  Calls Tryz.prog 67 #[.string s] w λe w'=>e=.returned (.int .u32 (Cx.Dg s.data.toList))/\w'=w:=by
 have HC:=ae (Kx.MS s.data.toList);go_enter Tryz.func67,Tryz.ntmps67;go_wp2
 go_loop [3,4] (λv3 v4=>∃(k:Nat),k<=s.size/\v4=.int .i64 k/\v3=.int .u32 (Kx.reg (s.data.toList.take k):Nat)) (λ_ v4=>s.size-(intOf v4).toNat)
 case atStart=>exact⟨0,by omega,rfl,rfl⟩
 case round=>
  obtain⟨k,hk,rfl,rfl⟩:=hrel
  by_cases hlt:k<s.size
  ·have rM:(k:Int)<s.size:=by omega
   have jf:(0:Int)<=k:=by omega
   have HR:Hid (Kx.reg (s.data.toList.take (k+1))=(Kx.dN 8 (byteOf s k).toNat).foldl Kx.st (Kx.reg (s.data.toList.take k))):=ae (Rt _ k (by simp_all));have HL:=ae (Kr (s.data.toList.take k));go_wp2
   go_loop [3,5] (λv3 v5=>∃(j:Nat),j<=8/\v5=.int .i64 j/\v3=.int .u32 (((Kx.dN j (byteOf s k).toNat).foldl Kx.st (Kx.reg (s.data.toList.take k)):Nat))) (λ_ v5=>8-(intOf v5).toNat)
   case atStart=>exact⟨0,by omega,rfl,rfl⟩
   case round=>
    obtain⟨j,hj,rfl,rfl⟩:=hrel
    by_cases h8:j<8
    ·have h8i:(j:Int)<8:=by omega
     have HS:Hid ((Kx.dN (j+1) (byteOf s k).toNat).foldl Kx.st (Kx.reg (s.data.toList.take k))=Kx.st ((Kx.dN j (byteOf s k).toNat).foldl Kx.st (Kx.reg (s.data.toList.take k))) ((byteOf s k).toNat/2^j%2==1)):=ae (by rw[N6,List.foldl_append];rfl);have HY:=ae (Kx.rL (Kx.dN j (byteOf s k).toNat) _ HL.out);have hb:=mf s k hlt;generalize (Kx.dN j (byteOf s k).toNat).foldl Kx.st (Kx.reg (s.data.toList.take k))=y at*;go_wp2
     all_goals
      rename_i hq;have hst:=aeF _ y j (byteOf s k).toNat_lt HY.out _ hq;refine⟨⟨j+1,by omega,by go_num,?_⟩,by simp[intOf];omega⟩;rw[HS.out,hst]
     ·rw[if_pos rfl,show(3988292384:Int)=((3988292384:Nat):Int)from rfl,show((y:Int)/2)=((y/2:Nat):Int)from rfl,Kx.Gp _ _ (by have:=HY.out;omega) (by decide)]
     simp
    ·have h8i:¬(j:Int)<8:=by omega
     obtain rfl:j=8:=by omega
     go_wp2;exact⟨⟨k+1,by omega,by go_num,by rw[HR.out]⟩,by simp[intOf];omega⟩
  ·have rM:¬(k:Int)<s.size:=by omega
   obtain rfl:k=s.size:=by omega
   have HT:Hid (s.data.toList.take s.size=s.data.toList):=ae (List.take_of_length_le (by simp));have HL:=ae (Kr s.data.toList);rw[HT.out];go_wp2;go_ret;refine⟨?_,rfl⟩;rw[HC.out,<-Kx.Gp _ _ HL.out (by decide)];rfl
namespace Mx
def oe(p:List UInt8)(k:Nat):Nat:=if p.getD k 0=1\/p.getD k 0=7\/p.getD k 0=8 then(p.getD (k+1) 0).toNat else 0
def mg(p:List UInt8)(k:Nat):Int:=if p.getD k 0=2 then(two (p.getD (k+1) 0) (p.getD (k+2) 0):Nat)else if p.getD k 0=7\/p.getD k 0=8 then Et (two (p.getD (k+2) 0) (p.getD (k+3) 0))else 0
def wid(c:UInt8):Nat:=if c=1 then 2 else if c=2 then 3 else if c=7\/c=8 then 4 else 1
theorem aeG(c:UInt8):wid c<=4:=by
 grind[wid]
theorem Zf(c:UInt8):1<=wid c:=by
 grind[wid]
theorem pw{s:Shape}(h:shapeOf c=some s):wid c=1+s.width/\c.toNat<=8:=by
 unfold shapeOf at h;unfold wid;split at h
 ·rename_i e;subst e;grind
 ·split at h
  ·rename_i e;subst e;grind
  ·split at h
   ·rename_i e;subst e;grind
   ·split at h
    ·rename_i e;cases h;rcases e with e|e<;>subst e<;>decide
    ·split at h
     ·rename_i e;subst e;grind
     ·split at h
      ·rename_i e;subst e;grind
      ·split at h
       ·rename_i e;cases h;rcases e with e|e<;>subst e<;>decide
       ·cases h
theorem Gq(h:c.toNat=n):c=UInt8.ofNat n:=by rw[<-h];simp
theorem Ks(h:c.toNat<=8):∃s,shapeOf c=some s:=by
 have:∀n,n<=8->∃s,shapeOf (UInt8.ofNat n)=some s:=by
  intro n hn;rcases n with _|_|_|_|_|_|_|_|_|n
  iterate 9 exact⟨_,rfl⟩
  omega
 rw[Gq (c:=c) rfl]
 grind
theorem Dh(p:List UInt8)(f k:Nat)(hk:k<p.length)(h:8<(p.getD k 0).toNat\/p.length<k+wid (p.getD k 0)):qa p (f+1) k=none:=by
 simp only [qa];rw[if_pos hk]
 cases hs:shapeOf (p.getD k 0)with
 |none=>rfl
 |some s=>
  obtain⟨h1,h2⟩:=pw hs
  grind
theorem Zg(p:List UInt8)(f k:Nat)(hk:k<p.length)(h8:(p.getD k 0).toNat<=8)(hl:k+wid (p.getD k 0)<=p.length):qa p (f+1) k=(qa p f (k+wid (p.getD k 0))).map (k::·):=by
 obtain⟨s,hs⟩:=Ks h8;obtain⟨h1,_⟩:=pw hs;simp only [qa]
 grind
theorem Ru(p:List UInt8)(f:Nat):qa p (f+1) p.length=some []:=by simp[qa]
end Mx
def qd(p:List UInt8)(k:Nat):List Value:=[.int .i64 k,.int .i64 ((p.getD k 0).toNat:Int),.int .i64 (Mx.oe p k:Nat),.int .i64 (Mx.mg p k),.int .i64 ((k+Mx.wid (p.getD k 0):Nat):Int)]
def MT:Array Value:=#[.int .i64 1,.int .i64 2,.int .i64 3,.int .i64 1,.int .i64 1,.int .i64 1,.int .i64 1,.int .i64 4,.int .i64 4]
theorem Zh(h:c.toNat<=8):MT[c.toNat]?=some (.int .i64 (Mx.wid c:Nat)):=by
 have:∀n,n<=8->MT[(UInt8.ofNat n).toNat]?=some (.int .i64 (Mx.wid (UInt8.ofNat n))):=by
  intro n hn;rcases n with _|_|_|_|_|_|_|_|_|n
  iterate 9 rfl
  omega
 have h2:=this _ h
 simp_all
theorem Tryz.infoIns:(Tryz.prog.info? 195).map (λi=>(i.zero,i.size,i.bytes))=some (some (.agg #[.int .i64 0,.int .i64 0,.int .i64 0,.int .i64 0,.int .i64 0]),5,40):=by kernel_rfl
def aiC(s:ByteArray)(w:World)(e:Ending)(w':World):Prop:=Below w.heap.size w w'/\match Mx.oa s.data.toList with
 |none=>e=.returned (.tuple #[.slice none 0 0,.bool false])
 |some l=>∃v,e=.returned (.tuple #[v,.bool (!l.isEmpty)])/\w'.ownsRow w.heap.size 195 5 v l.length (l.flatMap (qd s.data.toList))
theorem Di(h:¬c=UInt8.ofNat n):((c.toNat:Int)==((n:Nat):Int))=false:=by
 grind[Mx.Gq,beq_eq_false_iff_ne]
theorem bo{w:World}{b:Nat}{o:Obj}(h:w.heap[b]?=some o):b<w.heap.size:=(Array.getElem?_eq_some_iff.1 h).1
theorem Kt(s:ByteArray)(w:World)(hs:s.size<=1000000000):
  Calls Tryz.prog 97 #[.string s] w λe w'=>aiC s w e w':=by
 obtain⟨i0,dl,eu,dA,eg⟩:=info_parts Tryz.infoIns;have HI0:=ae dl;have HZ0:=ae eu;have vR:=ae dA;have QN:=ae eg;clear dl eu dA eg;have tS:s.data.toList.length=s.size:=by simp
 obtain⟨p,hp⟩:∃p,p=s.data.toList:=⟨_,rfl⟩;have Zi:Hid (p.length=s.size):=ae (by rw[hp];exact tS);have fR:Hid (∀k,byteOf s k=p.getD k 0):=ae (λk=>by rw[hp];rfl);have HX:=ae hp;clear tS hp;obtain⟨w1,lh⟩:∃w1,w1=w.alloc (.cells MT 3):=⟨_,rfl⟩;have gI:w1.heap[w.heap.size]?=some (.cells MT 3 (0,0)):=by rw[lh];exact heap_alloc_new _ _
 have b6:Hid (Below w.heap.size w w1):=ae (by rw[lh];exact ag _ _);have og:=ae lh;have tH:=ae gI;clear lh gI;go_enter Tryz.func97,Tryz.ntmps97;go_wp2_with fail;rw[show w.alloc (.cells #[.int .i64 1,.int .i64 2,.int .i64 3,.int .i64 1,.int .i64 1,.int .i64 1,.int .i64 1,.int .i64 4,.int .i64 4] 3)=w1 from og.out.symm];have hws:=b6.out.size;have FW:w.heap.size<w1.heap.size:=(Array.getElem?_eq_some_iff.1 tH.out).1;have tS:=Zi.out
 go_loopg [4,6] p.length (λm v4 v6 wr=>∃(k f:Nat)(dn:List Nat),k+m=p.length/\dn.length<=k/\f+dn.length=p.length+1/\v6=.int .i64 k/\Mx.oa p=(Mx.qa p f k).map (dn++·)/\wr.ownsRow w1.heap.size 195 5 v4 dn.length (dn.flatMap (qd p))/\Below w1.heap.size w1 wr)
 case atStart=>exact⟨0,p.length+1,[],by omega,by simp,by simp,rfl,by unfold Mx.oa;simp,World.ownsRow_nil _ _ _ _,Below.refl _ _⟩
 case round=>
  obtain⟨k,f,dn,hkm,hdk,Rv,rfl,hcut,ho,hb⟩:=hrel;obtain⟨f,rfl⟩:∃g,f=g+1:=⟨f-1,by omega⟩;have HB:=ae hb;have HO:=ae ho;have HC:=ae hcut;have hsz:=hb.size;clear hb ho hcut
  by_cases hlt:k<p.length
  ·have rM:(k:Int)<s.size:=by omega
   have jf:(0:Int)<=k:=by omega
   have mX:s[k]=p.getD k 0:=(mf s k (by omega)).trans (fR.out k);have lP:=(p.getD k 0).toNat_lt
   by_cases h8:8<(p.getD k 0).toNat
   ·have HN:Hid (Mx.oa p=none):=ae (by rw[HC.out,Mx.Dh p f k hlt (.inl h8)];rfl)
    generalize p.getD k 0=c at*;have h8i:(8:Int)<(c.toNat:Int):=by omega
    obtain⟨n,hn⟩:∃n:Int,n=(c.toNat:Int):=⟨_,rfl⟩;go_wp2_with fail;refine bodyPost_ret (v:=.tuple #[.slice none 0 0,.bool false]) (by simp[results,Tryz.results97,go_sem]) rfl ?_;refine⟨b6.out.trans (HB.out.mono (by omega)),?_⟩;rw[<-HX.out,HN.out]
   ·have hsc:wr.cell? ⟨w.heap.size,(p.getD k 0).toNat,none⟩=some (.int .i64 (Mx.wid (p.getD k 0):Nat)):=(HB.out.cell (p:=⟨w.heap.size,(p.getD k 0).toNat,none⟩) FW).trans ((Lib.cell_of_heap tH.out _).trans (Zh (by omega)))
    have h8i:¬(8:Int)<((p.getD k 0).toNat:Int):=by omega
    have h9i:((p.getD k 0).toNat:Int)<9:=by omega
    have FX:(0:Int)<=((p.getD k 0).toNat:Int):=by omega
    have hw4:Mx.wid (p.getD k 0)<=4:=Mx.aeG _;have Ku:(0:Int)<=(Mx.wid (p.getD k 0):Int):=by omega
    have hwp:=Mx.Zf (p.getD k 0)
    by_cases hl:k+Mx.wid (p.getD k 0)<=p.length
    ·have HG:Hid (Mx.oa p=(Mx.qa p f (k+Mx.wid (p.getD k 0))).map ((dn++[k])++·)):=ae (by rw[HC.out,Mx.Zg p f k hlt (by omega) hl,Option.map_map];congr 1;funext r;simp)
     have mQ:¬((s.size:Int)<(k:Int)+(Mx.wid (p.getD k 0):Int)):=by omega
     have hIC:Hid (qd p k=[.int .i64 k,.int .i64 ((p.getD k 0).toNat:Int),.int .i64 (Mx.oe p k:Nat),.int .i64 (Mx.mg p k),.int .i64 ((k+Mx.wid (p.getD k 0):Nat):Int)]):=ae rfl;have J3:=ae (λj (hj:j<s.size)=>(mf s j hj).trans (fR.out j));obtain⟨wd,hwd⟩:∃wd,wd=Mx.wid (p.getD k 0):=⟨_,rfl⟩;obtain⟨k1,fL⟩:∃k1,k1=k+1:=⟨_,rfl⟩;obtain⟨k2,fW⟩:∃k2,k2=k+2:=⟨_,rfl⟩;rw[<-hwd]at hsc hw4 Ku hl mQ hIC HG hwp;have J4:IntKind.i64.wrap ((k:Int)+1)=k1:=by rw[IntWalk.i64_in _ (by omega)];omega
     have J5:IntKind.i64.wrap ((k:Int)+2)=k2:=by rw[IntWalk.i64_in _ (by omega)];omega
     have HWD:=ae hwd;have jW:=ae fL;have iG:=ae fW;clear hwd;obtain⟨c,hc⟩:∃c,c=p.getD k 0:=⟨_,rfl⟩;rw[<-hc]at hsc h8i h9i FX mX hIC h8 lP HWD;have MU:=ae hc;have aod:(k1:Int)=k+1:=by omega
     have FY:=ae (And.intro fL fW);clear hc fL fW aod
     by_cases e1:c=1
     ·have b1:((c.toNat:Int)==1)=true:=by rw[e1];rfl
      have mh:wd=2:=by rw[HWD.out,e1];rfl
      have aeK:k1<s.size:=by have:=FY.out;omega
      have aiD:(k1:Int)<s.size:=by omega
      have aiE:(0:Int)<=k1:=by omega
      have xk1:=J3.out k1 aeK;obtain⟨a,ha⟩:∃a,a=p.getD k1 0:=⟨_,rfl⟩;rw[<-ha]at xk1;have HA:=ae ha;have QO:=a.toNat_lt;clear ha;have EA:Hid (((Mx.oe p k:Nat):Int)=(a.toNat:Int)):=ae (by unfold Mx.oe;rw[<-MU.out,e1,if_pos (.inl rfl),HA.out,jW.out]);have EN:Hid (Mx.mg p k=0):=ae (by unfold Mx.mg;rw[<-MU.out,e1,if_neg (by decide),if_neg (by decide)]);have HE:=ae e1;clear e1 mh;obtain⟨av,cv,rfl,_,_⟩:=aj HO.out;go_wp2_with (at_builtin;refine wpList_append_own_at _ rfl _ _ 191 rfl w1.heap.size 195 i0 _ 5 40 Tryz.underlying191 HI0.out HZ0.out vR.out QN.out rfl (by decide) _ dn.length _ rfl (ah HO.out ?c0) ⟨wr.heap.size+1,0,none⟩ 1 1 [.int .i64 k,.int .i64 (c.toNat:Int),.int .i64 (a.toNat:Int),.int .i64 0,.int .i64 ((k:Int)+(wd:Int))] rfl rfl (aF _ _ (by first|rfl|simp) [_,_,_,_,_] _) ?c2 ?c3 ?c4 ?c5 ?_)
      case c0=>exact((ag wr (.cells #[.int .i64 k,.int .i64 (c.toNat:Int),.int .i64 (a.toNat:Int),.int .i64 0,.int .i64 ((k:Int)+(wd:Int))] 195))).alloc ((ag wr (.cells #[.int .i64 k,.int .i64 (c.toNat:Int),.int .i64 (a.toNat:Int),.int .i64 0,.int .i64 ((k:Int)+(wd:Int))] 195))).size _
      case c2=>first|exact⟨rfl,rfl,rfl,rfl,rfl⟩|exact⟨rfl,rfl,rfl,rfl⟩|(intro u hu;simp at hu;rcases hu with rfl|rfl|rfl|rfl|rfl<;>rfl)
      case c3=>unfold maxLen;omega
      case c4=>omega
      case c5=>have:=((ag wr (.cells #[.int .i64 k,.int .i64 (c.toNat:Int),.int .i64 (a.toNat:Int),.int .i64 0,.int .i64 ((k:Int)+(wd:Int))] 195))).size;simp at this|-;omega
      intro v9 w9 aJ ax _ bu;have hG:=dO aJ ax (by simpa using bu);have hx:w9.heap[wr.heap.size]?=some (.cells #[.int .i64 k,.int .i64 (c.toNat:Int),.int .i64 (a.toNat:Int),.int .i64 0,.int .i64 ((k:Int)+(wd:Int))] 195 (0,0)):=(hG.kept.block wr.heap.size (Nat.lt_of_lt_of_le (bo ((heap_alloc_new wr (.cells #[.int .i64 k,.int .i64 (c.toNat:Int),.int .i64 (a.toNat:Int),.int .i64 0,.int .i64 ((k:Int)+(wd:Int))] 195)))) (ag _ _).size) (λe=>by have:=HO.out.lt _ e;omega)).trans (((ag _ _).block wr.heap.size (bo ((heap_alloc_new wr (.cells #[.int .i64 k,.int .i64 (c.toNat:Int),.int .i64 (a.toNat:Int),.int .i64 0,.int .i64 ((k:Int)+(wd:Int))] 195))))).trans ((heap_alloc_new wr (.cells #[.int .i64 k,.int .i64 (c.toNat:Int),.int .i64 (a.toNat:Int),.int .i64 0,.int .i64 ((k:Int)+(wd:Int))] 195))));have x4:=oh hx;have kh:Hid (Below w1.heap.size w1 w9):=ae ((HB.out.trans ((((ag wr (.cells #[.int .i64 k,.int .i64 (c.toNat:Int),.int .i64 (a.toNat:Int),.int .i64 0,.int .i64 ((k:Int)+(wd:Int))] 195))).alloc ((ag wr (.cells #[.int .i64 k,.int .i64 (c.toNat:Int),.int .i64 (a.toNat:Int),.int .i64 0,.int .i64 ((k:Int)+(wd:Int))] 195))).size _).mono HB.out.size)).trans (hG.kept.toBelow (λk e=>(HO.out.lt k e).1) (Nat.le_trans HB.out.size (((ag wr (.cells #[.int .i64 k,.int .i64 (c.toNat:Int),.int .i64 (a.toNat:Int),.int .i64 0,.int .i64 ((k:Int)+(wd:Int))] 195))).alloc ((ag wr (.cells #[.int .i64 k,.int .i64 (c.toNat:Int),.int .i64 (a.toNat:Int),.int .i64 0,.int .i64 ((k:Int)+(wd:Int))] 195))).size _).size)));have N7:dn.flatMap (qd p)++[.int .i64 k,.int .i64 (c.toNat:Int),.int .i64 (a.toNat:Int),.int .i64 0,.int .i64 ((k:Int)+(wd:Int))]=(dn++[k]).flatMap (qd p):=by
       rw[List.flatMap_append,List.flatMap_cons,List.flatMap_nil,List.append_nil,hIC.out,EA.out,EN.out,Int.natCast_add]
      rw[N7]at aJ;have lq:=ae aJ;clear aJ ax bu hG hx N7;obtain⟨a9,c9,rfl,_,_⟩:=aj lq.out;go_wp2_with fail
      go_roundg (p.length-(k+wd))
      case measure=>omega
      case rel=>exact⟨k+wd,f,dn++[k],by omega,by simp;omega,by simp;omega,by go_num,HG.out,by rw[List.length_append];exact lq.out,kh.out⟩
     ·by_cases e2:c=2
      ·have b1:((c.toNat:Int)==1)=false:=by rw[e2];rfl
       have b2:((c.toNat:Int)==2)=true:=by rw[e2];rfl
       have mh:wd=3:=by rw[HWD.out,e2];rfl
       have EA:Hid (((Mx.oe p k:Nat):Int)=0):=ae (by unfold Mx.oe;rw[<-MU.out,e2,if_neg (by decide)];rfl);have EN:Hid (Mx.mg p k=((Mx.two (byteOf s k1) (byteOf s (k1+1)):Nat):Int)):=ae (by unfold Mx.mg;rw[<-MU.out,e2,if_pos rfl,fR.out,fR.out,jW.out]);have QP:k1+1<s.size:=by have:=FY.out;omega
       have HE:=ae e2;clear e1 e2 mh;have QQ:=ae (od s k1 (wr.alloc (.cells #[.int .i64 k,.int .i64 (c.toNat:Int),.int .i64 0,.int .i64 0,.int .i64 ((k:Int)+(wd:Int))] 195)) QP hs);go_wp2_with fail;refine QQ.out.mono ?_;rintro e wc ⟨rfl,Xg⟩;have Zj:=(Xg.block wr.heap.size (bo (heap_alloc_new wr (.cells #[.int .i64 k,.int .i64 (c.toNat:Int),.int .i64 0,.int .i64 0,.int .i64 ((k:Int)+(wd:Int))] 195)))).trans (heap_alloc_new wr (.cells #[.int .i64 k,.int .i64 (c.toNat:Int),.int .i64 0,.int .i64 0,.int .i64 ((k:Int)+(wd:Int))] 195));obtain⟨y0,y1,y2,y3,y4⟩:=eN Zj;have f3:=Lib.frozen_of_heap Zj 3;have HBC:Hid (Below wr.heap.size wr wc):=ae ((ag wr (.cells #[.int .i64 k,.int .i64 (c.toNat:Int),.int .i64 0,.int .i64 0,.int .i64 ((k:Int)+(wd:Int))] 195)).trans (Xg.mono (ag wr (.cells #[.int .i64 k,.int .i64 (c.toNat:Int),.int .i64 0,.int .i64 0,.int .i64 ((k:Int)+(wd:Int))] 195)).size));rw[<-EN.out];obtain⟨nz,hnz⟩:∃nz:Int,nz=Mx.mg p k:=⟨_,rfl⟩;rw[<-hnz];have HNZ:=ae hnz;have QR:Hid ((wc.setCell ⟨wr.heap.size,3,none⟩ (.int .i64 nz)).heap[wr.heap.size]?=some (.cells #[.int .i64 k,.int .i64 (c.toNat:Int),.int .i64 0,.int .i64 nz,.int .i64 ((k:Int)+(wd:Int))] 195 (0,0))):=ae (by rw[aE Zj];rfl);have nV:Hid (Below wr.heap.size wr (wc.setCell ⟨wr.heap.size,3,none⟩ (.int .i64 nz))):=ae (HBC.out.setCell (by simp) _);clear Xg Zj hnz QQ;obtain⟨av,cv,rfl,_,_⟩:=aj HO.out;go_wp2_with (at_builtin;refine wpList_append_own_at _ rfl _ _ 191 rfl w1.heap.size 195 i0 _ 5 40 Tryz.underlying191 HI0.out HZ0.out vR.out QN.out rfl (by decide) _ dn.length _ rfl (ah HO.out ?c0) ⟨wc.heap.size,0,none⟩ 1 1 [.int .i64 k,.int .i64 (c.toNat:Int),.int .i64 0,.int .i64 nz,.int .i64 ((k:Int)+(wd:Int))] rfl rfl (aF _ _ (by first|rfl|simp) [_,_,_,_,_] _) ?c2 ?c3 ?c4 ?c5 ?_)
       case c0=>exact(nV.out).alloc (nV.out).size _
       case c2=>first|exact⟨rfl,rfl,rfl,rfl,rfl⟩|exact⟨rfl,rfl,rfl,rfl⟩|(intro u hu;simp at hu;rcases hu with rfl|rfl|rfl|rfl|rfl<;>rfl)
       case c3=>unfold maxLen;omega
       case c4=>omega
       case c5=>have:=(nV.out).size;simp at this|-;omega
       intro v9 w9 aJ ax _ bu;have hG:=dO aJ ax (by simpa using bu);have hx:w9.heap[wr.heap.size]?=some (.cells #[.int .i64 k,.int .i64 (c.toNat:Int),.int .i64 0,.int .i64 nz,.int .i64 ((k:Int)+(wd:Int))] 195 (0,0)):=(hG.kept.block wr.heap.size (Nat.lt_of_lt_of_le (bo (QR.out)) (ag _ _).size) (λe=>by have:=HO.out.lt _ e;omega)).trans (((ag _ _).block wr.heap.size (bo (QR.out))).trans (QR.out));have x4:=oh hx;have kh:Hid (Below w1.heap.size w1 w9):=ae ((HB.out.trans (((nV.out).alloc (nV.out).size _).mono HB.out.size)).trans (hG.kept.toBelow (λk e=>(HO.out.lt k e).1) (Nat.le_trans HB.out.size ((nV.out).alloc (nV.out).size _).size)));have N7:dn.flatMap (qd p)++[.int .i64 k,.int .i64 (c.toNat:Int),.int .i64 0,.int .i64 nz,.int .i64 ((k:Int)+(wd:Int))]=(dn++[k]).flatMap (qd p):=by
        rw[List.flatMap_append,List.flatMap_cons,List.flatMap_nil,List.append_nil,hIC.out,EA.out,<-HNZ.out,Int.natCast_add]
       rw[N7]at aJ;have lq:=ae aJ;clear aJ ax bu hG hx N7;obtain⟨a9,c9,rfl,_,_⟩:=aj lq.out;go_wp2_with fail
       go_roundg (p.length-(k+wd))
       case measure=>omega
       case rel=>exact⟨k+wd,f,dn++[k],by omega,by simp;omega,by simp;omega,by go_num,HG.out,by rw[List.length_append];exact lq.out,kh.out⟩
      ·by_cases e78:c=7\/c=8
       ·rcases e78 with e7|e7
        have b7:((c.toNat:Int)==7)=true:=by rw[e7];rfl
        rotate_left;have b7:((c.toNat:Int)==7)=false:=by rw[e7];rfl
        have b8:((c.toNat:Int)==8)=true:=by rw[e7];rfl
        all_goals
         have b1:((c.toNat:Int)==1)=false:=by rw[e7];rfl
         have b2:((c.toNat:Int)==2)=false:=by rw[e7];rfl
         have mh:wd=4:=by rw[HWD.out,e7];rfl
         have aeK:k1<s.size:=by have:=FY.out;omega
         have aiD:(k1:Int)<s.size:=by omega
         have aiE:(0:Int)<=k1:=by omega
         have xk1:=J3.out k1 aeK;obtain⟨a,ha⟩:∃a,a=p.getD k1 0:=⟨_,rfl⟩;rw[<-ha]at xk1;have HA:=ae ha;have QO:=a.toNat_lt;clear ha;have h20:(0:Int)<=k2:=by omega
         have EA:Hid (((Mx.oe p k:Nat):Int)=(a.toNat:Int)):=ae (by unfold Mx.oe;rw[<-MU.out,e7,if_pos (by decide),HA.out,jW.out]);have EN:Hid (Mx.mg p k=Mx.Et (Mx.two (byteOf s k2) (byteOf s (k2+1)))):=ae (by unfold Mx.mg;rw[<-MU.out,e7,if_neg (by decide),if_pos (by decide),fR.out,fR.out,iG.out]);have QP:k2+1<s.size:=by have:=FY.out;omega
         have HE:=ae e7;clear e1 e2 e7 mh;have QQ:=ae (qM s k2 (wr.alloc (.cells #[.int .i64 k,.int .i64 (c.toNat:Int),.int .i64 (a.toNat:Int),.int .i64 0,.int .i64 ((k:Int)+(wd:Int))] 195)) QP hs);go_wp2_with fail;refine QQ.out.mono ?_;rintro e wc ⟨rfl,Xg⟩;have Zj:=(Xg.block wr.heap.size (bo (heap_alloc_new wr (.cells #[.int .i64 k,.int .i64 (c.toNat:Int),.int .i64 (a.toNat:Int),.int .i64 0,.int .i64 ((k:Int)+(wd:Int))] 195)))).trans (heap_alloc_new wr (.cells #[.int .i64 k,.int .i64 (c.toNat:Int),.int .i64 (a.toNat:Int),.int .i64 0,.int .i64 ((k:Int)+(wd:Int))] 195));obtain⟨y0,y1,y2,y3,y4⟩:=eN Zj;have f3:=Lib.frozen_of_heap Zj 3;have HBC:Hid (Below wr.heap.size wr wc):=ae ((ag wr (.cells #[.int .i64 k,.int .i64 (c.toNat:Int),.int .i64 (a.toNat:Int),.int .i64 0,.int .i64 ((k:Int)+(wd:Int))] 195)).trans (Xg.mono (ag wr (.cells #[.int .i64 k,.int .i64 (c.toNat:Int),.int .i64 (a.toNat:Int),.int .i64 0,.int .i64 ((k:Int)+(wd:Int))] 195)).size));rw[<-EN.out];obtain⟨nz,hnz⟩:∃nz:Int,nz=Mx.mg p k:=⟨_,rfl⟩;rw[<-hnz];have HNZ:=ae hnz;have QR:Hid ((wc.setCell ⟨wr.heap.size,3,none⟩ (.int .i64 nz)).heap[wr.heap.size]?=some (.cells #[.int .i64 k,.int .i64 (c.toNat:Int),.int .i64 (a.toNat:Int),.int .i64 nz,.int .i64 ((k:Int)+(wd:Int))] 195 (0,0))):=ae (by rw[aE Zj];rfl);have nV:Hid (Below wr.heap.size wr (wc.setCell ⟨wr.heap.size,3,none⟩ (.int .i64 nz))):=ae (HBC.out.setCell (by simp) _);clear Xg Zj hnz QQ;obtain⟨av,cv,rfl,_,_⟩:=aj HO.out;go_wp2_with (at_builtin;refine wpList_append_own_at _ rfl _ _ 191 rfl w1.heap.size 195 i0 _ 5 40 Tryz.underlying191 HI0.out HZ0.out vR.out QN.out rfl (by decide) _ dn.length _ rfl (ah HO.out ((nV.out).alloc (nV.out).size _)) ⟨wc.heap.size,0,none⟩ 1 1 [.int .i64 k,.int .i64 (c.toNat:Int),.int .i64 (a.toNat:Int),.int .i64 nz,.int .i64 ((k:Int)+(wd:Int))] rfl rfl (aF _ _ (by first|rfl|simp) [_,_,_,_,_] _) (by first|exact⟨rfl,rfl,rfl,rfl,rfl⟩|exact⟨rfl,rfl,rfl,rfl⟩|(intro u hu;simp at hu;rcases hu with rfl|rfl|rfl|rfl|rfl<;>rfl)) (by unfold maxLen;omega) (by omega) (by have:=(nV.out).size;simp at this|-;omega) ?_);intro v9 w9 aJ ax _ bu;have hG:=dO aJ ax (by simpa using bu);have hx:w9.heap[wr.heap.size]?=some (.cells #[.int .i64 k,.int .i64 (c.toNat:Int),.int .i64 (a.toNat:Int),.int .i64 nz,.int .i64 ((k:Int)+(wd:Int))] 195 (0,0)):=(hG.kept.block wr.heap.size (Nat.lt_of_lt_of_le (bo (QR.out)) (ag _ _).size) (λe=>by have:=HO.out.lt _ e;omega)).trans (((ag _ _).block wr.heap.size (bo (QR.out))).trans (QR.out));have x4:=oh hx;have kh:Hid (Below w1.heap.size w1 w9):=ae ((HB.out.trans (((nV.out).alloc (nV.out).size _).mono HB.out.size)).trans (hG.kept.toBelow (λk e=>(HO.out.lt k e).1) (Nat.le_trans HB.out.size ((nV.out).alloc (nV.out).size _).size)));have N7:dn.flatMap (qd p)++[.int .i64 k,.int .i64 (c.toNat:Int),.int .i64 (a.toNat:Int),.int .i64 nz,.int .i64 ((k:Int)+(wd:Int))]=(dn++[k]).flatMap (qd p):=by
          rw[List.flatMap_append,List.flatMap_cons,List.flatMap_nil,List.append_nil,hIC.out,EA.out,<-HNZ.out,Int.natCast_add]
         rw[N7]at aJ;have lq:=ae aJ;clear aJ ax bu hG hx N7;obtain⟨a9,c9,rfl,_,_⟩:=aj lq.out;go_wp2_with fail
         go_roundg (p.length-(k+wd))
         case measure=>omega
         case rel=>exact⟨k+wd,f,dn++[k],by omega,by simp;omega,by simp;omega,by go_num,HG.out,by rw[List.length_append];exact lq.out,kh.out⟩
       ·have e7:¬c=7:=λh=>e78 (.inl h)
        have e8:¬c=8:=λh=>e78 (.inr h)
        clear e78;have b1:((c.toNat:Int)==1)=false:=Di e1;have b2:((c.toNat:Int)==2)=false:=Di e2;have b7:((c.toNat:Int)==7)=false:=Di e7;have b8:((c.toNat:Int)==8)=false:=Di e8;have mh:wd=1:=by rw[HWD.out];unfold Mx.wid;rw[if_neg e1,if_neg e2,if_neg (by rintro(h|h);exact e7 h;exact e8 h)]
        have EA:Hid (((Mx.oe p k:Nat):Int)=0):=ae (by unfold Mx.oe;rw[<-MU.out,if_neg (by rintro(h|h|h);exact e1 h;exact e7 h;exact e8 h)];rfl);have EN:Hid (Mx.mg p k=0):=ae (by unfold Mx.mg;rw[<-MU.out,if_neg e2,if_neg (by rintro(h|h);exact e7 h;exact e8 h)]);clear e1 e2 e7 e8 mh;obtain⟨av,cv,rfl,_,_⟩:=aj HO.out;go_wp2_with (at_builtin;refine wpList_append_own_at _ rfl _ _ 191 rfl w1.heap.size 195 i0 _ 5 40 Tryz.underlying191 HI0.out HZ0.out vR.out QN.out rfl (by decide) _ dn.length _ rfl (ah HO.out ?c0) ⟨wr.heap.size+1,0,none⟩ 1 1 [.int .i64 k,.int .i64 (c.toNat:Int),.int .i64 0,.int .i64 0,.int .i64 ((k:Int)+(wd:Int))] rfl rfl (aF _ _ (by first|rfl|simp) [_,_,_,_,_] _) ?c2 ?c3 ?c4 ?c5 ?_)
        case c0=>exact((ag wr (.cells #[.int .i64 k,.int .i64 (c.toNat:Int),.int .i64 0,.int .i64 0,.int .i64 ((k:Int)+(wd:Int))] 195))).alloc ((ag wr (.cells #[.int .i64 k,.int .i64 (c.toNat:Int),.int .i64 0,.int .i64 0,.int .i64 ((k:Int)+(wd:Int))] 195))).size _
        case c2=>first|exact⟨rfl,rfl,rfl,rfl,rfl⟩|exact⟨rfl,rfl,rfl,rfl⟩|(intro u hu;simp at hu;rcases hu with rfl|rfl|rfl|rfl|rfl<;>rfl)
        case c3=>unfold maxLen;omega
        case c4=>omega
        case c5=>have:=((ag wr (.cells #[.int .i64 k,.int .i64 (c.toNat:Int),.int .i64 0,.int .i64 0,.int .i64 ((k:Int)+(wd:Int))] 195))).size;simp at this|-;omega
        intro v9 w9 aJ ax _ bu;have hG:=dO aJ ax (by simpa using bu);have hx:w9.heap[wr.heap.size]?=some (.cells #[.int .i64 k,.int .i64 (c.toNat:Int),.int .i64 0,.int .i64 0,.int .i64 ((k:Int)+(wd:Int))] 195 (0,0)):=(hG.kept.block wr.heap.size (Nat.lt_of_lt_of_le (bo ((heap_alloc_new wr (.cells #[.int .i64 k,.int .i64 (c.toNat:Int),.int .i64 0,.int .i64 0,.int .i64 ((k:Int)+(wd:Int))] 195)))) (ag _ _).size) (λe=>by have:=HO.out.lt _ e;omega)).trans (((ag _ _).block wr.heap.size (bo ((heap_alloc_new wr (.cells #[.int .i64 k,.int .i64 (c.toNat:Int),.int .i64 0,.int .i64 0,.int .i64 ((k:Int)+(wd:Int))] 195))))).trans ((heap_alloc_new wr (.cells #[.int .i64 k,.int .i64 (c.toNat:Int),.int .i64 0,.int .i64 0,.int .i64 ((k:Int)+(wd:Int))] 195))));have x4:=oh hx;have kh:Hid (Below w1.heap.size w1 w9):=ae ((HB.out.trans ((((ag wr (.cells #[.int .i64 k,.int .i64 (c.toNat:Int),.int .i64 0,.int .i64 0,.int .i64 ((k:Int)+(wd:Int))] 195))).alloc ((ag wr (.cells #[.int .i64 k,.int .i64 (c.toNat:Int),.int .i64 0,.int .i64 0,.int .i64 ((k:Int)+(wd:Int))] 195))).size _).mono HB.out.size)).trans (hG.kept.toBelow (λk e=>(HO.out.lt k e).1) (Nat.le_trans HB.out.size (((ag wr (.cells #[.int .i64 k,.int .i64 (c.toNat:Int),.int .i64 0,.int .i64 0,.int .i64 ((k:Int)+(wd:Int))] 195))).alloc ((ag wr (.cells #[.int .i64 k,.int .i64 (c.toNat:Int),.int .i64 0,.int .i64 0,.int .i64 ((k:Int)+(wd:Int))] 195))).size _).size)));have N7:dn.flatMap (qd p)++[.int .i64 k,.int .i64 (c.toNat:Int),.int .i64 0,.int .i64 0,.int .i64 ((k:Int)+(wd:Int))]=(dn++[k]).flatMap (qd p):=by
         rw[List.flatMap_append,List.flatMap_cons,List.flatMap_nil,List.append_nil,hIC.out,EA.out,EN.out,Int.natCast_add]
        rw[N7]at aJ;have lq:=ae aJ;clear aJ ax bu hG hx N7;obtain⟨a9,c9,rfl,_,_⟩:=aj lq.out;go_wp2_with fail
        go_roundg (p.length-(k+wd))
        case measure=>omega
        case rel=>exact⟨k+wd,f,dn++[k],by omega,by simp;omega,by simp;omega,by go_num,HG.out,by rw[List.length_append];exact lq.out,kh.out⟩
    ·have HN:Hid (Mx.oa p=none):=ae (by rw[HC.out,Mx.Dh p f k hlt (.inr (by omega))];rfl)
     have mQ:(s.size:Int)<(k:Int)+(Mx.wid (p.getD k 0):Int):=by omega
     generalize Mx.wid (p.getD k 0)=wd at*;generalize p.getD k 0=c at*;go_wp2_with fail;refine bodyPost_ret (v:=.tuple #[.slice none 0 0,.bool false]) (by simp[results,Tryz.results97,go_sem]) rfl ?_;refine⟨b6.out.trans (HB.out.mono (by omega)),?_⟩;rw[<-HX.out,HN.out]
  ·have rM:¬(k:Int)<s.size:=by omega
   obtain rfl:k=p.length:=by omega
   have HN:Hid (Mx.oa p=some dn):=ae (by rw[HC.out,Mx.Ru];simp);obtain⟨av,cv,rfl,_,_⟩:=aj HO.out;have lu:=ae (HO.out.mono hws)
   cases dn with
   |nil=>
    go_wp2_with fail;refine bodyPost_ret (v:=.tuple #[.slice av 0 cv,.bool false]) (by simp[results,Tryz.results97,go_sem]) rfl ?_;refine⟨b6.out.trans (HB.out.mono (by omega)),?_⟩;rw[<-HX.out,HN.out];exact⟨_,rfl,lu.out⟩
   |cons a r=>
    have h0:(0:Int)<((r.length:Int)+1):=by omega
    go_wp2_with fail;refine bodyPost_ret (v:=.tuple #[.slice av (r.length+1) cv,.bool true]) (by simp[results,Tryz.results97,go_sem]) rfl ?_;refine⟨b6.out.trans (HB.out.mono (by omega)),?_⟩;rw[<-HX.out,HN.out];exact⟨_,rfl,lu.out⟩
theorem Rx(p:List UInt8):∀(l:List Nat)(i j:Nat)(hi:i<l.length),j<5->(l.flatMap (qd p))[i*5+j]?=(qd p l[i])[j]?
 |[],i,_,hi,_=>absurd hi (by simp)
 |a::r,0,j,_,hj=>by
  rw[List.flatMap_cons,List.getElem?_append_left (by show 0*5+j<5;omega)];simp
 |a::r,i+1,j,hi,hj=>by
  have hl:(qd p a).length=5:=rfl;rw[List.flatMap_cons,List.getElem?_append_right (by omega),hl,show(i+1)*5+j-5=i*5+j by omega,Rx p r i j (by grind) hj];rfl
def LM(W:World)(v:Value)(p:List UInt8)(l:List Nat):Prop:=∃gl cap cur,v=.slice (some ⟨gl,0,none⟩) l.length cap/\W.heap[gl]?=some (.cells cur 195 (0,0))/\∀i (hi:i<l.length) j,j<5->cur[i*5+j]?=(qd p l[i])[j]?
theorem LM.aeM{W:World}{base:Nat}{v:Value}{p:List UInt8}{l:List Nat}(h:W.ownsRow base 195 5 v l.length (l.flatMap (qd p)))(hl:l≠[]):LM W v p l:=by
 obtain⟨g,cap,cur,rfl,hg,hc⟩:=tT h (List.length_pos_iff.2 hl);refine⟨g,cap,cur,rfl,hg,λi hi j hj=>?_⟩
 grind[Nat.mul_le_mul_right,Rx]
def N8(l:List Nat)(q:Nat):Int:=match l.findIdx? (· ==q)with
 |none=>-1
 |some j=>j
theorem Zk(l:List Nat)(q:Nat)(h:∀i (hi:i<l.length),l[i]≠q):N8 l q=-1:=by
 unfold N8
 rw[List.findIdx?_eq_none_iff.2 (λx hx=>by
  obtain⟨i,hi,rfl⟩:=List.getElem_of_mem hx
  grind)]
theorem Zl(l:List Nat)(q i:Nat)(hi:i<l.length)(he:l[i]=q)(h:∀j (hj:j<l.length),j<i->l[j]≠q):N8 l q=i:=by
 unfold N8;rw[List.findIdx?_eq_some_iff_getElem.2 ⟨hi,by grind,λj hj=>by grind⟩]
theorem kG(W:World)(v:Value)(p:List UInt8)(l:List Nat)(q:Nat)(h:LM W v p l)(hl:l.length<=1000000000):
  Calls Tryz.prog 100 #[v,.int .i64 q] W λe w'=>e=.returned (.int .i64 (N8 l q))/\w'=W:=by
 obtain⟨gl,cap,cur,rfl,hg,hc⟩:=h;have HG:=ae hg;have HC:=ae hc;clear hg hc;go_enter Tryz.func100,Tryz.ntmps100;go_wp2
 go_loop [5] (λv5=>∃(k:Nat),k<=l.length/\v5=.int .i64 k/\∀j (hj:j<l.length),j<k->l[j]≠q) (λv5=>l.length-(intOf v5).toNat)
 case atStart=>grind
 case round=>
  obtain⟨k,hk,rfl,hno⟩:=hrel;have HN:=ae hno;clear hno
  by_cases hlt:k<l.length
  ·have rM:(k:Int)<l.length:=by omega
   have jf:(0:Int)<=k:=by omega
   have x0:W.cell? ⟨gl,k*5,none⟩=some (.int .i64 (l[k])):=(Lib.cell_of_heap HG.out (k*5)).trans (HC.out k hlt 0 (by omega));obtain⟨u,hu⟩:∃u,u=l[k]:=⟨_,rfl⟩;rw[<-hu]at x0;have HU:=ae hu;clear hu
   by_cases he:u=q
   ·have hb:((u)==(q:Int))=true:=by rw[he];simp
    have HE:=ae he;clear he;go_wp2;go_ret;exact⟨by rw[Zl l q k hlt (HU.out.symm.trans HE.out) HN.out];rfl,rfl⟩
   ·have hb:((u)==(q:Int))=false:=by rw[beq_eq_false_iff_ne];omega
    have HE:=ae he;clear he;go_wp2;refine⟨⟨k+1,by omega,by go_num,λj hj N9=>?_⟩,by grind[intOf]⟩
    by_cases e:j=k
    ·subst e;rw[<-HU.out];grind
    ·exact HN.out j hj (by omega)
  ·have rM:¬(k:Int)<l.length:=by omega
   go_wp2;go_ret;exact⟨by rw[Zk l q (λi hi=>HN.out i hi (by omega))];rfl,rfl⟩
namespace Mx
def ij(c:UInt8):Nat:=if c=2\/c=5 then 1 else if c=3\/c=4 then 2 else 0
def kN(c:UInt8):Nat:=if c=0\/c=1\/c=2 then 0 else 1
theorem Gs{s:Shape}(h:shapeOf c=some s):ij c=s.takes/\kN c=s.qJ:=by
 unfold shapeOf at h;split at h
 ·rename_i e;subst e;cases h;decide
 ·split at h
  ·rename_i e;subst e;cases h;decide
  ·split at h
   ·rename_i e;subst e;cases h;decide
   ·split at h
    ·rename_i e;cases h;rcases e with e|e<;>subst e<;>decide
    ·split at h
     ·rename_i e;subst e;cases h;decide
     ·split at h
      ·rename_i e;subst e;cases h;decide
      ·split at h
       ·rename_i e;cases h;rcases e with e|e<;>subst e<;>decide
       ·cases h
end Mx
def Eu:Array Value:=#[.int .i64 0,.int .i64 0,.int .i64 1,.int .i64 2,.int .i64 2,.int .i64 1,.int .i64 0,.int .i64 0,.int .i64 0]
def MV:Array Value:=#[.int .i64 0,.int .i64 0,.int .i64 0,.int .i64 1,.int .i64 1,.int .i64 1,.int .i64 1,.int .i64 1,.int .i64 1]
theorem Ry(h:c.toNat<=8):Eu[c.toNat]?=some (.int .i64 (Mx.ij c:Nat)):=by
 have:∀n,n<=8->Eu[(UInt8.ofNat n).toNat]?=some (.int .i64 (Mx.ij (UInt8.ofNat n))):=by
  intro n hn;rcases n with _|_|_|_|_|_|_|_|_|n
  iterate 9 rfl
  omega
 have h2:=this _ h
 simp_all
theorem Zm(h:c.toNat<=8):MV[c.toNat]?=some (.int .i64 (Mx.kN c:Nat)):=by
 have:∀n,n<=8->MV[(UInt8.ofNat n).toNat]?=some (.int .i64 (Mx.kN (UInt8.ofNat n))):=by
  intro n hn;rcases n with _|_|_|_|_|_|_|_|_|n
  iterate 9 rfl
  omega
 have h2:=this _ h
 simp_all
theorem Dj(W:World)(c:UInt8)(hc:c.toNat<=8):
  Calls Tryz.prog 98 #[.int .i64 (c.toNat:Int)] W λe w'=>e=.returned (.int .i64 (Mx.ij c:Nat))/\Below W.heap.size W w':=by
 have x0:(W.alloc (.cells Eu 3)).cell? ⟨W.heap.size,c.toNat,none⟩=some (.int .i64 (Mx.ij c)):=(Lib.cell_of_heap (heap_alloc_new W _) _).trans (Ry hc);have h9:(c.toNat:Int)<9:=by omega
 have h0:(0:Int)<=c.toNat:=by omega
 unfold Eu at x0;go_enter Tryz.func98,Tryz.ntmps98;go_wp2;go_ret;exact⟨rfl,ag _ _⟩
theorem Rz(W:World)(c:UInt8)(hc:c.toNat<=8):
  Calls Tryz.prog 99 #[.int .i64 (c.toNat:Int)] W λe w'=>e=.returned (.int .i64 (Mx.kN c:Nat))/\Below W.heap.size W w':=by
 have x0:(W.alloc (.cells MV 3)).cell? ⟨W.heap.size,c.toNat,none⟩=some (.int .i64 (Mx.kN c)):=(Lib.cell_of_heap (heap_alloc_new W _) _).trans (Zm hc);have h9:(c.toNat:Int)<9:=by omega
 have h0:(0:Int)<=c.toNat:=by omega
 unfold MV at x0;go_enter Tryz.func99,Tryz.ntmps99;go_wp2;go_ret;exact⟨rfl,ag _ _⟩
theorem Zn(w:World)(n:Int):Calls Tryz.prog 52 #[.int .i64 n] w λe w'=>e=.returned (.int .i64 n)/\w'=w:=by
 go_enter Tryz.func52,Tryz.ntmps52;go_wp2;go_ret;simp
structure BkL(w:World)(al:Option Addr)(us:List (Option Addr×Nat×Nat)):Prop where
 row:∀i (hi:i<us.length),∃g,al=some ⟨g,0,none⟩/\w.cell? ⟨g,i,none⟩=some (.slice us[i].1 us[i].2.1 us[i].2.2)
 full:∀i (hi:i<us.length) j,j<us[i].2.1->∃g o,us[i].1=some ⟨g,o,none⟩/\w.cell? ⟨g,o+j,none⟩=some (.int .i64 (-7000-((i/4:Nat):Int)))
 small:∀i (hi:i<us.length),us[i].2.1<=1000000000000000000
theorem Oa(w:World)(kb cl:Nat)(al:Option Addr)(v1 v2:Value)(us:List (Option Addr×Nat×Nat))(hb:w.heap[kb]?=some (.cells #[.slice al us.length cl,v1,v2] 26 (0,0)))(h:BkL w al us)(hu:us.length<=1000000000000000000):
  Calls Tryz.prog 15 #[.pointer (some ⟨kb,0,none⟩)] w λe w'=>e=.returned (.bool true)/\w'=w:=by
 have c0:=dt hb;have H:=ae h;clear h hb;go_enter Tryz.func15,Tryz.ntmps15;go_wp2
 go_loop [3,4] (λv3 _=>∃i:Nat,i<=us.length/\v3=.int .i64 i) (λv3 _=>us.length-(intOf v3).toNat)
 case atStart=>grind
 case round=>
  obtain⟨i,hi,rfl⟩:=hrel
  by_cases hlt:i<us.length
  ·have J6:(i:Int)<us.length:=by omega
   have dl:(0:Int)<=i:=by omega
   obtain⟨g,ha,hc⟩:=H.out.row i hlt;have HF:=ae (H.out.full i hlt);have hsm:=H.out.small i hlt;have hq:(i:Int).tdiv 4=((i/4:Nat)):=by rw[Int.tdiv_eq_ediv_of_nonneg (by omega)];rfl
   have J5:IntKind.i64.wrap ((i:Int).tdiv 4)=((i/4:Nat)):=by rw[hq,IntWalk.i64_in _ (by omega)]
   have Zo:(i)/4=((i/4:Nat):Int):=rfl;subst ha;obtain⟨u,hu'⟩:∃u,u=us[i]:=⟨_,rfl⟩;rw[<-hu']at hc HF hsm;obtain⟨a,n,c⟩:=u;simp only at hc HF hsm;obtain⟨q,hqq⟩:∃q,q=i/4:=⟨_,rfl⟩;rw[<-hqq]at hq J5 Zo HF;have hq9:q<=1000000000000000000:=by omega
   clear hu' hqq;go_wp2
   go_loop [4] (λv4=>∃j:Nat,j<=n/\v4=.int .i64 j) (λv4=>n-(intOf v4).toNat)
   case atStart=>exact⟨0,by omega,rfl⟩
   case round=>
    obtain⟨j,hj,rfl⟩:=hrel
    by_cases iP:j<n
    ·have Kv:(j:Int)<n:=by omega
     have zg:(0:Int)<=j:=by omega
     obtain⟨g2,o2,e2,lQ⟩:=HF.out j iP;subst e2;have hne:((-7000)-(q) !=-7000-(q:Int))=false:=by simp
     go_wp2;exact⟨⟨j+1,by omega,by go_num⟩,by simp[intOf];omega⟩
    ·have Kv:¬(j:Int)<n:=by omega
     go_wp2;exact⟨⟨i+1,by omega,by go_num⟩,by simp[intOf];omega⟩
  ·have J6:¬(i:Int)<us.length:=by omega
   go_wp2;go_ret;simp
