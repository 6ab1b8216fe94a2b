/- The sum of 32 bits, bit by bit: a row of at most 32 turned bits changes it; nothing of the program is asked here. -/
import Derived.Test.YtdjaiolfdbamcaaGreatDoorZWCFJ
namespace Go.Proofs.YtdjaiolfdbamcaaGreatDoor
variable {L N k k2 n r:Nat}{b:Bool}{c:List UInt8}{l l':List Hx.Tok}{vs:List az}{gs:List MG}
section
namespace Kx
def cb(r:Nat):Nat:=if r%2=1 then(r/2)^^^3988292384 else r/2
def Xq:Nat->Nat->Nat
 |0,r=>r
 |n+1,r=>Xq n (cb r)
def bn(b:Bool):Nat:=if b then 1 else 0
def st(r:Nat)(b:Bool):Nat:=cb (r^^^bn b)
def dN:Nat->Nat->List Bool
 |0,_=>[]
 |n+1,x=>(x%2==1)::dN n (x/2)
def bitsOf(l:List UInt8):List Bool:=l.flatMap λb=>dN 8 b.toNat
theorem Gn(a b:Nat):(a^^^b)/2=a/2^^^b/2:=by
 have h:=Nat.shiftRight_xor_distrib (a:=a) (b:=b) (i:=1)
 grind[Nat.shiftRight_eq_div_pow]
theorem MR(a b:Nat):(a^^^b)%2=(a%2+b%2)%2:=by
 have h:=Nat.testBit_xor a b 0
 grind
theorem aff(a b:Nat):cb (a^^^b)=cb a^^^cb b:=by
 unfold cb;have hl:=MR a b;rw[Gn]
 grind
theorem adp(hr:r<4294967296):st r b<4294967296:=by
 have hx:r^^^bn b<4294967296:=Nat.xor_lt_two_pow (n:=32) hr (by cases b<;>decide);unfold st cb;generalize r^^^bn b=y at*;split
 ·exact Nat.xor_lt_two_pow (n:=32) (show y/2<2^32 by omega) (by decide)
 ·omega
theorem rL:∀(l:List Bool)(r:Nat),r<4294967296->l.foldl st r<4294967296
 |[],_,h=>h
 |_::l,_,h=>rL l _ (adp h)
theorem OB:∀n x,(dN n x).length=n
 |0,_=>rfl
 |n+1,x=>by simp[dN,OB n]
theorem Z1(x:Nat):cb (2*x)=x:=by
 simp_all[cb]
theorem OC(B:Nat):B=bn (B%2==1)^^^(2*(B/2)):=by
 apply Nat.eq_of_testBit_eq;intro i;rw[Nat.testBit_xor]
 cases i with
 |zero=>
  grind[Nat.mod_two_eq_zero_or_one,bn]
 |succ i=>
  rw[Nat.testBit_succ,Nat.testBit_succ,Nat.testBit_succ];have h1:bn (B%2==1)/2=0:=by unfold bn;split<;>rfl
  grind
theorem DI:∀(n r B:Nat),B<2^n->(dN n B).foldl st r=Xq n (r^^^B)
 |0,r,B,h=>by
  grind[dN,Xq]
 |n+1,r,B,h=>by
  rw[dN,List.foldl_cons,DI n _ _ (by omega),Xq];congr 1
  conv=>rhs;rw[OC B,<-Nat.xor_assoc,aff,Z1]
  rfl
theorem Df:∀(n m x:Nat),dN (n+m) x=dN n x++dN m (x/2^n)
 |0,m,x=>by simp[dN]
 |n+1,m,x=>by
  rw[show n+1+m=(n+m)+1 by omega,dN,Df n m (x/2),dN,List.cons_append,Nat.div_div_eq_div_mul,Nat.pow_succ,Nat.mul_comm 2]
end Kx
namespace Kx
theorem Sz(op:Nat->Nat->Nat)(g:BinOp)(hg:∀a b:Nat,a<4294967296->b<4294967296->op a b<4294967296)(hb:∀x y:Int,bits g .u32 x y=IntKind.u32.wrap ((op (BitVec.ofInt 32 x).toNat (BitVec.ofInt 32 y).toNat:Nat):Int))(a b:Nat)(ha:a<4294967296)(KX:b<4294967296):bits g .u32 (a:Int) (b:Int)=((op a b:Nat):Int):=by
 have h1:(BitVec.ofInt 32 (a)).toNat=a:=by
  rw[BitVec.ofInt_natCast,BitVec.toNat_ofNat];exact Nat.mod_eq_of_lt (by omega)
 have h2:(BitVec.ofInt 32 (b)).toNat=b:=by
  rw[BitVec.ofInt_natCast,BitVec.toNat_ofNat];exact Nat.mod_eq_of_lt (by omega)
 have hw:∀n:Int,IntKind.u32.wrap n=n%4294967296:=λn=>by simp[IntKind.wrap,IntKind.bits,IntKind.signed]
 grind
theorem Gp(a b:Nat)(ha:a<4294967296)(hb:b<4294967296):bits .xor .u32 (a:Int) (b:Int)=((a^^^b:Nat):Int):=
 Sz (· ^^^·) .xor (λ_ _ h1 h2=>Nat.xor_lt_two_pow (n:=32) h1 h2) (λx y=>by rw[<-BitVec.toNat_xor];rfl) a b ha hb
theorem Rs(a b:Nat)(ha:a<4294967296)(hb:b<4294967296):bits .and .u32 (a:Int) (b:Int)=((a&&&b:Nat):Int):=
 Sz (· &&&·) .and (λ_ _ h1 _=>Nat.lt_of_le_of_lt Nat.and_le_left h1) (λx y=>by rw[<-BitVec.toNat_and];rfl) a b ha hb
theorem ajE(hr:r<4294967296):cb r<4294967296:=by
 have:=adp (b:=false) hr
 grind[st,bn]
theorem Hc:∀n r,Xq (n+1) r=cb (Xq n r)
 |0,_=>rfl
 |n+1,r=>by rw[Xq,Hc n (cb r),Xq]
theorem SA:∀n r,r<4294967296->Xq n r<4294967296
 |0,_,h=>h
 |n+1,_,h=>SA n _ (ajE h)
theorem KY(y:Nat)(h:y<4294967296):Cx.oN (y:Int)=((cb y:Nat):Int):=by
 unfold Cx.oN cb;have h1:bits BinOp.and IntKind.u32 (y) 1=((y%2:Nat)):=by
  rw[<-Nat.and_one_is_mod];exact Rs y 1 h (by decide)
 rw[h1];rcases Nat.mod_two_eq_zero_or_one y with hy|hy
 ·grind
 ·rw[hy,if_pos (by decide),if_pos rfl]
  have:=Gp (y/2) 3988292384 (by omega) (by decide)
  grind
theorem uT:∀(n y:Nat),y<4294967296->Cx.lG n (y:Int)=((Xq n y:Nat):Int)
 |0,_,_=>rfl
 |n+1,y,h=>by rw[Cx.lG,uT n y h,KY _ (SA n y h),Hc]
theorem Hd(y:Nat)(b:UInt8)(h:y<4294967296):Cx.sf (y:Int) b=(((dN 8 b.toNat).foldl st y:Nat):Int):=by
 have hb:=b.toNat_lt;unfold Cx.sf;rw[show(b.toNat)%4294967296=((b.toNat):Int) by omega,Gp y b.toNat h (by omega),uT 8 _ (Nat.xor_lt_two_pow (n:=32) h (by omega)),DI 8 y b.toNat hb]
theorem Na:∀(l:List UInt8)(y:Nat),y<4294967296->l.foldl Cx.sf (y:Int)=(((bitsOf l).foldl st y:Nat):Int)
 |[],_,_=>rfl
 |b::l,y,h=>by
  rw[List.foldl_cons,Hd y b h,Na l _ (rL _ _ h)];rw[show bitsOf (b::l)=dN 8 b.toNat++bitsOf l from rfl,List.foldl_append]
def reg(l:List UInt8):Nat:=(bitsOf l).foldl st 4294967295
theorem MS(l:List UInt8):Cx.Dg l=((reg l^^^4294967295:Nat):Int):=by
 unfold Cx.Dg Cx.nc;have h:=Na l 4294967295 (by decide);rw[show((4294967295:Nat):Int)=4294967295 from rfl]at h;rw[h,show IntKind.u32.max=((4294967295:Nat))from rfl,Gp _ _ (by decide) (rL _ _ (by decide)),Nat.xor_comm];rfl
theorem zp(a b:List UInt8):bitsOf (a++b)=bitsOf a++bitsOf b:=by simp[bitsOf]
end Kx
namespace Mx
def qY(n:Int):List UInt8:=[UInt8.ofNat (n/1%256).toNat,UInt8.ofNat (n/256%256).toNat]
def oO(p:Int×Int):List UInt8:=qY p.1++qY p.2
def qZ(p:List UInt8×List UInt8):List UInt8:=UInt8.ofNat p.1.length::(p.1++(qY p.2.length++p.2))
def xL(im:Zd):List UInt8:=hd++(UInt8.ofNat im.vars.length::(im.vars.flatMap oO++(UInt8.ofNat im.leaves.length::UInt8.ofNat im.first::im.leaves.flatMap qZ)))
theorem ofNat_toNat(h:n<256):(UInt8.ofNat n).toNat=n:=by simp_all
theorem wJ(n:Int)(h1:-32768<=n)(h2:n<65536):two (UInt8.ofNat (n/1%256).toNat) (UInt8.ofNat (n/256%256).toNat)=(n%65536).toNat:=by
 grind[ofNat_toNat,two]
theorem Z2(n:Int)(h1:-32768<=n)(h2:n<32768):Et (n%65536).toNat=n:=by
 grind[Et]
structure Zd.Room(im:Zd):Prop where
 vars:im.vars.length<=3
 leaves:im.leaves.length<=12
 first:im.first<im.leaves.length
 num:∀p∈im.vars,-32768<=p.1/\p.1<32768/\-32768<=p.2/\p.2<32768
 leaf:∀p∈im.leaves,p.1.length<=8/\p.2.length<65536
end Mx
namespace Mx
def encI(im:Zd):List UInt8:=xL im++Cx.fd (xL im)
theorem Nb(l:List UInt8):(Cx.fd l).length=4:=rfl
theorem SB(im:Zd):(encI im).length=(xL im).length+4:=by unfold encI;rw[List.length_append,Nb]
end Mx
namespace Mx
inductive ra(p:List UInt8)(L N:Nat):Nat->Aw->Nat->Aw->Prop
 |refl (k:Nat) (a:Aw):ra p L N k a k a
 |step {k k1 k2:Nat} {a a1 a2:Aw} (hk:k<p.length) (h:jV p L N k a=some (k1,a1)) (f:ra p L N k1 a1 k2 a2):ra p L N k a k2 a2
theorem ra.trans{p:List UInt8}{k1:Nat}{a a1 a2:Aw}(h:ra p L N k a k1 a1)(g:ra p L N k1 a1 k2 a2):ra p L N k a k2 a2:=by
 induction h<;>grind[refl,step]
theorem ra.right{p:List UInt8}{a a2:Aw}(h:ra p L N k a k2 a2):∀f,k2=p.length->a2=[]->p.length<f+k->qL p L N f k a=true:=by
 induction h with
 |refl k a=>
  intro f e1 e2 hf;subst e1 e2
  cases f<;>grind[qL]
 |step hk h _ ih=>
  intro f e1 e2 hf;have hg:=OD h
  cases f with
  |zero=>omega
  |succ f=>
   simp only [qL]
   grind
theorem KZ{p:List UInt8}(h:ra p L N 0 [(0,0)] p.length []):isRight p L N=true:=h.right _ rfl rfl (by omega)
theorem EI(k c:Nat):Aw.get [(k,c)] k=some c:=by simp[Aw.get]
theorem EJ(k c:Nat):Aw.del [(k,c)] k=[]:=by simp[Aw.del]
theorem nf{p:List UInt8}{c:Nat}{s:Shape}(hs:shapeOf (p.getD k 0)=some s)(hl:k+1+s.width<=p.length)(hc:s.takes<=c)(hn:named p L N k=true)(he:s.ends=false)(h2:p.getD k 0≠2)(QL:c-s.takes+s.qJ<=32):
  jV p L N k [(k,c)]=some (k+1+s.width,[(k+1+s.width,c-s.takes+s.qJ)]):=by
 simp_all[Aw.get,Aw.set,Aw.del,if_neg,K0,jV]
theorem ub{pre post:List UInt8}(i:Nat)(hi:i<c.length):(pre++c++post).getD (pre.length+i) 0=c[i]:=by
 grind
inductive GC(N:Nat):Nat->List UInt8->Prop
 |yes:GC N 1 [6]
 |ask {b wh lo hi:UInt8} (hb:b=7\/b=8) (hw:wh.toNat<N):GC N 1 [b,wh,lo,hi]
 |turn {n:Nat} {c:List UInt8} (h:GC N n c):GC N n (c++[5])
 |two {n m:Nat} {c d:List UInt8} {b:UInt8} (hb:b=3\/b=4) (h:GC N n c) (g:GC N m d):GC N (max n (m+1)) (c++d++[b])
theorem GC.pos(h:GC N n c):1<=n:=by
 induction h<;>omega
theorem iJ{p:List UInt8}(h1:p.getD k 0≠1)(h7:p.getD k 0≠7)(h8:p.getD k 0≠8):named p L N k=true:=by
 simp_all[named]
theorem K2(h:GC N n c):∀(pre post:List UInt8)(d:Nat),d+n<=32->ra (pre++c++post) L N pre.length [(pre.length,d)] (pre.length+c.length) [(pre.length+c.length,d+1)]:=by
 induction h with
 |yes=>
  intro pre post d hd;have h0:(pre++[6]++post).getD pre.length 0=6:=ub 0 (by simp);refine .step (by simp) (nf (by rw[h0];rfl) (by simp) (by simp) (iJ (by simp) (by simp) (by simp)) rfl (by simp) (by omega)) ?_;exact .refl _ _
 |@ask b wh lo hi hb hw=>
  intro pre post d hd;have h0:(pre++[b,wh,lo,hi]++post).getD pre.length 0=b:=ub 0 (by simp);have h1:(pre++[b,wh,lo,hi]++post).getD (pre.length+1) 0=wh:=ub 1 (by simp);refine .step (by simp) (nf (by rw[h0];rcases hb with rfl|rfl<;>rfl) (by grind) (by simp) ?_ rfl (by grind) (by omega)) ?_
  ·unfold named
   rw[h0,h1,if_neg (by grind),if_pos hb]
   grind
  ·exact .refl _ _
 |@turn n c h ih=>
  intro pre post d hd;have hp:=h.pos;have f1:=ih pre ([5]++post) d hd;have e1:pre++c++([5]++post)=pre++(c++[5])++post:=by simp
  rw[e1]at f1;refine f1.trans ?_;have h0:(pre++(c++[5])++post).getD (pre.length+c.length) 0=5:=by
   rw[ub c.length (by simp)];simp
  refine .step (by simp) (nf (by rw[h0];rfl) (by grind) (by simp) (iJ (by simp) (by simp) (by simp)) rfl (by simp) (by grind)) ?_;have e2:pre.length+c.length+1+0=pre.length+(c++[5]).length:=by simp;omega
  show ra _ _ _ (pre.length+c.length+1+0) [(pre.length+c.length+1+0,d+1-1+1)] _ _;rw[e2];exact .refl _ _
 |@two n m c e b hb h g ih ig=>
  intro pre post d hd;have hp:=h.pos;have f1:=ih pre (e++[b]++post) d (by omega);have e1:pre++c++(e++[b]++post)=pre++(c++e++[b])++post:=by simp
  rw[e1]at f1;refine f1.trans ?_;have f2:=ig (pre++c) ([b]++post) (d+1) (by omega);have e2:pre++c++e++([b]++post)=pre++(c++e++[b])++post:=by simp
  rw[e2,List.length_append]at f2;refine f2.trans ?_;have h0:(pre++(c++e++[b])++post).getD (pre.length+c.length+e.length) 0=b:=by
   rw[Nat.add_assoc,ub (c.length+e.length) (by simp)];simp
  refine .step (by grind) (nf (by rw[h0];rcases hb with rfl|rfl<;>rfl) (by grind) (by simp) (iJ (by grind) (by grind) (by grind)) rfl (by grind) (by grind)) ?_;have e3:pre.length+c.length+e.length+1+0=pre.length+(c++e++[b]).length:=by simp;omega
  show ra _ _ _ (pre.length+c.length+e.length+1+0) [(pre.length+c.length+e.length+1+0,d+1+1-2+1)] _ _;rw[e3];exact .refl _ _
def EC(L:Nat)(e:List UInt8):Prop:=e=[0]\/∃l:UInt8,e=[1,l]/\l.toNat<L
inductive RC(L N:Nat):List UInt8->Prop
 |mk {n:Nat} {c e:List UInt8} {lo hi:UInt8} (h:GC N n c) (hn:n<=32) (he:EC L e) (hl:Mx.two lo hi=e.length):RC L N (c++([2,lo,hi]++e))
theorem SC{r:List UInt8}(h:RC L N r)(pre post:List UInt8):ra (pre++r++post) L N pre.length [(pre.length,0)] (pre.length+r.length) [(pre.length+r.length,0)]:=by
 obtain⟨h,hn,he,hl⟩:=h;rename_i n c e lo hi;have hp:=h.pos;have f1:=K2 (L:=L) h pre ([2,lo,hi]++e++post) 0 (by omega);have e1:pre++c++([2,lo,hi]++e++post)=pre++(c++([2,lo,hi]++e))++post:=by simp
 rw[e1]at f1;refine f1.trans ?_;obtain⟨p,hpd⟩:∃p,p=pre++(c++([2,lo,hi]++e))++post:=⟨_,rfl⟩;have bu:∀i,i<([2,lo,hi]++e).length->p.getD (pre.length+c.length+i) 0=([2,lo,hi]++e).getD i 0:=by
  intro i qe;rw[hpd,Nat.add_assoc,ub (c:=c++([2,lo,hi]++e)) (c.length+i) (by simp at qe|-;omega),List.getElem_append_right (by omega),List.getD_eq_getElem?_getD,List.getElem?_eq_getElem qe];simp
 have hlen:pre.length+c.length+3+e.length<=p.length:=by rw[hpd];simp;omega
 rw[<-hpd];clear hpd e1 f1;have g0:p.getD (pre.length+c.length) 0=2:=bu 0 (by simp);have g1:p.getD (pre.length+c.length+1) 0=lo:=bu 1 (by simp);have g2:p.getD (pre.length+c.length+2) 0=hi:=bu 2 (by simp);have g3:∀i,i<e.length->p.getD (pre.length+c.length+3+i) 0=e.getD i 0:=by
  intro i qe;have:=bu (3+i) (by simp;omega);rw[Nat.add_assoc,this,List.getD_eq_getElem?_getD,List.getD_eq_getElem?_getD,List.getElem?_append_right (by simp)];simp
 have hk:pre.length+(c++([2,lo,hi]++e)).length=pre.length+c.length+3+e.length:=by simp;omega
 rw[hk];clear bu hk;generalize pre.length+c.length=k at*;have he0:0<e.length:=by
  rcases he with rfl|⟨l,rfl,_⟩<;>simp
 refine .step (k1:=k+3) (a1:=[(k+3,0),(k+3+e.length,0)]) (by omega) ?_ ?_
 ·unfold jV
  rw[g0,EI];have hs:shapeOf 2=some ⟨2,1,0,false⟩:=rfl;rw[hs];simp only;rw[if_neg (by rw[iJ (by rw[g0];decide) (by rw[g0];decide) (by rw[g0];decide)];simp;omega),if_neg (by decide),if_pos trivial,EJ,g1,g2,hl];have hne:(k+3==k+3+e.length)=false:=beq_eq_false_iff_ne.2 (by omega);have my:(k+3+e.length !=k+3)=true:=bne_iff_ne.2 (by omega);simp[K0,Aw.get,Aw.set,Aw.del,List.lookup,hne,show k+1+2=k+3 by omega,my]
 ·have aeB:Aw.del [(k+3,0),(k+3+e.length,0)] (k+3)=[(k+3+e.length,0)]:=by
   unfold Aw.del;have hq:(k+3+e.length !=k+3)=true:=bne_iff_ne.2 (by omega);simp only [List.filter,bne_self_eq_false,hq]
  rcases he with rfl|⟨l,rfl,hlt⟩
  ·have q0:p.getD (k+3) 0=0:=g3 0 (by simp)
   refine .step (by simp at hlen;omega) (k1:=k+3+1) (a1:=[(k+3+1,0)]) ?_ (.refl _ _);unfold jV;rw[q0];have hs:shapeOf 0=some ⟨0,0,0,true⟩:=rfl;rw[hs,show Aw.get [(k+3,0),(k+3+[(0:UInt8)].length,0)] (k+3)=some 0 by simp[Aw.get]];simp only;rw[if_neg (by rw[iJ (by rw[q0];decide) (by rw[q0];decide) (by rw[q0];decide)];simp at hlen|-;omega),if_pos trivial,aeB];rfl
  ·have q0:p.getD (k+3) 0=1:=g3 0 (by simp)
   have q1:p.getD (k+3+1) 0=l:=g3 1 (by simp);refine .step (by simp at hlen;omega) (k1:=k+3+2) (a1:=[(k+3+2,0)]) ?_ (.refl _ _);unfold jV;rw[q0];have hs:shapeOf 1=some ⟨1,0,0,true⟩:=rfl;rw[hs,show Aw.get [(k+3,0),(k+3+[(1:UInt8),l].length,0)] (k+3)=some 0 by simp[Aw.get]];simp only
   rw[if_neg (by
    have hn:named p L N (k+3)=true:=by
     unfold named;rw[if_pos q0,q1];simpa using hlt
    rw[hn];simp at hlen|-;omega),if_pos trivial,aeB]
   rfl
theorem DJ:∀(rs:List (List UInt8)),(∀r∈rs,RC L N r)->∀(pre post:List UInt8),ra (pre++rs.flatten++post) L N pre.length [(pre.length,0)] (pre.length+rs.flatten.length) [(pre.length+rs.flatten.length,0)]
 |[],_,pre,post=>.refl _ _
 |r::rs,h,pre,post=>by
  have f1:=SC (h r (by simp)) pre (rs.flatten++post);have f2:=DJ rs (λx hx=>h x (by simp[hx])) (pre++r) post;rw[List.length_append]at f2;have e1:pre++r++(rs.flatten++post)=pre++(r::rs).flatten++post:=by simp
  have e2:pre++r++rs.flatten++post=pre++(r::rs).flatten++post:=by simp
  have e3:pre.length+r.length+rs.flatten.length=pre.length+(r::rs).flatten.length:=by simp;omega
  rw[e1]at f1;rw[e2,e3]at f2;exact f1.trans f2
theorem K4(rs:List (List UInt8))(h:∀r∈rs,RC L N r):isRight (rs.flatten++[0]) L N=true:=by
 refine KZ ?_;have f:=DJ rs h [] [0];simp only [List.nil_append,List.length_nil,Nat.zero_add]at f;refine f.trans ?_;have h0:(rs.flatten++[0]).getD rs.flatten.length 0=(0:UInt8):=by simp
 refine .step (by simp) (k1:=(rs.flatten++[0]).length) (a1:=[]) ?_ (.refl _ _);unfold jV;rw[h0,EI];have hs:shapeOf 0=some ⟨0,0,0,true⟩:=rfl;rw[hs];simp only;rw[if_neg (by rw[iJ (by rw[h0];decide) (by rw[h0];decide) (by rw[h0];decide)];simp),if_pos trivial,EJ];simp
end Mx
end
section
open Hx
def need:G->Nat
 | .or l r=>max (need l) (need r+1)
 | .and l r=>max (need l) (need r+1)
 | .not g=>need g
 | .group _ g=>need g
 | .gZ=>1
 | .atom _ _ _ _ _=>1
theorem SD{g:G}(h:jG L l g l'):need g<=2*nest g+(if L=0 then 1 else if L<=2 then 2 else 3):=by
 induction h<;>simp[need,nest]at*<;>omega
def RowsIn(ms:List MA):Prop:=∀m∈ms,∀r∈m.rows,∃l l',jG 4 l r.g l'
theorem SE{rs:List bD}(h:oP l rs l'):∀r∈rs,∃l l',jG 4 l r.g l':=by
 induction h with
 |nil=>simp
 |snoc h k ih=>
  intro r hr;rcases List.mem_append.1 hr with hr|hr
  ·grind
  ·obtain rfl:=List.mem_singleton.1 hr
   obtain⟨l1,l2,_,_,hd,_⟩:=k
   grind
theorem ajF{o:Int}{df:Bool}{d:Nat}{ms:List MA}(h:MD b l o df d n ms l'):RowsIn ms:=by
 induction h with
 |none=>intro m hm;cases hm
 |dear _ _ _ ih ik=>
  intro m hm;rcases List.mem_append.1 hm with hm|hm
  ·exact ih m hm
  ·exact ik m hm
 |more _ _ _ _ ih ik=>
  intro m hm;rcases List.mem_append.1 hm with hm|hm
  ·exact ih m hm
  ·exact ik m hm
 |mode _ _ _ hr _ _ _ ih=>
  intro m hm;rcases List.mem_cons.1 hm with rfl|hm
  ·exact SE hr
  ·exact ih m hm
def jo(vs:List az)(ms:List MA):Mx.Zd:=⟨Cx.eb vs,(Cx.leaves ms).map λi=>((Cx.nameOf ms i).data.toList,Cx.program vs ms i),Cx.numberOf ms 0⟩
theorem He(vs:List az)(ms:List MA):Cx.fF vs ms=Mx.encI (jo vs ms):=by
 have hB:Cx.lW vs ms=Mx.xL (jo vs ms):=by
  have h1:∀l:List Nat,((l.map (Cx.i5 vs ms)).flatMap Cx.eX)=(l.map λi=>((Cx.nameOf ms i).data.toList,Cx.program vs ms i)).flatMap Mx.qZ:=by
   intro l
   induction l with
   |nil=>rfl
   |cons a t ih=>
    simp only [List.map_cons,List.flatMap_cons,ih];congr 1;simp only [Cx.eX,Cx.i5,Mx.qZ,List.append_assoc];rfl
  have h2:∀l:List (Int×Int),l.flatMap Cx.ez=l.flatMap Mx.oO:=by
   intro l
   induction l with
   |nil=>rfl
   |cons a t ih=>simp only [List.flatMap_cons,ih];rfl
  unfold Cx.lW Cx.ng Mx.xL jo Cx.eh;rw[h1,h2];simp[Mx.hd]
 grind[Cx.fF,Mx.encI]
theorem SF(h:sg vs gs){i:Nat}(hi:i<gs.length):Cx.numberOf (gs.map (·.a)) i<(Cx.leaves (gs.map (·.a))).length:=
 List.findIdx_lt_length_of_exists ⟨_,uc h _ i rfl hi,by simp⟩
theorem SG{n:ByteArray}(h:vs.any (bK n)=true):Cx.dY vs n<vs.length:=by
 grind[List.findIdx_lt_length_of_exists,List.any_eq_true,Cx.dY]
theorem xM(hv:vs.length<=3):∀(g:G),Ke vs g->Mx.GC (2*vs.length) (need g) (Cx.aY vs g)
 | .or l r,h=>.two (.inr rfl) (xM hv l h.1) (xM hv r h.2)
 | .and l r,h=>.two (.inl rfl) (xM hv l h.1) (xM hv r h.2)
 | .not g,h=>.turn (xM hv g h)
 | .group _ g,h=>xM hv g h
 | .gZ,_=>.yes
 | .atom w n o i _,h=>by
  have hx:=SG (h);have hw:(Cx.nQ vs w.isSome n o i).which<2*vs.length:=by
   simp only [Cx.nQ];split<;>omega
  simp only [Cx.aY,Cx.Q.code,need];generalize Cx.nQ vs w.isSome n o i=q at*;have hn:(UInt8.ofNat q.which).toNat<2*vs.length:=by rw[Mx.ofNat_toNat (by omega)];exact hw
  have ha:Mx.GC (2*vs.length) 1 ([if q.same then 8 else 7,UInt8.ofNat q.which]++Cx.two q.num):=.ask (by simp) hn;unfold r9
  cases q.bF with
  |true=>exact .turn ha
  |false=>grind
theorem ajG(cR:sg vs gs)(hl:(Cx.leaves (gs.map (·.a))).length<=12)(r:bD)(hg:Ke vs r.g)(hn:need r.g<=32)(hd:cg gs r=false):Mx.RC (Cx.leaves (gs.map (·.a))).length (2*vs.length) (Cx.bO vs (gs.map (·.a)) r):=by
 have hv:=cR.vars;have he:Mx.EC (Cx.leaves (gs.map (·.a))).length (Cx.iY (gs.map (·.a)) r):=by
  unfold Cx.iY
  cases hx:r.dest with
  |none=>exact .inl rfl
  |some t=>
   refine .inr ⟨_,rfl,?_⟩;have hm:Cx.fE (gs.map (·.a)) t.s<gs.length:=by
    unfold cg at hd;rw[hx]at hd;have nh:gs.any (dV t.s)=true:=by simpa using hd
    obtain⟨g,DK,rF⟩:=List.any_eq_true.1 nh;have:Cx.fE (gs.map (·.a)) t.s<(gs.map (·.a)).length:=List.findIdx_lt_length_of_exists ⟨g.a,List.mem_map.2 ⟨g,DK,rfl⟩,rF⟩;simpa using this
   have:=SF cR hm
   grind[Mx.ofNat_toNat]
 have hlen:(Cx.iY (gs.map (·.a)) r).length<=2:=by
  rcases he with e|⟨l,e,_⟩<;>rw[e]<;>simp
 have h2:=Mx.wJ ((Cx.iY (gs.map (·.a)) r).length) (by omega) (by omega);have:=Mx.RC.mk (xM hv r.g hg) hn he (h2.trans (by omega));unfold Cx.bO;rw[List.append_assoc,List.append_assoc];exact this
def xN(vs:List az)(ms:List MA)(i:Nat):List (List UInt8):=(Cx.path ms i).flatMap λj=>(Cx.rowsOf ms j).map (Cx.bO vs ms)
theorem EK(vs:List az)(ms:List MA)(i:Nat):Cx.program vs ms i=(xN vs ms i).flatten++[0]:=by
 unfold Cx.program xN;congr 1;generalize Cx.path ms i=l
 induction l<;>grind
theorem K5{ms:List MA}{j:Nat}{r:bD}(h:r∈Cx.rowsOf ms j):∃m∈ms,r∈m.rows:=by
 grind[List.mem_of_getElem?,Cx.rowsOf]
theorem SH{n:Int}(h:iA n=false):-1000<=n/\n<=1000:=by
 grind[iA]
theorem OE(ms:List MA):(Cx.leaves ms).length<=ms.length:=by
 grind[Nat.le_trans,List.length_filter_le,Cx.leaves,Cx.dR]
theorem SK{ts:List Hx.Tok}(hD:xO ts vs (gs.map (·.a)))(hL:Links gs)(h:gA vs gs):(jo vs (gs.map (·.a))).Room/\∀l∈(jo vs (gs.map (·.a))).leaves,Mx.isRight l.2 (jo vs (gs.map (·.a))).leaves.length (2*(jo vs (gs.map (·.a))).vars.length)=true:=by
 have cR:=SL hL h.rc h.some;have hr:=adq h.rc;obtain⟨s,_,kA⟩:=h.rc.row;have RX:(Cx.leaves (gs.map (·.a))).length<=12:=Nat.le_trans (OE _) (by simpa using h.rc.af);have tQ:RowsIn (gs.map (·.a)):=by
  obtain⟨t,m,e,r,hv,_,hm,_⟩:=hD;exact ajF hm
 refine⟨⟨?_,?_,?_,?_,?_⟩,?_⟩
 ·simpa[jo,Cx.eb]using h.rc.vars
 ·grind[jo]
 ·simpa[jo]using SF cR h.some
 ·intro p hp
  simp only [jo,Cx.eb,List.mem_map]at hp;obtain⟨v,hv,rfl⟩:=hp;obtain⟨j,hj,rfl⟩:=List.getElem_of_mem hv;obtain⟨_,b1,b2,_⟩:=h.rc.var j hj;have:=SH b1;have:=SH b2;omega
 ·intro p hp
  simp only [jo,List.mem_map]at hp;obtain⟨i,hi,rfl⟩:=hp;have oA:=lH hi;refine⟨?_,?_⟩
  ·simp only [Cx.nameOf]
   rw[List.getElem?_map,List.getElem?_eq_getElem oA];simp only [Option.map_some];exact h.names _ (List.getElem_mem oA)
  ·exact Nat.lt_of_le_of_lt (rg vs hL oA) (by have:=h.total;omega)
 ·intro p hp
  have e1:(jo vs (gs.map (·.a))).leaves.length=(Cx.leaves (gs.map (·.a))).length:=by simp[jo]
  have e2:(jo vs (gs.map (·.a))).vars.length=vs.length:=by simp[jo,Cx.eb]
  rw[e1,e2];simp only [jo,List.mem_map]at hp;obtain⟨i,hi,rfl⟩:=hp;simp only;rw[EK];refine Mx.K4 _ (λc hc=>?_);unfold xN at hc;obtain⟨j,_,hc⟩:=List.mem_flatMap.1 hc;obtain⟨r,dw,rfl⟩:=List.mem_map.1 hc;obtain⟨m,hm,hrm⟩:=K5 dw;obtain⟨g,hg,rfl⟩:=List.mem_map.1 hm;obtain⟨l,l',apl⟩:=tQ g.a hm r hrm;have hnd:=SD apl;have ud:=h.deep g hg r hrm;simp at hnd;exact ajG cR RX r (kA g hg r hrm).1.ok (by omega) (kA g hg r hrm).2
