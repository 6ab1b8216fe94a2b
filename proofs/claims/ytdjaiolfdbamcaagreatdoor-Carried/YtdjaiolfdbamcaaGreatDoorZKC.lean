/- The sum of 32 bits, bit by bit: a row of at most 32 turned bits changes it; nothing of the program is asked here. -/
import Derived.Test.YtdjaiolfdbamcaaGreatDoorZBase
import Derived.Test.YtdjaiolfdbamcaaGreatDoorZCA
import Derived.Test.YtdjaiolfdbamcaaGreatDoorZMRd
import Derived.Test.YtdjaiolfdbamcaaGreatDoorZWCFJ
import Derived.Test.YtdjaiolfdbamcaaGreatDoorZWCE7
import Derived.Test.YtdjaiolfdbamcaaGreatDoorZCFind
import Derived.Test.YtdjaiolfdbamcaaGreatDoorZMRa
import Derived.Test.YtdjaiolfdbamcaaGreatDoorZMW
import Derived.Test.YtdjaiolfdbamcaaGreatDoorProg
set_option maxRecDepth 20000
set_option maxHeartbeats 4000000
namespace Go.Proofs.YtdjaiolfdbamcaaGreatDoor
namespace Kx
def cb (r:Nat):Nat:=if r % 2=1 then (r/2) ^^^ 3988292384 else r/2
def cbN:Nat→Nat→Nat
 | 0,r=>r
 | n+1,r=>cbN n (cb r)
def bn (b:Bool):Nat:=if b then 1 else 0
def st (r:Nat) (b:Bool):Nat:=cb (r ^^^ bn b)
def bitsN:Nat→Nat→List Bool
 | 0,_=>[]
 | n+1,x=>(x % 2 == 1)::bitsN n (x/2)
def bitsOf (l:List UInt8):List Bool:=l.flatMap fun b=>bitsN 8 b.toNat
theorem xor_half (a b:Nat):(a ^^^ b)/2=a/2 ^^^ b/2:=by
 have h:=Nat.shiftRight_xor_distrib (a:=a) (b:=b) (i:=1)
 simpa [Nat.shiftRight_eq_div_pow] using h
theorem xor_low (a b:Nat):(a ^^^ b) % 2=(a % 2+b % 2) % 2:=by
 have h:=Nat.testBit_xor a b 0
 simp only [Nat.testBit_zero] at h
 rcases Nat.mod_two_eq_zero_or_one a with ha | ha <;> rcases Nat.mod_two_eq_zero_or_one b with hb | hb <;> rcases Nat.mod_two_eq_zero_or_one (a ^^^ b) with hc | hc <;> simp [ha,hb,hc] at h ⊢
theorem cb_xor (a b:Nat):cb (a ^^^ b)=cb a ^^^ cb b:=by
 unfold cb
 have hl:=xor_low a b
 rw [xor_half]
 rcases Nat.mod_two_eq_zero_or_one a with ha | ha <;> rcases Nat.mod_two_eq_zero_or_one b with hb | hb <;> rw [ha,hb] at hl <;> simp [ha,hb,hl]
 ·rw [Nat.xor_assoc]
 ·rw [Nat.xor_assoc,Nat.xor_comm (b/2) 3988292384,← Nat.xor_assoc]
 ·rw [Nat.xor_assoc,Nat.xor_comm 3988292384,Nat.xor_assoc,Nat.xor_self,Nat.xor_zero]
theorem bn_xor (x y:Bool):bn (x ^^ y)=bn x ^^^ bn y:=by cases x <;> cases y <;> rfl
theorem xor4 (a b c d:Nat):(a ^^^ b) ^^^ (c ^^^ d)=(a ^^^ c) ^^^ (b ^^^ d):=by
 rw [Nat.xor_assoc,← Nat.xor_assoc b c d,Nat.xor_comm b c,Nat.xor_assoc c b d,← Nat.xor_assoc]
theorem st_xor (a b:Nat) (x y:Bool):st (a ^^^ b) (x ^^ y)=st a x ^^^ st b y:=by
 unfold st
 rw [bn_xor,xor4,cb_xor]
theorem fold_xor:∀ (xs ys:List Bool) (a b:Nat),xs.length=ys.length→(List.zipWith xor xs ys).foldl st (a ^^^ b)=xs.foldl st a ^^^ ys.foldl st b
 | [],[],_,_,_=>rfl
 | x::xs,y::ys,a,b,h=>by
  simp only [List.zipWith_cons_cons,List.foldl_cons]
  rw [st_xor]
  exact fold_xor xs ys _ _ (by simpa using h)
 | [],_::_,_,_,h=>by simp at h
 | _::_,[],_,_,h=>by simp at h
theorem st_back {r j:Nat} {b:Bool} (hr:r<4294967296) (hj:j≤31) (h:st r b<2 ^ j):(r ^^^ bn b) % 2=0∧r ^^^ bn b<2 ^ (j+1):=by
 have hx:r ^^^ bn b<4294967296:=Nat.xor_lt_two_pow (n:=32) hr (by cases b <;> decide)
 unfold st cb at h
 generalize r ^^^ bn b=y at *
 rcases Nat.mod_two_eq_zero_or_one y with hy | hy
 ·simp [hy] at h
  refine ⟨hy,?_⟩
  rw [Nat.pow_succ];omega
 ·exfalso
  simp only [hy,if_true] at h
  have h31:(y/2 ^^^ 3988292384).testBit 31=true:=by
   rw [Nat.testBit_xor,Nat.testBit_lt_two_pow (show y/2<2 ^ 31 by omega)]
   decide
  rw [Nat.testBit_lt_two_pow (Nat.lt_of_lt_of_le h (Nat.pow_le_pow_right (by decide) hj))] at h31
  cases h31
theorem st_lt {r:Nat} {b:Bool} (hr:r<4294967296):st r b<4294967296:=by
 have hx:r ^^^ bn b<4294967296:=Nat.xor_lt_two_pow (n:=32) hr (by cases b <;> decide)
 unfold st cb
 generalize r ^^^ bn b=y at *
 split
 ·exact Nat.xor_lt_two_pow (n:=32) (show y/2<2 ^ 32 by omega) (by decide)
 ·omega
theorem fold_lt:∀ (l:List Bool) (r:Nat),r<4294967296→l.foldl st r<4294967296
 | [],_,h=>h
 | _::l,_,h=>fold_lt l _ (st_lt h)
theorem zero_back {r:Nat} (hr:r<4294967296) (h:st r false=0):r=0:=by
 have:=st_back (j:=0) hr (by omega) (b:=false) (by rw [h];decide)
 simp [bn] at this
 omega
theorem zeros_back:∀ (n:Nat) (r:Nat),r<4294967296→(List.replicate n false).foldl st r=0→r=0
 | 0,_,_,h=>h
 | n+1,r,hr,h=>by
  rw [List.replicate_succ,List.foldl_cons] at h
  exact zero_back hr (zeros_back n _ (st_lt hr) h)
theorem zeros_on:∀ (n:Nat),(List.replicate n false).foldl st 0=0
 | 0=>rfl
 | n+1=>by rw [List.replicate_succ,List.foldl_cons];exact zeros_on n
theorem small_back:∀ (m:List Bool) (r:Nat),r<4294967296→m.length≤32→m.foldl st r=0→r<2 ^ m.length
 | [],r,_,_,h=>by simp at h;subst h;decide
 | b::m,r,hr,hm,h=>by
  simp only [List.length_cons] at hm ⊢
  have ih:=small_back m (st r b) (st_lt hr) (by omega) h
  have h2:=(st_back hr (by omega) ih).2
  have h3:(r ^^^ bn b) ^^^ bn b=r:=by rw [Nat.xor_assoc,Nat.xor_self,Nat.xor_zero]
  rw [← h3]
  refine Nat.xor_lt_two_pow h2 ?_
  have:2 ^ 1≤2 ^ (m.length+1):=Nat.pow_le_pow_right (by decide) (by omega)
  cases b <;> simp [bn] <;> omega
theorem burst (i j:Nat) (m:List Bool) (hm:m.length≤31):(List.replicate i false++(true::m++List.replicate j false)).foldl st 0≠0:=by
 intro h
 rw [List.foldl_append,zeros_on,List.foldl_append] at h
 have h1:=zeros_back j _ (fold_lt _ _ (by decide)) h
 rw [List.foldl_cons] at h1
 have h2:=small_back m (st 0 true) (by decide) (by omega) h1
 have h3:2 ^ m.length≤2 ^ 31:=Nat.pow_le_pow_right (by decide) hm
 have h4:st 0 true=3988292384:=by decide
 omega
theorem bitsN_len:∀ n x,(bitsN n x).length=n
 | 0,_=>rfl
 | n+1,x=>by simp [bitsN,bitsN_len n]
theorem bitsOf_len (l:List UInt8):(bitsOf l).length=8*l.length:=by
 induction l with
 | nil=>rfl
 | cons a t ih =>
  have:bitsOf (a::t)=bitsN 8 a.toNat++bitsOf t:=rfl
  rw [this,List.length_append,bitsN_len,ih,List.length_cons];omega
theorem cb_even (x:Nat):cb (2*x)=x:=by
 unfold cb
 rw [if_neg (by omega)];omega
theorem split_low (B:Nat):B=bn (B % 2 == 1) ^^^ (2*(B/2)):=by
 apply Nat.eq_of_testBit_eq
 intro i
 rw [Nat.testBit_xor]
 cases i with
 | zero =>
  rcases Nat.mod_two_eq_zero_or_one B with h | h <;> simp [bn,h,Nat.testBit_zero] <;> omega
 | succ i =>
  rw [Nat.testBit_succ,Nat.testBit_succ,Nat.testBit_succ]
  have h1:bn (B % 2 == 1)/2=0:=by unfold bn;split <;> rfl
  have h2:2*(B/2)/2=B/2:=by omega
  rw [h1,h2];simp
theorem fold_bits:∀ (n r B:Nat),B<2 ^ n→(bitsN n B).foldl st r=cbN n (r ^^^ B)
 | 0,r,B,h=>by
  have:B=0:=by simpa using h
  subst this;simp [bitsN,cbN]
 | n+1,r,B,h=>by
  rw [bitsN,List.foldl_cons,fold_bits n _ _ (by rw [Nat.pow_succ] at h;omega),cbN]
  congr 1
  conv=>rhs;rw [split_low B,← Nat.xor_assoc,cb_xor,cb_even]
  rfl
theorem own_bits (r F:Nat) (h:r ^^^ F<2 ^ 32):(bitsN 32 (r ^^^ F)).foldl st r=cbN 32 F:=by
 rw [fold_bits 32 r _ h,← Nat.xor_assoc,Nat.xor_self,Nat.zero_xor]
theorem bitsN_add:∀ (n m x:Nat),bitsN (n+m) x=bitsN n x++bitsN m (x/2 ^ n)
 | 0,m,x=>by simp [bitsN]
 | n+1,m,x=>by
  rw [show n+1+m=(n+m)+1 by omega,bitsN,bitsN_add n m (x/2),bitsN,List.cons_append,Nat.div_div_eq_div_mul,Nat.pow_succ,Nat.mul_comm 2]
theorem bitsN_mod:∀ (n x:Nat),bitsN n (x % 2 ^ n)=bitsN n x
 | 0,_=>rfl
 | n+1,x=>by
  rw [bitsN,bitsN]
  have h1:x % 2 ^ (n+1) % 2=x % 2:=Nat.mod_mod_of_dvd _ ⟨2 ^ n,by rw [Nat.pow_succ,Nat.mul_comm]⟩
  have h2:x % 2 ^ (n+1)/2=x/2 % 2 ^ n:=by rw [Nat.pow_succ,Nat.mul_comm,Nat.mod_mul_right_div_self]
  rw [h1,h2,bitsN_mod n]
end Kx
end Go.Proofs.YtdjaiolfdbamcaaGreatDoor
/- The program's sum,by its bits: two texts with their sums do not differ in a row of at most 32 bits;nothing of the program is asked here. -/
namespace Go.Proofs.YtdjaiolfdbamcaaGreatDoor
namespace Kx
theorem bits32 (op:Nat→Nat→Nat) (g:BinOp) (hg:∀ a b:Nat,a<4294967296→b<4294967296→op a b<4294967296) (hb:∀ x y:Int,bits g .u32 x y=IntKind.u32.wrap ((op (BitVec.ofInt 32 x).toNat (BitVec.ofInt 32 y).toNat:Nat):Int)) (a b:Nat) (ha:a<4294967296) (hbb:b<4294967296):bits g .u32 (a:Int) (b:Int)=((op a b:Nat):Int):=by
 have h1:(BitVec.ofInt 32 (a:Int)).toNat=a:=by
  rw [BitVec.ofInt_natCast,BitVec.toNat_ofNat];exact Nat.mod_eq_of_lt (by omega)
 have h2:(BitVec.ofInt 32 (b:Int)).toNat=b:=by
  rw [BitVec.ofInt_natCast,BitVec.toNat_ofNat];exact Nat.mod_eq_of_lt (by omega)
 have hw:∀ n:Int,IntKind.u32.wrap n=n % 4294967296:=fun n=>by simp [IntKind.wrap,IntKind.bits,IntKind.signed]
 have h3:=hg a b ha hbb
 rw [hb,h1,h2,hw]
 omega
theorem xor32 (a b:Nat) (ha:a<4294967296) (hb:b<4294967296):bits .xor .u32 (a:Int) (b:Int)=((a ^^^ b:Nat):Int) :=
 bits32 (· ^^^ ·) .xor (fun _ _ h1 h2=>Nat.xor_lt_two_pow (n:=32) h1 h2) (fun x y=>by rw [← BitVec.toNat_xor];rfl) a b ha hb
theorem and32 (a b:Nat) (ha:a<4294967296) (hb:b<4294967296):bits .and .u32 (a:Int) (b:Int)=((a &&& b:Nat):Int) :=
 bits32 (· &&& ·) .and (fun _ _ h1 _=>Nat.lt_of_le_of_lt Nat.and_le_left h1) (fun x y=>by rw [← BitVec.toNat_and];rfl) a b ha hb
theorem cb_lt {r:Nat} (hr:r<4294967296):cb r<4294967296:=by
 have:=st_lt (b:=false) hr
 simpa [st,bn] using this
theorem cbN_succ:∀ n r,cbN (n+1) r=cb (cbN n r)
 | 0,_=>rfl
 | n+1,r=>by rw [cbN,cbN_succ n (cb r),cbN]
theorem cbN_lt:∀ n r,r<4294967296→cbN n r<4294967296
 | 0,_,h=>h
 | n+1,_,h=>cbN_lt n _ (cb_lt h)
theorem crcBit_nat (y:Nat) (h:y<4294967296):Cx.crcBit (y:Int)=((cb y:Nat):Int):=by
 unfold Cx.crcBit cb
 have h1:bits BinOp.and IntKind.u32 (y:Int) 1=((y % 2:Nat):Int):=by
  rw [← Nat.and_one_is_mod];exact and32 y 1 h (by decide)
 rw [h1]
 rcases Nat.mod_two_eq_zero_or_one y with hy | hy
 ·rw [hy,if_neg (by decide),if_neg (by decide)];omega
 ·rw [hy,if_pos (by decide),if_pos rfl]
  have:=xor32 (y/2) 3988292384 (by omega) (by decide)
  rw [← this]
  congr 1
theorem crcBits_nat:∀ (n y:Nat),y<4294967296→Cx.crcBits n (y:Int)=((cbN n y:Nat):Int)
 | 0,_,_=>rfl
 | n+1,y,h=>by rw [Cx.crcBits,crcBits_nat n y h,crcBit_nat _ (cbN_lt n y h),cbN_succ]
theorem crcByte_nat (y:Nat) (b:UInt8) (h:y<4294967296):Cx.crcByte (y:Int) b=(((bitsN 8 b.toNat).foldl st y:Nat):Int):=by
 have hb:=b.toNat_lt
 unfold Cx.crcByte
 rw [show (b.toNat:Int) % 4294967296=((b.toNat:Nat):Int) by omega,xor32 y b.toNat h (by omega),crcBits_nat 8 _ (Nat.xor_lt_two_pow (n:=32) h (by omega)),fold_bits 8 y b.toNat hb]
theorem crc_nat:∀ (l:List UInt8) (y:Nat),y<4294967296→l.foldl Cx.crcByte (y:Int)=(((bitsOf l).foldl st y:Nat):Int)
 | [],_,_=>rfl
 | b::l,y,h=>by
  rw [List.foldl_cons,crcByte_nat y b h,crc_nat l _ (fold_lt _ _ h)]
  rw [show bitsOf (b::l)=bitsN 8 b.toNat++bitsOf l from rfl,List.foldl_append]
def reg (l:List UInt8):Nat:=(bitsOf l).foldl st 4294967295
theorem crc_reg (l:List UInt8):Cx.crc l=((reg l ^^^ 4294967295:Nat):Int):=by
 unfold Cx.crc Cx.crcFold
 have h:=crc_nat l 4294967295 (by decide)
 rw [show ((4294967295:Nat):Int)=4294967295 from rfl] at h
 rw [h,show IntKind.u32.max=((4294967295:Nat):Int) from rfl,xor32 _ _ (by decide) (fold_lt _ _ (by decide)),Nat.xor_comm]
 rfl
theorem byte_bits (x d:Nat):bitsN 8 (Cx.byteAt (x:Int) (d:Int)).toNat=bitsN 8 (x/d):=by
 have h:(Cx.byteAt (x:Int) (d:Int)).toNat=x/d % 2 ^ 8:=by
  unfold Cx.byteAt
  rw [UInt8.toNat_ofNat']
  have:((x:Int)/(d:Int) % 256).toNat=x/d % 256:=by
   rw [show (x:Int)/(d:Int)=((x/d:Nat):Int) from (Int.natCast_ediv x d).symm]
   omega
  rw [this]
  omega
 rw [h,bitsN_mod]
theorem sum_bits (l:List UInt8):bitsOf (Cx.sumCode l)=bitsN 32 (reg l ^^^ 4294967295):=by
 unfold Cx.sumCode
 rw [crc_reg]
 generalize reg l ^^^ 4294967295=x
 have e:∀ a b c d:UInt8,bitsOf [a,b,c,d]=bitsN 8 a.toNat++(bitsN 8 b.toNat++(bitsN 8 c.toNat++bitsN 8 d.toNat)):=by
  intro a b c d;simp [bitsOf]
 rw [e]
 have b1:=byte_bits x 1
 have b2:=byte_bits x 256
 have b3:=byte_bits x 65536
 have b4:=byte_bits x 16777216
 rw [show (1:Int)=((1:Nat):Int) from rfl,show (256:Int)=((256:Nat):Int) from rfl,show (65536:Int)=((65536:Nat):Int) from rfl,show (16777216:Int)=((16777216:Nat):Int) from rfl,b1,b2,b3,b4]
 rw [show 32=8+24 from rfl,bitsN_add 8 24,show 24=8+16 from rfl,bitsN_add 8 16,show 16=8+8 from rfl,bitsN_add 8 8]
 simp only [Nat.div_div_eq_div_mul,Nat.div_one]
def Valid (l:List UInt8):Prop:=Cx.sumCode (l.take (l.length-4))=l.drop (l.length-4)
theorem bitsOf_append (a b:List UInt8):bitsOf (a++b)=bitsOf a++bitsOf b:=by simp [bitsOf]
theorem valid_reg {l:List UInt8} (h:Valid l):reg l=cbN 32 4294967295:=by
 have e:l=l.take (l.length-4)++Cx.sumCode (l.take (l.length-4)):=by rw [h,List.take_append_drop]
 rw [e]
 generalize l.take (l.length-4)=b
 show (bitsOf (b++Cx.sumCode b)).foldl st 4294967295=_
 rw [bitsOf_append,List.foldl_append,sum_bits]
 show (bitsN 32 (reg b ^^^ 4294967295)).foldl st (reg b)=_
 exact own_bits _ _ (Nat.xor_lt_two_pow (n:=32) (fold_lt _ _ (by decide)) (by decide))
theorem sum_valid (b:List UInt8):Valid (b++Cx.sumCode b):=by
 unfold Valid
 have h:(b++Cx.sumCode b).length-4=b.length:=by simp [Cx.sumCode]
 rw [h,List.take_left,List.drop_left]
theorem no_burst {l l':List UInt8} (h:Valid l) (h':Valid l') (hl:l.length=l'.length) (i j:Nat) (m:List Bool) (hm:m.length≤31) (hz:List.zipWith xor (bitsOf l) (bitsOf l')=List.replicate i false++(true::m++List.replicate j false)):False:=by
 have hf:=fold_xor (bitsOf l) (bitsOf l') 4294967295 4294967295 (by rw [bitsOf_len,bitsOf_len,hl])
 rw [hz,Nat.xor_self] at hf
 refine burst i j m hm ?_
 rw [hf]
 show reg l ^^^ reg l'=0
 rw [valid_reg h,valid_reg h',Nat.xor_self]
end Kx
end Go.Proofs.YtdjaiolfdbamcaaGreatDoor
/- An image that was written reads as it was,a front of it does not read;nothing of the program is asked here. -/
namespace Go.Proofs.YtdjaiolfdbamcaaGreatDoor
namespace Mx
def enc2 (n:Int):List UInt8:=[UInt8.ofNat (n/1 % 256).toNat,UInt8.ofNat (n/256 % 256).toNat]
def encV (p:Int×Int):List UInt8:=enc2 p.1++enc2 p.2
def encL (p:List UInt8×List UInt8):List UInt8:=UInt8.ofNat p.1.length::(p.1++(enc2 p.2.length++p.2))
def encB (im:Img):List UInt8:=hd++(UInt8.ofNat im.vars.length::(im.vars.flatMap encV++(UInt8.ofNat im.leaves.length::UInt8.ofNat im.first::im.leaves.flatMap encL)))
theorem ofNat_toNat {n:Nat} (h:n<256):(UInt8.ofNat n).toNat=n:=by rw [UInt8.toNat_ofNat',Nat.mod_eq_of_lt h]
theorem two_enc (n:Int) (h1 : -32768≤n) (h2:n<65536):two (UInt8.ofNat (n/1 % 256).toNat) (UInt8.ofNat (n/256 % 256).toNat)=(n % 65536).toNat:=by
 unfold two
 rw [ofNat_toNat (by omega),ofNat_toNat (by omega)]
 omega
theorem sgn_enc (n:Int) (h1 : -32768≤n) (h2:n<32768):sgn (n % 65536).toNat=n:=by
 unfold sgn
 split <;> omega
theorem rd_take (l m:List UInt8) (b:Bool):(Rd.mk (l++m) b).take l.length=(l,⟨m,b⟩):=by
 unfold Rd.take
 rw [if_neg (by simp)]
 simp
theorem rd_one (x:UInt8) (m:List UInt8) (b:Bool):(Rd.mk (x::m) b).one=(x.toNat,⟨m,b⟩):=by
 have:=rd_take [x] m b
 unfold Rd.one
 rw [show (Rd.mk (x::m) b).take 1=([x],⟨m,b⟩) from this];rfl
theorem rd_two (n:Int) (h1 : -32768≤n) (h2:n<65536) (m:List UInt8) (b:Bool):(Rd.mk (enc2 n++m) b).two=((n % 65536).toNat,⟨m,b⟩):=by
 have:=rd_take (enc2 n) m b
 unfold Rd.two
 rw [show (Rd.mk (enc2 n++m) b).take 2=(enc2 n,⟨m,b⟩) from this]
 show (two (UInt8.ofNat (n/1 % 256).toNat) (UInt8.ofNat (n/256 % 256).toNat),_)=_
 rw [two_enc n h1 h2]
theorem rd_count (x most:Nat) (hx:x≤most) (hm:most<256) (m:List UInt8) (b:Bool):(Rd.mk (UInt8.ofNat x::m) b).count most=(x,⟨m,b⟩):=by
 unfold Rd.count
 rw [rd_one,ofNat_toNat (by omega)]
 rw [if_neg (by simp;omega)]
theorem rd_var (p:Int×Int) (h : -32768≤p.1∧p.1<32768 ∧ -32768≤p.2∧p.2<32768) (m:List UInt8) (b:Bool):(Rd.mk (encV p++m) b).var=(p,⟨m,b⟩):=by
 unfold Rd.var encV
 rw [List.append_assoc,rd_two p.1 h.1 (by omega)]
 simp only
 rw [rd_two p.2 h.2.2.1 (by omega)]
 simp only
 rw [sgn_enc _ h.1 h.2.1,sgn_enc _ h.2.2.1 h.2.2.2]
theorem rd_leaf (p:List UInt8×List UInt8) (h1:p.1.length≤8) (h2:p.2.length<65536) (m:List UInt8) (b:Bool):(Rd.mk (encL p++m) b).leaf=(p,⟨m,b⟩):=by
 unfold Rd.leaf encL
 rw [List.cons_append,rd_count _ 8 h1 (by decide)]
 simp only
 rw [List.append_assoc,rd_take]
 simp only
 rw [List.append_assoc,rd_two _ (by omega) (by omega)]
 simp only
 rw [show ((p.2.length:Int) % 65536).toNat=p.2.length by omega,rd_take]
theorem rd_many {α : Type} (f:Rd → α × Rd) (enc : α → List UInt8) (P : α → Prop) (hf:∀ x,P x→∀ m b,f ⟨enc x++m,b⟩=(x,⟨m,b⟩)):∀ (l:List α),(∀ x∈l,P x)→∀ m b,many f l.length ⟨l.flatMap enc++m,b⟩=(l,⟨m,b⟩)
 | [],_,m,b=>by simp [many]
 | x::l,h,m,b=>by
  rw [List.flatMap_cons,List.append_assoc,List.length_cons,many,hf x (h x (by simp))]
  simp only
  rw [rd_many f enc P hf l (fun y hy=>h y (by simp [hy]))]
structure Img.Room (im:Img):Prop where
 vars:im.vars.length≤3
 leaves:im.leaves.length≤12
 first:im.first<im.leaves.length
 num:∀ p∈im.vars,-32768≤p.1∧p.1<32768 ∧ -32768≤p.2∧p.2<32768
 leaf:∀ p∈im.leaves,p.1.length≤8∧p.2.length<65536
theorem read_more {im:Img} (h:im.Room) (m:List UInt8):(Rd.mk (encB im++m) false).image=(im,⟨m,false⟩):=by
 have e0:encB im++m=hd++(UInt8.ofNat im.vars.length::(im.vars.flatMap encV++(UInt8.ofNat im.leaves.length::UInt8.ofNat im.first::(im.leaves.flatMap encL++m)))):=by simp [encB]
 have a1:(Rd.mk (encB im++m) false).afterHead=⟨UInt8.ofNat im.vars.length::(im.vars.flatMap encV++(UInt8.ofNat im.leaves.length::UInt8.ofNat im.first::(im.leaves.flatMap encL++m))),false⟩:=by
  unfold Rd.afterHead
  rw [e0,show (5:Nat)=hd.length from rfl,rd_take]
  simp
 have a2:(Rd.mk (encB im++m) false).vs=(im.vars,⟨UInt8.ofNat im.leaves.length::UInt8.ofNat im.first::(im.leaves.flatMap encL++m),false⟩):=by
  unfold Rd.vs
  rw [a1,rd_count _ 3 h.vars (by decide)]
  simp only
  exact rd_many Rd.var encV _ (fun x hx m b=>rd_var x hx m b) im.vars h.num _ _
 have a3:(Rd.mk (encB im++m) false).nl=(im.leaves.length,⟨UInt8.ofNat im.first::(im.leaves.flatMap encL++m),false⟩):=by
  unfold Rd.nl
  rw [a2,rd_count _ 12 h.leaves (by decide)]
 have a4:(Rd.mk (encB im++m) false).fst=(im.first,⟨im.leaves.flatMap encL++m,false⟩):=by
  unfold Rd.fst
  have:=h.first
  have:=h.leaves
  rw [a3,rd_one,ofNat_toNat (by omega)]
 have a5:(Rd.mk (encB im++m) false).ls=(im.leaves,⟨m,false⟩):=by
  unfold Rd.ls
  have:=h.first
  rw [a3,a4]
  simp only [Rd.mark]
  rw [decide_eq_false (by omega)]
  exact rd_many Rd.leaf encL (fun p=>p.1.length≤8∧p.2.length<65536) (fun x hx m b=>rd_leaf x hx.1 hx.2 m b) im.leaves h.leaf _ _
 unfold Rd.image
 rw [a2,a4,a5]
theorem read_whole {im:Img} (h:im.Room):(Rd.mk (encB im) false).image=(im,⟨[],false⟩):=by
 have:=read_more h []
 rwa [List.append_nil] at this
structure Ext {α : Type} (f:Rd → α × Rd):Prop where
 more:∀ r m,(f r).2.wrong=false→f ⟨r.rest++m,r.wrong⟩=((f r).1,⟨(f r).2.rest++m,(f r).2.wrong⟩)
 wrong:∀ r,r.wrong=true→(f r).2.wrong=true
theorem take_more (n:Nat) (r:Rd) (m:List UInt8) (h:(r.take n).2.wrong=false):(Rd.mk (r.rest++m) r.wrong).take n=((r.take n).1,⟨(r.take n).2.rest++m,(r.take n).2.wrong⟩):=by
 unfold Rd.take at h ⊢
 split at h
 ·cases h
 ·rename_i hl
  rw [if_neg (by simp;omega),if_neg hl]
  simp only
  rw [List.take_append_of_le_length (by omega),List.drop_append_of_le_length (by omega)]
theorem ext_take (n:Nat):Ext (fun r=>r.take n):=⟨fun r m h=>take_more n r m h,fun r h=>take_wrong r n h⟩
theorem ext_one:Ext Rd.one:=⟨fun r m h=>by unfold Rd.one at h ⊢;rw [take_more 1 r m h],fun r h=>one_wrong r h⟩
theorem ext_two:Ext Rd.two:=⟨fun r m h=>by unfold Rd.two at h ⊢;rw [take_more 2 r m h],fun r h=>two_wrong r h⟩
theorem ext_count (q:Nat):Ext (fun r=>r.count q):=by
 refine ⟨fun r m h=>?_,fun r h=>count_wrong r q h⟩
 (try simp only at h ⊢)
 unfold Rd.count at h ⊢
 split at h
 ·cases h
 ·rename_i hl
  have:=ext_one.more r m h
  rw [this,if_neg hl,if_neg hl]
theorem not_wrong {α : Type} {f:Rd → α × Rd} (hf:Ext f) {r:Rd} (h:(f r).2.wrong=false):r.wrong=false:=by
 cases hx:r.wrong with
 | false=>rfl
 | true=>rw [hf.wrong r hx] at h;cases h
theorem ext_var:Ext Rd.var:=by
 refine ⟨fun r m h=>?_,fun r h=>two_wrong _ (two_wrong _ h)⟩
 unfold Rd.var at h ⊢
 simp only at h
 have h1:=not_wrong ext_two h
 have e1:=ext_two.more r m h1
 have e2:=ext_two.more r.two.2 m h
 rw [e1]
 simp only
 rw [e2]
theorem ext_leaf:Ext Rd.leaf:=by
 refine ⟨fun r m h=>?_,fun r h=>leaf_wrong r h⟩
 unfold Rd.leaf at h ⊢
 simp only at h
 have h3:=not_wrong (ext_take _) h
 have h2:=not_wrong ext_two h3
 have h1:=not_wrong (ext_take _) h2
 have e1:=(ext_count 8).more r m h1
 (try simp only at e1)
 rw [e1]
 simp only
 have e2:=(ext_take (r.count 8).1).more (r.count 8).2 m h2
 (try simp only at e2)
 rw [e2]
 simp only
 have e3:=ext_two.more ((r.count 8).2.take (r.count 8).1).2 m h3
 rw [e3]
 simp only
 have e4:=(ext_take ((r.count 8).2.take (r.count 8).1).2.two.1).more ((r.count 8).2.take (r.count 8).1).2.two.2 m h
 (try simp only at e4)
 rw [e4]
theorem ext_many {α : Type} {f:Rd → α × Rd} (hf:Ext f):∀ n,Ext (many f n)
 | 0=>⟨fun _ _ _=>rfl,fun _ h=>h⟩
 | n+1=>by
  have ih:=ext_many hf n
  refine ⟨fun r m h=>?_,fun r h=>ih.wrong _ (hf.wrong _ h)⟩
  simp only [many] at h ⊢
  have h1:=not_wrong ih h
  rw [hf.more r m h1]
  simp only
  rw [ih.more _ m h]
theorem mark_more (q:Rd) (m:List UInt8) (b:Bool):Rd.mark ⟨q.rest++m,q.wrong⟩ b=⟨(q.mark b).rest++m,(q.mark b).wrong⟩:=rfl
theorem image_more {r:Rd} (m:List UInt8) (h:r.image.2.wrong=false):(Rd.mk (r.rest++m) r.wrong).image=(r.image.1,⟨r.image.2.rest++m,false⟩):=by
 have ils:r.ls=many Rd.leaf r.nl.1 (r.fst.2.mark (decide (r.nl.1≤r.fst.1))):=rfl
 have ifs:r.fst=r.nl.2.one:=rfl
 have inl:r.nl=r.vs.2.count 12:=rfl
 have ivs:r.vs=many Rd.var (r.afterHead.count 3).1 (r.afterHead.count 3).2:=rfl
 have iim:r.image=(⟨r.vs.1,r.ls.1,r.fst.1⟩,r.ls.2):=rfl
 have h5:=h
 simp only [iim] at h5
 have h5':(many Rd.leaf r.nl.1 (r.fst.2.mark (decide (r.nl.1≤r.fst.1)))).2.wrong=false:=by rw [← ils];exact h5
 have h4:(r.fst.2.mark (decide (r.nl.1≤r.fst.1))).wrong=false:=not_wrong (f:=many Rd.leaf r.nl.1) (ext_many ext_leaf r.nl.1) h5'
 have h4':r.fst.2.wrong=false:=by
  simp only [Rd.mark,Bool.or_eq_false_iff] at h4
  exact h4.1
 have h4o:r.nl.2.one.2.wrong=false:=by rw [← ifs];exact h4'
 have h3:r.nl.2.wrong=false:=not_wrong ext_one h4o
 have h3o:(r.vs.2.count 12).2.wrong=false:=by rw [← inl];exact h3
 have h2:r.vs.2.wrong=false:=not_wrong (f:=fun r=>r.count 12) (ext_count 12) h3o
 have h2o:(many Rd.var (r.afterHead.count 3).1 (r.afterHead.count 3).2).2.wrong=false:=by rw [← ivs];exact h2
 have h1:(r.afterHead.count 3).2.wrong=false:=not_wrong (f:=many Rd.var (r.afterHead.count 3).1) (ext_many ext_var _) h2o
 have h0:r.afterHead.wrong=false:=not_wrong (f:=fun r=>r.count 3) (ext_count 3) h1
 have a0:(Rd.mk (r.rest++m) r.wrong).afterHead=⟨r.afterHead.rest++m,r.afterHead.wrong⟩:=by
  have hh:¬ r.rest.length<5:=by
   intro hl
   unfold Rd.afterHead Rd.take at h0
   rw [if_pos hl] at h0
   simp [hd] at h0
  unfold Rd.afterHead Rd.take
  rw [if_neg (by simp;omega),if_neg hh]
  simp only
  rw [List.take_append_of_le_length (by omega),List.drop_append_of_le_length (by omega)]
 have a1:=(ext_count 3).more r.afterHead m h1
 (try simp only at a1)
 rw [← a0] at a1
 have a2:=(ext_many ext_var (r.afterHead.count 3).1).more (r.afterHead.count 3).2 m h2o
 have b2:(Rd.mk (r.rest++m) r.wrong).vs=(r.vs.1,⟨r.vs.2.rest++m,r.vs.2.wrong⟩):=by
  rw [ivs]
  unfold Rd.vs
  rw [a1]
  exact a2
 have a3:=(ext_count 12).more r.vs.2 m h3o
 (try simp only at a3)
 have b3:(Rd.mk (r.rest++m) r.wrong).nl=(r.nl.1,⟨r.nl.2.rest++m,r.nl.2.wrong⟩):=by
  rw [inl]
  unfold Rd.nl
  rw [b2]
  exact a3
 have a4:=ext_one.more r.nl.2 m h4o
 have b4:(Rd.mk (r.rest++m) r.wrong).fst=(r.fst.1,⟨r.fst.2.rest++m,r.fst.2.wrong⟩):=by
  rw [ifs]
  unfold Rd.fst
  rw [b3]
  exact a4
 have a5:=(ext_many ext_leaf r.nl.1).more (r.fst.2.mark (decide (r.nl.1≤r.fst.1))) m h5'
 have b5:(Rd.mk (r.rest++m) r.wrong).ls=(r.ls.1,⟨r.ls.2.rest++m,r.ls.2.wrong⟩):=by
  rw [ils]
  unfold Rd.ls
  rw [b3,b4]
  clear b2 b3 b4 a0 a1 a2 a3 a4 h0 h1 h2 h2o h3 h3o h4o h4' h4 h5' h5 iim ils ifs inl ivs h
  generalize r.nl=NL at *
  generalize r.fst=FS at *
  obtain ⟨n,q⟩:=NL
  obtain ⟨f,q2⟩:=FS
  simp only at a5 ⊢
  rw [mark_more]
  exact a5
 rw [iim]
 unfold Rd.image
 simp only
 rw [b2,b4,b5,h5]
theorem front_not {l m:List UInt8} {im:Img} (h:(Rd.mk (l++m) false).image=(im,⟨[],false⟩)) (hm:m≠[]):¬ ((Rd.mk l false).image.2.wrong=false∧(Rd.mk l false).image.2.rest=[]):=by
 rintro ⟨h1,h2⟩
 have:=image_more (r:=⟨l,false⟩) m h1
 simp only at this
 rw [h,h2] at this
 simp at this
 exact hm this.2
end Mx
end Go.Proofs.YtdjaiolfdbamcaaGreatDoor
/- Images that were written: as they are they load;cut,longer or turned they do not;nothing of the program is asked here. -/
namespace Go.Proofs.YtdjaiolfdbamcaaGreatDoor
namespace Mx
def encI (im:Img):List UInt8:=encB im++Cx.sumCode (encB im)
theorem sum_len (l:List UInt8):(Cx.sumCode l).length=4:=rfl
theorem encI_len (im:Img):(encI im).length=(encB im).length+4:=by unfold encI;rw [List.length_append,sum_len]
theorem decode_body {bs:List UInt8} {im:Img} (h:decode bs=some im):Kx.Valid bs∧(Rd.mk (bs.take (bs.length-4)) false).image=(im,⟨[],false⟩):=by
 unfold decode at h
 split at h
 ·cases h
 ·rename_i hq
  have hv:Cx.sumCode (bs.take (bs.length-4))=bs.drop (bs.length-4):=by
   by_cases e:Cx.sumCode (bs.take (bs.length-4))=bs.drop (bs.length-4)
   ·exact e
   ·exact (hq (.inr (.inr e))).elim
  simp only at h
  refine ⟨hv,?_⟩
  generalize (Rd.mk (bs.take (bs.length-4)) false).image=q at *
  obtain ⟨i,r,w⟩:=q
  simp only at h
  split at h
  ·cases h
  ·rename_i hn
   cases h
   cases w with
   | true=>exact (hn (.inl rfl)).elim
   | false =>
    by_cases e:r=[]
    ·rw [e]
    ·exact (hn (.inr e)).elim
theorem decode_enc {im:Img} (h:im.Room) (hl:(encI im).length≤60000):decode (encI im)=some im:=by
 have hlen:=encI_len im
 have ht:(encI im).take ((encI im).length-4)=encB im:=by rw [hlen];unfold encI;simp
 have hd:(encI im).drop ((encI im).length-4)=Cx.sumCode (encB im):=by rw [hlen];unfold encI;simp
 unfold decode
 rw [if_neg (by rw [ht,hd];simp;omega),ht]
 simp only
 rw [read_whole h]
 simp
theorem load_enc {im:Img} (h:im.Room) (hl:(encI im).length≤60000) (hr:∀ l∈im.leaves,isRight l.2 im.leaves.length (2*im.vars.length)=true):load (encI im)=some im:=by
 unfold load
 rw [decode_enc h hl]
 simp only
 rw [if_pos (List.all_eq_true.2 hr)]
theorem load_none {bs:List UInt8} (h:decode bs=none):load bs=none:=by
 unfold load;rw [h]
theorem decode_front {im:Img} (h:im.Room) (n:Nat) (hn:n<(encI im).length):decode ((encI im).take n)=none:=by
 cases hx:decode ((encI im).take n) with
 | none=>rfl
 | some im' =>
  exfalso
  have h4:4≤n:=by
   unfold decode at hx
   split at hx
   ·cases hx
   ·rename_i hq
    have:¬ ((encI im).take n).length<4:=fun e=>hq (.inl e)
    simp at this
    omega
  have hlen:=encI_len im
  obtain ⟨_,hb⟩:=decode_body hx
  have e1:((encI im).take n).take (((encI im).take n).length-4)=(encB im).take (n-4):=by
   rw [List.length_take,Nat.min_eq_left (by omega),List.take_take,Nat.min_eq_left (by omega)]
   unfold encI
   rw [List.take_append_of_le_length (by omega)]
  rw [e1] at hb
  have hw:=read_whole h
  rw [← List.take_append_drop (n-4) (encB im)] at hw
  refine front_not hw ?_ ⟨by rw [hb],by rw [hb]⟩
  intro e
  have:=congrArg List.length e
  simp at this
  omega
theorem decode_more {im:Img} (h:im.Room) (c:UInt8):decode (encI im++[c])=none:=by
 cases hx:decode (encI im++[c]) with
 | none=>rfl
 | some im' =>
  exfalso
  have hlen:=encI_len im
  obtain ⟨_,hb⟩:=decode_body hx
  have e1:(encI im++[c]).take ((encI im++[c]).length-4)=encB im++(Cx.sumCode (encB im)).take 1:=by
   rw [List.length_append,hlen]
   unfold encI
   rw [List.take_append_of_le_length (by rw [List.length_append,sum_len];simp),List.take_append]
   simp
   exact List.take_of_length_le (by omega)
  rw [e1,read_more h] at hb
  simp [Cx.sumCode] at hb
theorem decode_burst {im:Img} {bs:List UInt8} (hl:(encI im).length=bs.length) (i j:Nat) (m:List Bool) (hm:m.length≤31) (hz:List.zipWith xor (Kx.bitsOf (encI im)) (Kx.bitsOf bs)=List.replicate i false++(true::m++List.replicate j false)):decode bs=none:=by
 cases hx:decode bs with
 | none=>rfl
 | some im'=>exact (Kx.no_burst (Kx.sum_valid (encB im)) (decode_body hx).1 hl i j m hm hz).elim
end Mx
end Go.Proofs.YtdjaiolfdbamcaaGreatDoor
/- Bits that are turned,one by one,in a row of bytes;nothing of the program is asked here. -/
namespace Go.Proofs.YtdjaiolfdbamcaaGreatDoor
namespace Kx
def flip (l:List UInt8) (i:Nat):List UInt8:=l.modify (i/8) fun b=>UInt8.ofNat (b.toNat ^^^ 2 ^ (i % 8))
def flips (l:List UInt8) (at_:Nat) (m:Nat→Bool):Nat→List UInt8
 | 0=>l
 | k+1=>if m k then flip (flips l at_ m k) (at_+k) else flips l at_ m k
theorem flip_len (l:List UInt8) (i:Nat):(flip l i).length=l.length:=by simp [flip]
theorem flips_len (l:List UInt8) (at_:Nat) (m:Nat→Bool):∀ k,(flips l at_ m k).length=l.length
 | 0=>rfl
 | k+1=>by
  rw [flips]
  split
  ·rw [flip_len,flips_len l at_ m k]
  ·exact flips_len l at_ m k
theorem bitsN_at:∀ (n x i:Nat),i<n→(bitsN n x)[i]? = some (x.testBit i)
 | 0,_,_,h=>by omega
 | n+1,x,0,_=>by simp [bitsN,Nat.testBit_zero];rcases Nat.mod_two_eq_zero_or_one x with e | e <;> simp [e]
 | n+1,x,i+1,h=>by
  rw [bitsN,List.getElem?_cons_succ,bitsN_at n (x/2) i (by omega),Nat.testBit_succ]
theorem bitsOf_at (l:List UInt8) (i:Nat) (h:i<8*l.length):(bitsOf l)[i]? = some ((l.getD (i/8) 0).toNat.testBit (i % 8)):=by
 induction l generalizing i with
 | nil=>simp at h
 | cons a t ih =>
  have e:bitsOf (a::t)=bitsN 8 a.toNat++bitsOf t:=rfl
  rw [e]
  by_cases h8:i<8
  ·rw [List.getElem?_append_left (by rw [bitsN_len];exact h8),bitsN_at 8 _ i h8,Nat.div_eq_of_lt h8,Nat.mod_eq_of_lt h8];rfl
  ·rw [List.getElem?_append_right (by rw [bitsN_len];omega),bitsN_len,ih (i-8) (by simp at h;omega)]
   have e1:i/8=(i-8)/8+1:=by omega
   have e2:(i-8) % 8=i % 8:=by omega
   rw [e1,e2];rfl
theorem flip_at (l:List UInt8) (i j:Nat) (hj:j<8*l.length):(bitsOf (flip l i))[j]? = some (((l.getD (j/8) 0).toNat.testBit (j % 8)) ^^ (decide (j=i))):=by
 rw [bitsOf_at _ _ (by rw [flip_len];exact hj)]
 congr 1
 unfold flip
 have hjl:j/8<l.length:=by omega
 simp only [List.getD_eq_getElem?_getD,List.getElem?_modify,List.getElem?_eq_getElem hjl]
 by_cases e:i/8=j/8
 ·simp only [e,if_true,Option.map_eq_map,Option.map_some,Option.getD_some]
  have hb:=(l[j/8]).toNat_lt
  have h2:2 ^ (i % 8)<2 ^ 8:=Nat.pow_lt_pow_right (by decide) (by omega)
  rw [UInt8.toNat_ofNat',Nat.mod_eq_of_lt (Nat.xor_lt_two_pow hb h2),Nat.testBit_xor,Nat.testBit_two_pow]
  congr 1
  rw [decide_eq_decide]
  omega
 ·simp only [e,if_false,Option.map_eq_map,Option.map_some,Option.getD_some]
  have:j≠i:=fun h=>e (by rw [h])
  simp [this]
theorem flips_at (l:List UInt8) (at_:Nat) (m:Nat→Bool) (j:Nat) (hj:j<8*l.length):∀ k,at_+k≤8*l.length→(bitsOf (flips l at_ m k))[j]? = some (((l.getD (j/8) 0).toNat.testBit (j % 8)) ^^ (decide (at_≤j∧j<at_+k) && m (j-at_)))
 | 0,_=>by
  rw [flips,bitsOf_at _ _ hj]
  have:¬ (at_≤j∧j<at_+0):=by omega
  rw [decide_eq_false this,Bool.false_and,Bool.xor_false]
 | k+1,hk=>by
  have ih:=flips_at l at_ m j hj k (by omega)
  have hlen:=flips_len l at_ m k
  rw [flips]
  cases hm:m k with
  | true =>
   rw [if_pos rfl,flip_at _ _ _ (by omega)]
   rw [bitsOf_at _ _ (by omega)] at ih
   have ih':=Option.some.inj ih
   rw [ih']
   by_cases e:j=at_+k
   ·have h1:¬ (at_≤j∧j<at_+k):=by omega
    have h2:at_≤j∧j<at_+(k+1):=by omega
    have h3:j-at_=k:=by omega
    rw [decide_eq_false h1,decide_eq_true h2,h3,hm,decide_eq_true e,Bool.false_and,Bool.xor_false,Bool.true_and]
   ·have h1:(at_≤j∧j<at_+(k+1))↔(at_≤j∧j<at_+k):=by omega
    rw [decide_eq_false e,decide_eq_decide.2 h1,Bool.xor_false]
  | false =>
   rw [if_neg (by simp),ih]
   by_cases e:j=at_+k
   ·have h3:j-at_=k:=by omega
    rw [h3,hm,Bool.and_false,Bool.and_false]
   ·have h1:(at_≤j∧j<at_+(k+1))↔(at_≤j∧j<at_+k):=by omega
    rw [decide_eq_decide.2 h1]
theorem flips_none (l:List UInt8) (at_:Nat) (m:Nat→Bool):∀ k,(∀ i,i<k→m i=false)→flips l at_ m k=l
 | 0,_=>rfl
 | k+1,h=>by rw [flips,h k (by omega)];exact flips_none l at_ m k fun i hi=>h i (by omega)
theorem first_of (m:Nat→Bool):∀ k,(∃ i,i<k∧m i=true)→∃ i,i<k∧m i=true∧∀ j,j<i→m j=false
 | 0,⟨i,h,_⟩=>by omega
 | k+1,⟨i,h,hi⟩=>by
  by_cases e:∃ i,i<k∧m i=true
  ·obtain ⟨a,b,c⟩:=first_of m k e
   exact ⟨a,by omega,c⟩
  ·refine ⟨i,h,hi,fun j hj=>?_⟩
   cases hm:m j with
   | false=>rfl
   | true=>exact (e ⟨j,by omega,hm⟩).elim
theorem flips_burst (l:List UInt8) (at_:Nat) (m:Nat→Bool) (k:Nat) (hk:at_+k≤8*l.length) (h32:k≤32) (h:∃ i,i<k∧m i=true) :
  ∃ i j mm,mm.length≤31∧List.zipWith xor (bitsOf l) (bitsOf (flips l at_ m k))=List.replicate i false++(true::mm++List.replicate j false):=by
 obtain ⟨f,hf,hmf,hlow⟩:=first_of m k h
 refine ⟨at_+f,8*l.length-(at_+k),(List.range (k-1-f)).map fun x=>m (f+1+x),by simp;omega,?_⟩
 apply List.ext_getElem?
 intro j
 have hlen:=flips_len l at_ m k
 rw [List.getElem?_zipWith]
 by_cases hj:j<8*l.length
 ·rw [bitsOf_at l j hj,flips_at l at_ m j hj k hk]
  simp only
  have ex:∀ a b:Bool,(a ^^ (a ^^ b))=b:=by decide
  rw [ex]
  by_cases h1:j<at_+f
  ·rw [List.getElem?_append_left (by simpa using h1),List.getElem?_replicate,if_pos h1]
   by_cases h2:at_≤j
   ·rw [hlow (j-at_) (by omega)];simp
   ·simp [h2]
  ·rw [List.getElem?_append_right (by simp;omega),List.length_replicate]
   by_cases h2:j=at_+f
   ·have h3:at_≤j∧j<at_+k:=by omega
    have h4:j-at_=f:=by omega
    have h5:j-(at_+f)=0:=by omega
    rw [h5,h4]
    simp [h3,hmf]
   ·obtain ⟨d,hd⟩ : ∃ d,j-(at_+f)=d+1:=⟨j-(at_+f)-1,by omega⟩
    rw [hd,List.cons_append,List.getElem?_cons_succ]
    by_cases h3:j<at_+k
    ·rw [List.getElem?_append_left (by simp;omega),List.getElem?_map,List.getElem?_range (by omega)]
     have h4:at_≤j∧j<at_+k:=by omega
     have h5:j-at_=f+1+d:=by omega
     simp [h4,h5]
    ·rw [List.getElem?_append_right (by simp;omega),List.getElem?_replicate,if_pos (by simp;omega)]
     simp [h3]
 ·have e1:(bitsOf l)[j]? = none:=List.getElem?_eq_none (by rw [bitsOf_len];omega)
  rw [e1]
  symm
  simp only
  apply List.getElem?_eq_none
  simp
  omega
end Kx
namespace Mx
theorem decode_flips (im:Img) (at_:Nat) (m:Nat→Bool) (k:Nat) (hk:at_+k≤8*(encI im).length) (h32:k≤32) (h:∃ i,i<k∧m i=true):decode (Kx.flips (encI im) at_ m k)=none:=by
 obtain ⟨i,j,mm,h1,h2⟩:=Kx.flips_burst (encI im) at_ m k hk h32 h
 exact decode_burst (Kx.flips_len _ _ _ _).symm i j mm h1 h2
end Mx
end Go.Proofs.YtdjaiolfdbamcaaGreatDoor
/- Programs that rows make are right;nothing of the program is asked here. -/
namespace Go.Proofs.YtdjaiolfdbamcaaGreatDoor
namespace Mx
inductive Flow (p:List UInt8) (L N:Nat):Nat→Aw→Nat→Aw→Prop
 | refl (k:Nat) (a:Aw):Flow p L N k a k a
 | step {k k1 k2:Nat} {a a1 a2:Aw} (hk:k<p.length) (h:goOver p L N k a=some (k1,a1)) (f:Flow p L N k1 a1 k2 a2):Flow p L N k a k2 a2
theorem Flow.trans {p:List UInt8} {L N k k1 k2:Nat} {a a1 a2:Aw} (h:Flow p L N k a k1 a1) (g:Flow p L N k1 a1 k2 a2):Flow p L N k a k2 a2:=by
 induction h with
 | refl=>exact g
 | step hk h _ ih=>exact .step hk h (ih g)
theorem Flow.right {p:List UInt8} {L N k k2:Nat} {a a2:Aw} (h:Flow p L N k a k2 a2):∀ f,k2=p.length→a2=[]→p.length<f+k→rightF p L N f k a=true:=by
 induction h with
 | refl k a =>
  intro f e1 e2 hf
  subst e1 e2
  cases f with
  | zero=>omega
  | succ f=>simp [rightF]
 | step hk h _ ih =>
  intro f e1 e2 hf
  have hg:=goOver_gt h
  cases f with
  | zero=>omega
  | succ f =>
   simp only [rightF]
   rw [if_pos hk,h]
   exact ih f e1 e2 (by omega)
theorem flow_right {p:List UInt8} {L N:Nat} (h:Flow p L N 0 [(0,0)] p.length []):isRight p L N=true:=h.right _ rfl rfl (by omega)
theorem get_one (k c:Nat):Aw.get [(k,c)] k=some c:=by simp [Aw.get]
theorem del_one (k c:Nat):Aw.del [(k,c)] k=[]:=by simp [Aw.del]
theorem over_plain {p:List UInt8} {L N k c:Nat} {s:Shape} (hs:shapeOf (p.getD k 0)=some s) (hl:k+1+s.width≤p.length) (hc:s.takes≤c) (hn:named p L N k=true) (he:s.ends=false) (h2:p.getD k 0≠2) (h32:c-s.takes+s.puts≤32) :
  goOver p L N k [(k,c)]=some (k+1+s.width,[(k+1+s.width,c-s.takes+s.puts)]):=by
 unfold goOver
 rw [hs,get_one]
 simp only
 rw [if_neg (by rw [hn];simp;omega),if_neg (by simp [he]),if_neg h2,del_one]
 simp only [come]
 rw [if_neg (by omega)]
 simp [Aw.get,Aw.set,Aw.del]
theorem at_pre {pre c post:List UInt8} (i:Nat) (hi:i<c.length):(pre++c++post).getD (pre.length+i) 0=c[i]:=by
 rw [List.getD_eq_getElem?_getD,List.append_assoc,List.getElem?_append_right (by omega),List.getElem?_append_left (by omega)]
 simp [hi]
inductive GC (N:Nat):Nat→List UInt8→Prop
 | yes:GC N 1 [6]
 | ask {b wh lo hi:UInt8} (hb:b=7∨b=8) (hw:wh.toNat<N):GC N 1 [b,wh,lo,hi]
 | turn {n:Nat} {c:List UInt8} (h:GC N n c):GC N n (c++[5])
 | two {n m:Nat} {c d:List UInt8} {b:UInt8} (hb:b=3∨b=4) (h:GC N n c) (g:GC N m d):GC N (max n (m+1)) (c++d++[b])
theorem GC.pos {N n:Nat} {c:List UInt8} (h:GC N n c):1≤n:=by
 induction h <;> omega
theorem named_other {p:List UInt8} {L N k:Nat} (h1:p.getD k 0≠1) (h7:p.getD k 0≠7) (h8:p.getD k 0≠8):named p L N k=true:=by
 unfold named
 rw [if_neg h1,if_neg (fun h=>h.elim h7 h8)]
theorem flow_guard {L N n:Nat} {c:List UInt8} (h:GC N n c):∀ (pre post:List UInt8) (d:Nat),d+n≤32→Flow (pre++c++post) L N pre.length [(pre.length,d)] (pre.length+c.length) [(pre.length+c.length,d+1)]:=by
 induction h with
 | yes =>
  intro pre post d hd
  have h0:(pre++[6]++post).getD pre.length 0=6:=at_pre (c:=[6]) 0 (by simp)
  refine .step (by simp) (over_plain (s:=⟨0,0,1,false⟩) (by rw [h0];rfl) (by simp) (by simp) (named_other (by rw [h0];decide) (by rw [h0];decide) (by rw [h0];decide)) rfl (by rw [h0];decide) (by simp;omega)) ?_
  exact .refl _ _
 | @ask b wh lo hi hb hw =>
  intro pre post d hd
  have h0:(pre++[b,wh,lo,hi]++post).getD pre.length 0=b:=at_pre (c:=[b,wh,lo,hi]) 0 (by simp)
  have h1:(pre++[b,wh,lo,hi]++post).getD (pre.length+1) 0=wh:=at_pre (c:=[b,wh,lo,hi]) 1 (by simp)
  refine .step (by simp) (over_plain (s:=⟨3,0,1,false⟩) (by rw [h0];rcases hb with rfl | rfl <;> rfl) (by simp;omega) (by simp) ?_ rfl (by rw [h0];rcases hb with rfl | rfl <;> decide) (by simp;omega)) ?_
  ·unfold named
   rw [h0,h1,if_neg (by rcases hb with rfl | rfl <;> decide),if_pos hb]
   simpa using hw
  ·exact .refl _ _
 | @turn n c h ih =>
  intro pre post d hd
  have hp:=h.pos
  have f1:=ih pre ([5]++post) d hd
  have e1:pre++c++([5]++post)=pre++(c++[5])++post:=by simp
  rw [e1] at f1
  refine f1.trans ?_
  have h0:(pre++(c++[5])++post).getD (pre.length+c.length) 0=5:=by
   rw [at_pre (c:=c++[5]) c.length (by simp)];simp
  refine .step (by simp) (over_plain (s:=⟨0,1,1,false⟩) (by rw [h0];rfl) (by simp;omega) (by simp) (named_other (by rw [h0];decide) (by rw [h0];decide) (by rw [h0];decide)) rfl (by rw [h0];decide) (by simp;omega)) ?_
  have e2:pre.length+c.length+1+0=pre.length+(c++[5]).length:=by simp;omega
  show Flow _ _ _ (pre.length+c.length+1+0) [(pre.length+c.length+1+0,d+1-1+1)] _ _
  rw [e2]
  exact .refl _ _
 | @two n m c e b hb h g ih ig =>
  intro pre post d hd
  have hp:=h.pos
  have f1:=ih pre (e++[b]++post) d (by omega)
  have e1:pre++c++(e++[b]++post)=pre++(c++e++[b])++post:=by simp
  rw [e1] at f1
  refine f1.trans ?_
  have f2:=ig (pre++c) ([b]++post) (d+1) (by omega)
  have e2:pre++c++e++([b]++post)=pre++(c++e++[b])++post:=by simp
  rw [e2,List.length_append] at f2
  refine f2.trans ?_
  have h0:(pre++(c++e++[b])++post).getD (pre.length+c.length+e.length) 0=b:=by
   rw [Nat.add_assoc,at_pre (c:=c++e++[b]) (c.length+e.length) (by simp)];simp
  refine .step (by simp;omega) (over_plain (s:=⟨0,2,1,false⟩) (by rw [h0];rcases hb with rfl | rfl <;> rfl) (by simp;omega) (by simp) (named_other (by rw [h0];rcases hb with rfl | rfl <;> decide) (by rw [h0];rcases hb with rfl | rfl <;> decide) (by rw [h0];rcases hb with rfl | rfl <;> decide)) rfl (by rw [h0];rcases hb with rfl | rfl <;> decide) (by simp;omega)) ?_
  have e3:pre.length+c.length+e.length+1+0=pre.length+(c++e++[b]).length:=by simp;omega
  show Flow _ _ _ (pre.length+c.length+e.length+1+0) [(pre.length+c.length+e.length+1+0,d+1+1-2+1)] _ _
  rw [e3]
  exact .refl _ _
def EC (L:Nat) (e:List UInt8):Prop:=e=[0]∨∃ l:UInt8,e=[1,l]∧l.toNat<L
inductive RC (L N:Nat):List UInt8→Prop
 | mk {n:Nat} {c e:List UInt8} {lo hi:UInt8} (h:GC N n c) (hn:n≤32) (he:EC L e) (hl:Mx.two lo hi=e.length):RC L N (c++([2,lo,hi]++e))
theorem flow_row {L N:Nat} {r:List UInt8} (h:RC L N r) (pre post:List UInt8):Flow (pre++r++post) L N pre.length [(pre.length,0)] (pre.length+r.length) [(pre.length+r.length,0)]:=by
 obtain ⟨h,hn,he,hl⟩:=h
 rename_i n c e lo hi
 have hp:=h.pos
 have f1:=flow_guard (L:=L) h pre ([2,lo,hi]++e++post) 0 (by omega)
 have e1:pre++c++([2,lo,hi]++e++post)=pre++(c++([2,lo,hi]++e))++post:=by simp
 rw [e1] at f1
 refine f1.trans ?_
 obtain ⟨p,hpd⟩ : ∃ p,p=pre++(c++([2,lo,hi]++e))++post:=⟨_,rfl⟩
 have hat:∀ i,i<([2,lo,hi]++e).length→p.getD (pre.length+c.length+i) 0=([2,lo,hi]++e).getD i 0:=by
  intro i hi'
  rw [hpd,Nat.add_assoc,at_pre (c:=c++([2,lo,hi]++e)) (c.length+i) (by simp at hi' ⊢;omega),List.getElem_append_right (by omega),List.getD_eq_getElem?_getD,List.getElem?_eq_getElem hi']
  simp
 have hlen:pre.length+c.length+3+e.length≤p.length:=by rw [hpd];simp;omega
 rw [← hpd]
 clear hpd e1 f1
 have g0:p.getD (pre.length+c.length) 0=2:=hat 0 (by simp)
 have g1:p.getD (pre.length+c.length+1) 0=lo:=hat 1 (by simp)
 have g2:p.getD (pre.length+c.length+2) 0=hi:=hat 2 (by simp)
 have g3:∀ i,i<e.length→p.getD (pre.length+c.length+3+i) 0=e.getD i 0:=by
  intro i hi'
  have:=hat (3+i) (by simp;omega)
  rw [Nat.add_assoc,this,List.getD_eq_getElem?_getD,List.getD_eq_getElem?_getD,List.getElem?_append_right (by simp)]
  simp
 have hk:pre.length+(c++([2,lo,hi]++e)).length=pre.length+c.length+3+e.length:=by simp;omega
 rw [hk]
 clear hat hk
 generalize pre.length+c.length=k at *
 have he0:0<e.length:=by
  rcases he with rfl | ⟨l,rfl,_⟩ <;> simp
 refine .step (k1:=k+3) (a1:=[(k+3,0),(k+3+e.length,0)]) (by omega) ?_ ?_
 ·unfold goOver
  rw [g0,get_one]
  have hs:shapeOf 2=some ⟨2,1,0,false⟩:=rfl
  rw [hs]
  simp only
  rw [if_neg (by rw [named_other (by rw [g0];decide) (by rw [g0];decide) (by rw [g0];decide)];simp;omega),if_neg (by decide),if_pos trivial,del_one,g1,g2,hl]
  have hne:(k+3 == k+3+e.length)=false:=beq_eq_false_iff_ne.2 (by omega)
  have hne2:(k+3+e.length != k+3)=true:=bne_iff_ne.2 (by omega)
  simp [come,Aw.get,Aw.set,Aw.del,List.lookup,hne,show k+1+2=k+3 by omega,hne2]
 ·have hdel:Aw.del [(k+3,0),(k+3+e.length,0)] (k+3)=[(k+3+e.length,0)]:=by
   unfold Aw.del
   have hq:(k+3+e.length != k+3)=true:=bne_iff_ne.2 (by omega)
   simp only [List.filter,bne_self_eq_false,hq]
  rcases he with rfl | ⟨l,rfl,hlt⟩
  ·have q0:p.getD (k+3) 0=0:=g3 0 (by simp)
   refine .step (by simp at hlen;omega) (k1:=k+3+1) (a1:=[(k+3+1,0)]) ?_ (.refl _ _)
   unfold goOver
   rw [q0]
   have hs:shapeOf 0=some ⟨0,0,0,true⟩:=rfl
   rw [hs,show Aw.get [(k+3,0),(k+3 + [(0:UInt8)].length,0)] (k+3)=some 0 by simp [Aw.get]]
   simp only
   rw [if_neg (by rw [named_other (by rw [q0];decide) (by rw [q0];decide) (by rw [q0];decide)];simp at hlen ⊢;omega),if_pos trivial,hdel]
   rfl
  ·have q0:p.getD (k+3) 0=1:=g3 0 (by simp)
   have q1:p.getD (k+3+1) 0=l:=g3 1 (by simp)
   refine .step (by simp at hlen;omega) (k1:=k+3+2) (a1:=[(k+3+2,0)]) ?_ (.refl _ _)
   unfold goOver
   rw [q0]
   have hs:shapeOf 1=some ⟨1,0,0,true⟩:=rfl
   rw [hs,show Aw.get [(k+3,0),(k+3 + [(1:UInt8),l].length,0)] (k+3)=some 0 by simp [Aw.get]]
   simp only
   rw [if_neg (by
    have hn:named p L N (k+3)=true:=by
     unfold named
     rw [if_pos q0,q1];simpa using hlt
    rw [hn];simp at hlen ⊢;omega),if_pos trivial,hdel]
   rfl
theorem flow_rows {L N:Nat}:∀ (rs:List (List UInt8)),(∀ r∈rs,RC L N r)→∀ (pre post:List UInt8),Flow (pre++rs.flatten++post) L N pre.length [(pre.length,0)] (pre.length+rs.flatten.length) [(pre.length+rs.flatten.length,0)]
 | [],_,pre,post=>.refl _ _
 | r::rs,h,pre,post=>by
  have f1:=flow_row (h r (by simp)) pre (rs.flatten++post)
  have f2:=flow_rows rs (fun x hx=>h x (by simp [hx])) (pre++r) post
  rw [List.length_append] at f2
  have e1:pre++r++(rs.flatten++post)=pre++(r::rs).flatten++post:=by simp
  have e2:pre++r++rs.flatten++post=pre++(r::rs).flatten++post:=by simp
  have e3:pre.length+r.length+rs.flatten.length=pre.length+(r::rs).flatten.length:=by simp;omega
  rw [e1] at f1
  rw [e2,e3] at f2
  exact f1.trans f2
theorem rows_right {L N:Nat} (rs:List (List UInt8)) (h:∀ r∈rs,RC L N r):isRight (rs.flatten++[0]) L N=true:=by
 refine flow_right ?_
 have f:=flow_rows rs h [] [0]
 simp only [List.nil_append,List.length_nil,Nat.zero_add] at f
 refine f.trans ?_
 have h0:(rs.flatten++[0]).getD rs.flatten.length 0=(0:UInt8):=by simp
 refine .step (by simp) (k1:=(rs.flatten++[0]).length) (a1:=[]) ?_ (.refl _ _)
 unfold goOver
 rw [h0,get_one]
 have hs:shapeOf 0=some ⟨0,0,0,true⟩:=rfl
 rw [hs]
 simp only
 rw [if_neg (by rw [named_other (by rw [h0];decide) (by rw [h0];decide) (by rw [h0];decide)];simp),if_pos trivial,del_one]
 simp
end Mx
end Go.Proofs.YtdjaiolfdbamcaaGreatDoor
/- How many truths the code of a guard needs room for;nothing of the program is asked here. -/
namespace Go.Proofs.YtdjaiolfdbamcaaGreatDoor
open Hx
def need:G→Nat
 | .or l r=>max (need l) (need r+1)
 | .and l r=>max (need l) (need r+1)
 | .not g=>need g
 | .group _ g=>need g
 | .tru=>1
 | .atom _ _ _ _ _=>1
theorem der_need {L:Nat} {l l':List Hx.Tok} {g:G} (h:Der L l g l'):need g≤2*nest g+(if L=0 then 1 else if L≤2 then 2 else 3):=by
 induction h <;> simp [need,nest] at * <;> omega
def RowsIn (ms:List MA):Prop:=∀ m∈ms,∀ r∈m.rows,∃ l l',Der 4 l r.g l'
theorem rowsD_in {l l':List Hx.Tok} {rs:List RowA} (h:RowsD l rs l'):∀ r∈rs,∃ l l',Der 4 l r.g l':=by
 induction h with
 | nil=>intro r hr;cases hr
 | snoc h k ih =>
  intro r hr
  rcases List.mem_append.1 hr with hr | hr
  ·exact ih r hr
  ·obtain rfl:r=_:=List.mem_singleton.1 hr
   obtain ⟨l1,l2,_,_,hd,_⟩:=k
   exact ⟨l1,l2,hd⟩
theorem md_in {b:Bool} {l l':List Hx.Tok} {o:Int} {df:Bool} {d n:Nat} {ms:List MA} (h:MD b l o df d n ms l'):RowsIn ms:=by
 induction h with
 | none=>intro m hm;cases hm
 | dear _ _ _ ih ik =>
  intro m hm
  rcases List.mem_append.1 hm with hm | hm
  ·exact ih m hm
  ·exact ik m hm
 | more _ _ _ _ ih ik =>
  intro m hm
  rcases List.mem_append.1 hm with hm | hm
  ·exact ih m hm
  ·exact ik m hm
 | mode _ _ _ hr _ _ _ ih =>
  intro m hm
  rcases List.mem_cons.1 hm with rfl | hm
  ·exact rowsD_in hr
  ·exact ih m hm
end Go.Proofs.YtdjaiolfdbamcaaGreatDoor
/- The image of a table that is taken: as an image that loads;nothing of the program is asked here. -/
namespace Go.Proofs.YtdjaiolfdbamcaaGreatDoor
open Hx
def imgOf (vs:List VarA) (ms:List MA):Mx.Img:=⟨Cx.imVars vs,(Cx.leaves ms).map fun i=>((Cx.nameOf ms i).data.toList,Cx.program vs ms i),Cx.numberOf ms 0⟩
theorem imageOf_enc (vs:List VarA) (ms:List MA):Cx.imageOf vs ms=Mx.encI (imgOf vs ms):=by
 have hB:Cx.imBody vs ms=Mx.encB (imgOf vs ms):=by
  have h1:∀ l:List Nat,((l.map (Cx.imLeaf vs ms)).flatMap Cx.lfCode)=(l.map fun i=>((Cx.nameOf ms i).data.toList,Cx.program vs ms i)).flatMap Mx.encL:=by
   intro l
   induction l with
   | nil=>rfl
   | cons a t ih =>
    simp only [List.map_cons,List.flatMap_cons,ih]
    congr 1
    simp only [Cx.lfCode,Cx.imLeaf,Mx.encL,List.append_assoc]
    rfl
  have h2:∀ l:List (Int×Int),l.flatMap Cx.varCode=l.flatMap Mx.encV:=by
   intro l
   induction l with
   | nil=>rfl
   | cons a t ih=>simp only [List.flatMap_cons,ih];rfl
  unfold Cx.imBody Cx.encBody Mx.encB imgOf Cx.headCode
  rw [h1,h2]
  simp [Mx.hd]
 unfold Cx.imageOf Mx.encI
 rw [hB]
theorem num_lt {vs:List VarA} {gs:List MG} (h:TabOk vs gs) {i:Nat} (hi:i<gs.length):Cx.numberOf (gs.map (·.a)) i<(Cx.leaves (gs.map (·.a))).length :=
 List.findIdx_lt_length_of_exists ⟨_,enter_mem h _ i rfl hi,by simp⟩
theorem varIx_lt {vs:List VarA} {n:ByteArray} (h:vs.any (sameV n)=true):Cx.varIx vs n<vs.length:=by
 unfold Cx.varIx
 rw [List.any_eq_true] at h
 exact List.findIdx_lt_length_of_exists h
theorem gc_of {vs:List VarA} (hv:vs.length≤3):∀ (g:G),gOk vs g→Mx.GC (2*vs.length) (need g) (Cx.gCode vs g)
 | .or l r,h=>.two (.inr rfl) (gc_of hv l h.1) (gc_of hv r h.2)
 | .and l r,h=>.two (.inl rfl) (gc_of hv l h.1) (gc_of hv r h.2)
 | .not g,h=>.turn (gc_of hv g h)
 | .group _ g,h=>gc_of hv g h
 | .tru,_=>.yes
 | .atom w n o i _,h=>by
  have hx:=varIx_lt (show vs.any (sameV n.s)=true from h)
  have hw:(Cx.qOf vs w.isSome n o i).which<2*vs.length:=by
   simp only [Cx.qOf];split <;> omega
  simp only [Cx.gCode,Cx.Q.code,need]
  generalize Cx.qOf vs w.isSome n o i=q at *
  have hn:(UInt8.ofNat q.which).toNat<2*vs.length:=by rw [Mx.ofNat_toNat (by omega)];exact hw
  have ha:Mx.GC (2*vs.length) 1 ([if q.same then 8 else 7,UInt8.ofNat q.which]++Cx.two q.num):=.ask (by cases q.same <;> simp) hn
  unfold qCode
  cases q.turned with
  | true=>exact .turn ha
  | false=>simpa using ha
theorem rc_of {vs:List VarA} {gs:List MG} (hok:TabOk vs gs) (hl:(Cx.leaves (gs.map (·.a))).length≤12) (r:RowA) (hg:gOk vs r.g) (hn:need r.g≤32) (hd:destBad gs r=false):Mx.RC (Cx.leaves (gs.map (·.a))).length (2*vs.length) (Cx.rowCode vs (gs.map (·.a)) r):=by
 have hv:=hok.vars
 have he:Mx.EC (Cx.leaves (gs.map (·.a))).length (Cx.endCode (gs.map (·.a)) r):=by
  unfold Cx.endCode
  cases hx:r.dest with
  | none=>exact .inl rfl
  | some t =>
   refine .inr ⟨_,rfl,?_⟩
   have hm:Cx.modeIx (gs.map (·.a)) t.s<gs.length:=by
    unfold destBad at hd
    rw [hx] at hd
    have hd2:gs.any (sameM t.s)=true:=by simpa using hd
    obtain ⟨g,hg1,hg2⟩:=List.any_eq_true.1 hd2
    have:Cx.modeIx (gs.map (·.a)) t.s<(gs.map (·.a)).length:=List.findIdx_lt_length_of_exists ⟨g.a,List.mem_map.2 ⟨g,hg1,rfl⟩,hg2⟩
    simpa using this
   have:=num_lt hok hm
   rw [Mx.ofNat_toNat (by omega)]
   exact this
 have hlen:(Cx.endCode (gs.map (·.a)) r).length≤2:=by
  rcases he with e | ⟨l,e,_⟩ <;> rw [e] <;> simp
 have h2:=Mx.two_enc ((Cx.endCode (gs.map (·.a)) r).length:Int) (by omega) (by omega)
 have:=Mx.RC.mk (gc_of hv r.g hg) hn he (h2.trans (by omega))
 unfold Cx.rowCode
 rw [List.append_assoc,List.append_assoc]
 exact this
def progRows (vs:List VarA) (ms:List MA) (i:Nat):List (List UInt8):=(Cx.path ms i).flatMap fun j=>(Cx.rowsOf ms j).map (Cx.rowCode vs ms)
theorem program_rows (vs:List VarA) (ms:List MA) (i:Nat):Cx.program vs ms i=(progRows vs ms i).flatten++[0]:=by
 unfold Cx.program progRows
 congr 1
 generalize Cx.path ms i=l
 induction l with
 | nil=>rfl
 | cons a t ih=>simp only [List.flatMap_cons,List.flatten_append,ih];congr 1
theorem rowsOf_mem {ms:List MA} {j:Nat} {r:RowA} (h:r∈Cx.rowsOf ms j):∃ m∈ms,r∈m.rows:=by
 unfold Cx.rowsOf at h
 cases hx:ms[j]? with
 | none=>rw [hx] at h;cases h
 | some m=>rw [hx] at h;exact ⟨m,List.mem_of_getElem? hx,h⟩
theorem bad_in {n:Int} (h:badB n=false) : -1000≤n∧n≤1000:=by
 unfold badB at h
 simp at h
 omega
theorem leaves_le (ms:List MA):(Cx.leaves ms).length≤ms.length:=by
 unfold Cx.leaves Cx.leavesTo
 exact Nat.le_trans (List.length_filter_le _ _) (by simp)
theorem img_good {ts:List Hx.Tok} {vs:List VarA} {gs:List MG} (hD:TabD ts vs (gs.map (·.a))) (hL:Links gs) (h:TabAll vs gs):(imgOf vs (gs.map (·.a))).Room∧∀ l∈(imgOf vs (gs.map (·.a))).leaves,Mx.isRight l.2 (imgOf vs (gs.map (·.a))).leaves.length (2*(imgOf vs (gs.map (·.a))).vars.length)=true:=by
 have hok:=tab_ok hL h.fine h.some
 have hr:=tab_r h.fine
 obtain ⟨s,_,hrow⟩:=h.fine.row
 have hl12:(Cx.leaves (gs.map (·.a))).length≤12:=Nat.le_trans (leaves_le _) (by simpa using h.fine.modes)
 have hin:RowsIn (gs.map (·.a)):=by
  obtain ⟨t,m,e,r,hv,_,hm,_⟩:=hD
  exact md_in hm
 refine ⟨⟨?_,?_,?_,?_,?_⟩,?_⟩
 ·simpa [imgOf,Cx.imVars] using h.fine.vars
 ·simpa [imgOf] using hl12
 ·simpa [imgOf] using num_lt hok h.some
 ·intro p hp
  simp only [imgOf,Cx.imVars,List.mem_map] at hp
  obtain ⟨v,hv,rfl⟩:=hp
  obtain ⟨j,hj,rfl⟩:=List.getElem_of_mem hv
  obtain ⟨_,b1,b2,_⟩:=h.fine.var j hj
  have:=bad_in b1
  have:=bad_in b2
  simp only
  omega
 ·intro p hp
  simp only [imgOf,List.mem_map] at hp
  obtain ⟨i,hi,rfl⟩:=hp
  have hil:=leaf_lt hi
  refine ⟨?_,?_⟩
  ·simp only [Cx.nameOf]
   rw [List.getElem?_map,List.getElem?_eq_getElem hil]
   simp only [Option.map_some]
   exact h.names _ (List.getElem_mem hil)
  ·exact Nat.lt_of_le_of_lt (program_le vs hL hil) (by have:=h.total;omega)
 ·intro p hp
  have e1:(imgOf vs (gs.map (·.a))).leaves.length=(Cx.leaves (gs.map (·.a))).length:=by simp [imgOf]
  have e2:(imgOf vs (gs.map (·.a))).vars.length=vs.length:=by simp [imgOf,Cx.imVars]
  rw [e1,e2]
  simp only [imgOf,List.mem_map] at hp
  obtain ⟨i,hi,rfl⟩:=hp
  simp only
  rw [program_rows]
  refine Mx.rows_right _ (fun c hc=>?_)
  unfold progRows at hc
  obtain ⟨j,_,hc⟩:=List.mem_flatMap.1 hc
  obtain ⟨r,hr1,rfl⟩:=List.mem_map.1 hc
  obtain ⟨m,hm,hrm⟩:=rowsOf_mem hr1
  obtain ⟨g,hg,rfl⟩:=List.mem_map.1 hm
  obtain ⟨l,l',hder⟩:=hin g.a hm r hrm
  have hnd:=der_need hder
  have hdp:=h.deep g hg r hrm
  simp at hnd
  exact rc_of hok hl12 r (hrow g hg r hrm).1.ok (by omega) (hrow g hg r hrm).2
end Go.Proofs.YtdjaiolfdbamcaaGreatDoor
/- The walk of pick (of the statements' own): which of n things a raw number speaks of. -/
namespace Go.Proofs.YtdjaiolfdbamcaaGreatDoor
open Go.RowKit
namespace Kx
def pick (c:Int) (n:Nat):Nat:=((if c<0 then -(c+1) else c) % (n:Int)).toNat
theorem pick_lt (c:Int) (n:Nat) (h:0<n):pick c n<n:=by
 have h1:=Int.emod_nonneg (if c<0 then -(c+1) else c) (show (n:Int)≠0 by omega)
 have h2:=Int.emod_lt_of_pos (if c<0 then -(c+1) else c) (show (0:Int)<n by omega)
 unfold pick
 omega
end Kx
theorem pick_any (c:Int) (n:Nat) (w:World) (hc : -9223372036854775808≤c∧c≤9223372036854775807) (hn:0<n) (hn2:n≤1000000000000000000) :
  Calls Tryz.prog 19 #[.int .i64 c,.int .i64 n] w fun e w'=>e=.returned (.int .i64 (Kx.pick c n:Nat))∧w'=w:=by
 have hx:∀ x:Int,0≤x→((x % (n:Int)).toNat:Int)=x % n:=fun x _=>Int.toNat_of_nonneg (Int.emod_nonneg x (by omega))
 unfold Kx.pick
 by_cases h:c<0
 ·rw [if_pos h,hx _ (by omega)]
  have ht : -((c+1).tmod n) = -(c+1) % (n:Int):=by rw [← Int.neg_tmod,Int.tmod_eq_emod_of_nonneg (by omega)]
  have HT:=hide ht
  clear ht
  go_enter Tryz.func19,Tryz.ntmps19
  go_wp2
  go_ret
  have ht:=HT.out
  exact ⟨by go_num,rfl⟩
 ·rw [if_neg h,hx _ (by omega)]
  go_enter Tryz.func19,Tryz.ntmps19
  go_wp2
  go_ret
  exact ⟨by go_num,rfl⟩
end Go.Proofs.YtdjaiolfdbamcaaGreatDoor
/- The walk of Carried,over contracts of what it calls. -/
namespace Go.Proofs.YtdjaiolfdbamcaaGreatDoor
open Go.RowKit
def LoadS (bs:List UInt8) (w:World) (e:Ending) (w':World):Prop:=Below w.heap.size w w'∧match Mx.load bs with
 | none=>e=.returned (.tuple #[.pointer none,.bool false])
 | some _=>∃ p,e=.returned (.tuple #[.pointer (some p),.bool true])
structure ImgOk (bs:List UInt8):Prop where
 enc:∃ im:Mx.Img,bs=Mx.encI im∧im.Room
 load:(Mx.load bs).isSome=true
 len:bs.length≤60000
def CompG (w:World) (e:Ending) (w':World):Prop :=
 ∃ (img:ByteArray) (code:Int) (line:Nat) (nm:ByteArray) (av au:Option Addr) (nv cv nu cu:Nat),e=.returned (.tuple #[.string img,.agg #[.int .i64 code,.int .i64 line,.string nm,.slice av nv cv,.slice au nu cu]])∧(code=0→∃ bs,img=bstr bs∧ImgOk bs)∧Below w.heap.size w w'
def CompG0 (w:World) (e:Ending) (w':World):Prop :=
 ∃ (bs:List UInt8) (code:Int) (line:Nat) (nm:ByteArray) (av au:Option Addr) (nv cv nu cu:Nat),e=.returned (.tuple #[.string (bstr bs),.agg #[.int .i64 code,.int .i64 line,.string nm,.slice av nv cv,.slice au nu cu]])∧ImgOk bs∧Below w.heap.size w w'
def maskB (mk:Int) (k:Nat):Bool:=bits BinOp.and IntKind.i64 (mk/2 ^ k) 1 == 1
def FlB (W:World) (g:Nat) (l:List UInt8):Prop:=∃ sp fr,W.heap[g]? = some (.cells ((l.map Cx.bV).toArray++sp) 5 fr)∧l.length≤fr.1
theorem flB_new {w:World} {l:List UInt8} {Y:World} (h:Y.heap[w.heap.size]? = some (.cells (Lib.bytesCells w 5 (bstr l)) 5 ((Lib.bytesCells w 5 (bstr l)).size,(Lib.bytesCells w 5 (bstr l)).size+1))):FlB Y w.heap.size l:=by
 have e:Lib.bytesCells w 5 (bstr l)=(l.map Cx.bV).toArray++Array.replicate (grownCap w (bstr l).size 0 5-(bstr l).size) (.int .u8 0):=by
  unfold Lib.bytesCells
  congr 1
  simp [bstr,Cx.bV]
 rw [e] at h
 exact ⟨_,_,h,by simp⟩
theorem xor8 (a b:Nat) (ha:a<256) (hb:b<256):bits .xor .u8 (a:Int) (b:Int)=((a ^^^ b:Nat):Int):=by
 have h1:(BitVec.ofInt 8 (a:Int)).toNat=a:=by
  rw [BitVec.ofInt_natCast,BitVec.toNat_ofNat];exact Nat.mod_eq_of_lt (by omega)
 have h2:(BitVec.ofInt 8 (b:Int)).toNat=b:=by
  rw [BitVec.ofInt_natCast,BitVec.toNat_ofNat];exact Nat.mod_eq_of_lt (by omega)
 have hw:∀ n:Int,IntKind.u8.wrap n=n % 256:=fun n=>by simp [IntKind.wrap,IntKind.bits,IntKind.signed]
 have hb':bits .xor .u8 (a:Int) (b:Int)=IntKind.u8.wrap (((BitVec.ofInt 8 (a:Int)).toNat ^^^ (BitVec.ofInt 8 (b:Int)).toNat:Nat):Int):=by
  rw [← BitVec.toNat_xor];rfl
 have h3:a ^^^ b<2 ^ 8:=Nat.xor_lt_two_pow (n:=8) ha hb
 rw [hb',h1,h2,hw]
 omega
theorem set_heapF {w:World} {d o:Nat} {cs:Array Value} {T:TypeId} {v:Value} {fr:Nat×Nat} (h:w.heap[d]? = some (.cells cs T fr)) :
  (w.setCell ⟨d,o,none⟩ v).heap[d]? = some (.cells (cs.setIfInBounds o v) T fr):=by
 rw [setCell_eq_setRow w d o _ _ _ _ h,setRow_heap w d _ _ _ _ h]
theorem frozen_off {w:World} {b j:Nat} {cs:Array Value} {T:TypeId} {fr:Nat×Nat} (h:w.heap[b]? = some (.cells cs T fr)) (hj:j<fr.1):w.frozen? ⟨b,j,none⟩=false:=by
 unfold World.frozen?
 rw [h]
 obtain ⟨lo,hi⟩:=fr
 simp only at hj ⊢
 have:¬ lo≤j:=by omega
 simp [this]
theorem flB_set {w:World} {g:Nat} {l:List UInt8} (h:FlB w g l) (i:Nat) (hi:i/8<l.length) (x:UInt8) (hx:x=l.getD (i/8) 0):FlB (w.setCell ⟨g,i/8,none⟩ (.int .u8 ((x.toNat ^^^ 2 ^ (i % 8):Nat):Int))) g (Kx.flip l i):=by
 obtain ⟨sp,fr,hh,hf⟩:=h
 refine ⟨sp,fr,?_,by rw [Kx.flip_len];exact hf⟩
 rw [set_heapF hh]
 congr 2
 rw [Array.setIfInBounds_append_left (by simpa using hi)]
 congr 1
 apply Array.ext'
 simp only [Array.toList_setIfInBounds]
 unfold Kx.flip
 apply List.ext_getElem?
 intro n
 rw [List.getElem?_set,List.getElem?_map,List.getElem?_map,List.getElem?_modify]
 by_cases e:i/8=n
 ·subst e
  have hlt:x.toNat ^^^ 2 ^ (i % 8)<2 ^ 8:=Nat.xor_lt_two_pow x.toNat_lt (Nat.pow_lt_pow_right (by decide) (by omega))
  rw [if_pos rfl,if_pos (by simpa using hi),List.getElem?_eq_getElem hi]
  have hx2:x=l[i/8]:=by rw [hx,List.getD_eq_getElem?_getD,List.getElem?_eq_getElem hi];rfl
  simp only [if_true,Option.map_eq_map,Option.map_some,Cx.bV,← hx2]
  rw [UInt8.toNat_ofNat',Nat.mod_eq_of_lt hlt]
 ·rw [if_neg e]
  simp [e]
theorem flips_load {bs:List UInt8} (h:ImgOk bs) (a:Nat) (m:Nat→Bool) (k:Nat) (hk:a+k≤8*bs.length) (h32:k≤32) (tn:Bool) (ht:tn=(List.range k).any m):(Mx.load (Kx.flips bs a m k)).isSome=!tn:=by
 cases tn with
 | false =>
  rw [Kx.flips_none bs a m k (fun i hi=>by
   cases hm:m i with
   | false=>rfl
   | true=>exact absurd ht (by rw [List.any_eq_true.2 ⟨i,List.mem_range.2 hi,hm⟩];simp))]
  exact h.load
 | true =>
  obtain ⟨i,hi,hm⟩:=List.any_eq_true.1 ht.symm
  obtain ⟨im,rfl,_⟩:=h.enc
  rw [Mx.load_none (Mx.decode_flips im a m k hk h32 ⟨i,List.mem_range.1 hi,hm⟩)]
  rfl
theorem carried_walk (s:ByteArray) (c1 mk ct:Int) (w:World) (h1 : -9223372036854775808≤c1∧c1≤9223372036854775807) (h3 : -9223372036854775808≤ct∧ct≤9223372036854775807)
  (hAW:Calls Tryz.prog 28 #[] w fun e w'=>e=.returned (.bool true)∧Below w.heap.size w w')
  (hCS:∀ W,Below w.heap.size w W→Calls Tryz.prog 18 #[.string s] W (CompG W))
  (hCR:∀ W,Below w.heap.size w W→Calls Tryz.prog 18 #[.string ⟨#[118,97,114,32,120,32,48,32,46,46,32,57,59,10,109,111,100,101,32,116,111,112,32,123,32,100,101,102,97,117,108,116,32,109,111,100,101,32,108,111,119,32,123,32,119,104,101,110,32,120,32,62,32,53,32,116,111,32,104,105,103,104,59,32,119,104,101,110,32,120,32,60,61,32,53,32,115,116,97,121,59,32,125,10,32,109,111,100,101,32,104,105,103,104,32,123,32,119,104,101,110,32,120,32,60,32,51,32,116,111,32,108,111,119,59,32,119,104,101,110,32,110,111,116,32,120,32,60,32,51,32,115,116,97,121,59,32,125,32,125]⟩] W (CompG0 W))
  (hLD:∀ W bs,bs.length≤70000→Calls Tryz.prog 33 #[.string (bstr bs)] W (LoadS bs W)) :
  Calls Tryz.prog 10 #[.string s,.int .i64 c1,.int .i64 mk,.int .i64 ct] w fun e w'=>e=.returned (.bool true)∧Below w.heap.size w w':=by
 have HAW:=hide hAW
 have HCS:=hide hCS
 have HCR:=hide hCR
 have HLD:=hide hLD
 clear hAW hCS hCR hLD
 go_enter Tryz.func10,Tryz.ntmps10
 go_wp2_with fail
 refine HAW.out.mono ?_
 rintro e w1 ⟨rfl,hb1⟩
 have HB1:=hide hb1
 clear hb1 HAW
 go_wp2_with fail
 refine (HCS.out w1 HB1.out).mono ?_
 rintro e w2 ⟨img,code,line,nm,av,au,nv,cv,nu,cu,rfl,hc,hb2⟩
 have hX1:=heap_alloc_new w2 (.cells #[.int .i64 code,.int .i64 line,.string nm,.slice av nv cv,.slice au nu cu] 34)
 have HB2:=hide ((HB1.out.trans (hb2.mono HB1.out.size)).alloc (HB1.out.trans (hb2.mono HB1.out.size)).size (.cells #[.int .i64 code,.int .i64 line,.string nm,.slice av nv cv,.slice au nu cu] 34))
 have a0:=Lib.cell_of_heap hX1 0
 clear hX1 hb2 HCS HB1
 have HC:=hide hc
 clear hc
 by_cases hz:code=0
 case' neg =>
  have hz2:(code != 0)=true:=by simpa using hz
  clear HC
  go_wp2_with fail
  generalize w2.alloc (.cells #[.int .i64 code,.int .i64 line,.string nm,.slice av nv cv,.slice au nu cu] 34)=X at *
  refine (HCR.out X HB2.out).mono ?_
  rintro e w3 ⟨bs,code',line',nm',av',au',nv',cv',nu',cu',rfl,hok,hb3⟩
  have HB3:Hid (Below w.heap.size w w3):=hide (HB2.out.trans (hb3.mono HB2.out.size))
  have hl4:4≤bs.length:=by obtain ⟨im,e,_⟩:=hok.enc;rw [e,Mx.encI_len];omega
  have hl6:=hok.len
  have hbz:=bstr_size bs
  have HOK:=hide hok
  have h4i:¬ ((bstr bs).size:Int)<4:=by omega
  have h6i:¬ (60000:Int)<((bstr bs).size:Int):=by omega
  clear hb3 HB2 hz2 a0 hz hok
  go_wp2_with fail
 case' pos =>
  obtain ⟨bs,rfl,hok⟩:=HC.out hz
  have hz2:(code != 0)=false:=by simpa using hz
  obtain ⟨w3,hw3⟩ : ∃ w3,w3=w2.alloc (.cells #[.int .i64 code,.int .i64 line,.string nm,.slice av nv cv,.slice au nu cu] 34):=⟨_,rfl⟩
  have HW3:=hide hw3
  have HB3:Hid (Below w.heap.size w w3):=hide (by rw [hw3];exact HB2.out)
  have hl4:4≤bs.length:=by obtain ⟨im,e,_⟩:=hok.enc;rw [e,Mx.encI_len];omega
  have hl6:=hok.len
  have hbz:=bstr_size bs
  have HOK:=hide hok
  have h4i:¬ ((bstr bs).size:Int)<4:=by omega
  have h6i:¬ (60000:Int)<((bstr bs).size:Int):=by omega
  clear hz HC HCR HB2 hw3 hok
  go_wp2_with fail
  rw [← HW3.out]
  clear HW3 a0 hz2
 all_goals
  have hcv:=conv_any w3 (bstr bs)
  rw [hbz] at hcv
  rw [hcv]
  obtain ⟨Y,hY⟩ : ∃ Y,Y=Lib.bytesWorld w3 5 (bstr bs):=⟨_,rfl⟩
  rw [← hY]
  have hYH:=Lib.bytesWorld_at_new w3 5 (bstr bs)
  rw [← hY] at hYH
  have HBY:Hid (Below w3.heap.size w3 Y):=hide (by rw [hY];exact Lib.bytesWorld_below w3 _ _)
  have HYH:=hide hYH
  generalize grownCap w3 bs.length 0 5=cp
  obtain ⟨L,hL⟩ : ∃ L,L=bs.length:=⟨_,rfl⟩
  have hP:=pick_any c1 (8*L) Y h1 (by omega) (by omega)
  rw [show ((8*L:Nat):Int)=8*(L:Int) by omega] at hP
  have HP:=hide hP
  rw [← hL] at hl4 hl6 ⊢
  clear hcv hY hYH hP h4i h6i
  have HL:=hide hL
  rw [← hL] at hbz
  clear hL
  go_wp2_with fail
  refine HP.out.mono ?_
  rintro e w' ⟨rfl,hw'⟩
  obtain rfl:=hw'.symm
  obtain ⟨a,ha⟩ : ∃ a,a=Kx.pick c1 (8*L):=⟨_,rfl⟩
  have hal:a<8*L:=by rw [ha];exact Kx.pick_lt _ _ (by omega)
  rw [← ha]
  clear ha HP
  have HY0:Hid (FlB Y w3.heap.size (Kx.flips bs a (maskB mk) 0)):=hide (flB_new HYH.out)
  go_wp2_with fail
  go_loopg [14,15] 32 (fun m v14 v15 wr=>∃ k:Nat,k+m=32∧v15=.int .i64 k∧a+k≤8*L∧v14=.bool ((List.range k).any (maskB mk))∧FlB wr w3.heap.size (Kx.flips bs a (maskB mk) k)∧Kp (fun b=>b=w3.heap.size) Y wr)
  case atStart=>exact ⟨0,by omega,rfl,by omega,rfl,HY0.out,Kp.refl _ _⟩
  case round =>
   obtain ⟨k,hkm,rfl,hak,rfl,hF,hK⟩:=hrel
   have HF:=hide hF
   have HK:=hide hK
   clear hF hK HY0
   by_cases hlt:k<32∧a+k<8*L
   ·obtain ⟨hk3,hk8⟩:=hlt
    have hk3i:(k:Int)<32:=by omega
    have hk8i:(a:Int)+(k:Int)<8*(L:Int):=by omega
    have hmk:maskB mk k=(bits BinOp.and IntKind.i64 (mk/2 ^ k) 1 == 1):=rfl
    cases hm:maskB mk k with
    | false =>
     have hmk2:(bits BinOp.and IntKind.i64 (mk/2 ^ k) 1 == 1)=false:=hmk.symm.trans hm
     have HM:=hide hm
     clear hmk hm
     go_wp2_with fail
     go_roundg (32-(k+1))
     case measure=>omega
     case rel=>exact ⟨k+1,by omega,by go_num,by omega,by rw [List.range_succ,List.any_append];simp [HM.out],by simp only [Kx.flips];rw [HM.out];exact HF.out,HK.out⟩
    | true =>
     have hmk2:(bits BinOp.and IntKind.i64 (mk/2 ^ k) 1 == 1)=true:=hmk.symm.trans hm
     have HM:=hide hm
     clear hmk hm
     obtain ⟨sp,fr,hH,hfr⟩:=HF.out
     have hfl:(Kx.flips bs a (maskB mk) k).length=L:=by rw [Kx.flips_len];exact HL.out.symm
     obtain ⟨j,hj⟩ : ∃ j,j=(a+k)/8:=⟨_,rfl⟩
     have hjL:j<L:=by omega
     obtain ⟨x,hx⟩ : ∃ x,x=(Kx.flips bs a (maskB mk) k).getD j 0:=⟨_,rfl⟩
     have x0:wr.cell? ⟨w3.heap.size,j,none⟩=some (.int .u8 (x.toNat:Int)):=by
      rw [Lib.cell_of_heap hH j,Array.getElem?_append_left (by simp;omega),hx]
      simp [Cx.bV,hfl,hjL]
     have f0:wr.frozen? ⟨w3.heap.size,j,none⟩=false:=frozen_off hH (by omega)
     have hji:(j:Int)<L:=by omega
     have hj0:(0:Int)≤j:=by omega
     have hq1:((a:Int)+(k:Int))/8=j:=by omega
     have hq2:((a:Int)+(k:Int)).tdiv 8=j:=by rw [Int.tdiv_eq_ediv_of_nonneg (by omega)];omega
     obtain ⟨b8,hb8⟩ : ∃ b8,b8=(a+k) % 8:=⟨_,rfl⟩
     have hq3:((a:Int)+(k:Int)) % 8=b8:=by omega
     have hq4:((a:Int)+(k:Int)).tmod 8=b8:=by rw [Int.tmod_eq_emod_of_nonneg (by omega)];omega
     have hb80:(0:Int)≤b8:=by omega
     have hb81:(b8:Int)<8:=by omega
     have HJ:=hide (And.intro hj hb8)
     have HX:=hide hx
     clear hj hb8 hx hH
     go_wp2_with fail
     go_region
     have hxv:bits BinOp.xor IntKind.u8 (x.toNat:Int) (2 ^ b8 % 256)=((x.toNat ^^^ 2 ^ ((a+k) % 8):Nat):Int):=by
      have hb8n:b8<8:=by omega
      have hp8:2 ^ b8<2 ^ 8:=Nat.pow_lt_pow_right (by decide) hb8n
      have e:((2:Int) ^ b8 % 256)=((2 ^ b8:Nat):Int):=by
       rw [show (2:Int) ^ b8=((2 ^ b8:Nat):Int) by simp];exact Int.emod_eq_of_lt (Int.natCast_nonneg _) (Int.ofNat_lt.2 hp8)
      rw [e,xor8 _ _ x.toNat_lt hp8,HJ.out.2]
     rw [hxv]
     have HF2:Hid (FlB (wr.setCell ⟨w3.heap.size,j,none⟩ (.int .u8 ((x.toNat ^^^ 2 ^ ((a+k) % 8):Nat):Int))).drew w3.heap.size (Kx.flips bs a (maskB mk) (k+1))):=hide (by
      have h:=flB_set HF.out (a+k) (by rw [hfl,← HJ.out.1];exact hjL) x (by rw [← HJ.out.1];exact HX.out)
      rw [← HJ.out.1] at h
      simp only [Kx.flips]
      rw [HM.out]
      exact h)
     have HK2:Hid (Kp (fun b=>b=w3.heap.size) Y (wr.setCell ⟨w3.heap.size,j,none⟩ (.int .u8 ((x.toNat ^^^ 2 ^ ((a+k) % 8):Nat):Int))).drew):=hide ((HK.out.setCell (p:=⟨w3.heap.size,j,none⟩) (.inl rfl) _).drew)
     generalize (wr.setCell ⟨w3.heap.size,j,none⟩ (.int .u8 ((x.toNat ^^^ 2 ^ ((a+k) % 8):Nat):Int))).drew=wq at *
     clear hxv x0 f0
     go_wp2_with fail
     go_roundg (32-(k+1))
     case measure=>omega
     case rel=>exact ⟨k+1,by omega,by go_num,by omega,by rw [List.range_succ,List.any_append];simp [HM.out],HF2.out,HK2.out⟩
   ·have hfl:(Kx.flips bs a (maskB mk) k).length=L:=by rw [Kx.flips_len];exact HL.out.symm
    obtain ⟨sp,fr,hH,hfr⟩:=HF.out
    have hbk:(convert 64 9 (.slice (some ⟨w3.heap.size,0,none⟩) L cp)).run Tryz.prog wr=.ok (.string (bstr (Kx.flips bs a (maskB mk) k))) wr:=by
     have h:=back_any wr w3.heap.size cp (Kx.flips bs a (maskB mk) k) (fun j hj=>by
      rw [Lib.cell_of_heap hH j,Array.getElem?_append_left (by simpa using hj)]
      simp [hj])
     rw [hfl] at h
     exact h
    have HBW:Hid (Below w.heap.size w wr):=hide ((HB3.out.trans (HBY.out.mono HB3.out.size)).trans (HK.out.toBelow (fun b e=>by have e':b=w3.heap.size:=e;have:=HB3.out.size;omega) (Nat.le_trans HB3.out.size HBY.out.size)))
    obtain ⟨tn,htn⟩ : ∃ tn,tn=(List.range k).any (maskB mk):=⟨_,rfl⟩
    have HWH:Hid ((Mx.load (Kx.flips bs a (maskB mk) k)).isSome=!tn):=hide (flips_load HOK.out a (maskB mk) k (by rw [← HL.out];omega) (by omega) tn htn)
    rw [← htn]
    have HL1:=hide (HLD.out wr (Kx.flips bs a (maskB mk) k) (by omega))
    unfold LoadS at HL1
    generalize Kx.flips bs a (maskB mk) k=fl at *
    clear hH hfr HF HK htn
    by_cases hk32:k<32
    case' pos =>
     have hk3i:(k:Int)<32:=by omega
     have hk8i:¬ (a:Int)+(k:Int)<8*(L:Int):=by omega
     go_wp2_with fail
    case' neg =>
     have hk3i:¬ (k:Int)<32:=by omega
     go_wp2_with fail
    all_goals
     refine HL1.out.mono ?_
     rintro e w5 ⟨hb5,hr5⟩
     have HB5:Hid (Below w.heap.size w w5):=hide (HBW.out.trans (hb5.mono HBW.out.size))
     clear hb5 HL1 hbk
     obtain ⟨pv,hpv⟩ : ∃ pv:Option Addr,e=.returned (.tuple #[.pointer pv,.bool (!tn)])∧(pv.isSome=!tn):=by
      have hw:=HWH.out
      cases hx:Mx.load fl with
      | none=>rw [hx] at hr5 hw;simp only at hr5;refine ⟨none,?_,hw⟩;rw [hr5,← hw];rfl
      | some q=>rw [hx] at hr5 hw;simp only at hr5;obtain ⟨z,hz⟩:=hr5;refine ⟨some z,?_,hw⟩;rw [hz,← hw];rfl
     obtain ⟨rfl,hpv⟩:=hpv
     clear hr5
     have HPC:=hide (pick_any ct L w5 h3 (by omega) (by omega))
     go_wp2_with fail
     refine HPC.out.mono ?_
     rintro e w' ⟨rfl,hw'⟩
     obtain rfl:=hw'.symm
     obtain ⟨pc,hpc⟩ : ∃ pc,pc=Kx.pick ct L:=⟨_,rfl⟩
     have hpl:pc<L:=by rw [hpc];exact Kx.pick_lt _ _ (by omega)
     rw [← hpc]
     clear hpc HPC
     have hL2:=HLD.out w5 (bs.take pc) (by rw [List.length_take];omega)
     have hn2:Mx.load (bs.take pc)=none:=by
      obtain ⟨im,e,hr⟩:=HOK.out.enc
      rw [e]
      exact Mx.load_none (Mx.decode_front hr pc (by rw [← e,← HL.out];exact hpl))
     unfold LoadS at hL2
     rw [hn2,← bstr_take] at hL2
     have HL2:=hide hL2
     have hp0:(0:Int)≤pc:=by omega
     have hpi:(pc:Int)≤L:=by omega
     clear hL2 hn2
     go_wp2_with fail
     refine HL2.out.mono ?_
     rintro e w6 ⟨hb6,rfl⟩
     have HB6:Hid (Below w.heap.size w w6):=hide (HB5.out.trans (hb6.mono HB5.out.size))
     clear hb6 HL2
     have hL3:=HLD.out w6 (bs++[120]) (by simp;omega)
     have hn3:Mx.load (bs++[120])=none:=by
      obtain ⟨im,e,hr⟩:=HOK.out.enc
      rw [e]
      exact Mx.load_none (Mx.decode_more hr 120)
     unfold LoadS at hL3
     rw [hn3,show bstr (bs++[120])=bstr bs++⟨#[120]⟩ by apply ByteArray.ext;simp [bstr]] at hL3
     have HL3:=hide hL3
     clear hL3 hn3
     go_wp2_with fail
     refine HL3.out.mono ?_
     rintro e w7 ⟨hb7,rfl⟩
     have HB7:Hid (Below w.heap.size w w7):=hide (HB6.out.trans (hb7.mono HB6.out.size))
     clear hb7 HL3
     cases tn with
     | true =>
      obtain rfl:pv=none:=by simpa using hpv
      go_wp2_with fail
      go_ret
      exact ⟨rfl,HB7.out⟩
     | false =>
      obtain ⟨pz,rfl⟩ : ∃ pz,pv=some pz:=Option.isSome_iff_exists.1 hpv
      go_wp2_with fail
      go_ret
      exact ⟨rfl,HB7.out⟩
end Go.Proofs.YtdjaiolfdbamcaaGreatDoor
/- Carried answers true: what it calls,in short;its walk. -/
namespace Go.Proofs.YtdjaiolfdbamcaaGreatDoor
open Go.RowKit
theorem img_ok {ts:List Hx.Tok} {vs:List VarA} {gs:List MG} (hD:TabD ts vs (gs.map (·.a))) (hL:Links gs) (h:TabAll vs gs):ImgOk (Cx.imageOf vs (gs.map (·.a))):=by
 obtain ⟨hr,hg⟩:=img_good hD hL h
 have hl:(Cx.imageOf vs (gs.map (·.a))).length≤60000:=by
  have hb:=h.body hL
  have e:(Cx.imageOf vs (gs.map (·.a))).length=(Cx.imBody vs (gs.map (·.a))).length+4:=by unfold Cx.imageOf;rw [List.length_append,Mx.sum_len]
  omega
 refine ⟨⟨_,imageOf_enc vs _,hr⟩,?_,hl⟩
 rw [imageOf_enc] at hl ⊢
 rw [Mx.load_enc hr hl hg]
 rfl
theorem comp_g {s:ByteArray} {w:World} {e:Ending} {w':World} (h:CompR s w e w'):CompG w e w':=by
 obtain ⟨hb,hc⟩:=h
 rcases hc with ⟨code,line,rfl,hf,hc⟩ | ⟨ts,vs,gs,ht,hd,hl,ha,hm⟩
 ·exact ⟨⟨#[]⟩,code,line,⟨#[]⟩,none,none,0,0,0,0,rfl,fun h=>absurd h (by omega),hb⟩
 ·cases hx:Cx.find vs (gs.map (·.a)) with
  | none =>
   rw [hx] at hm
   subst hm
   exact ⟨_,0,0,⟨#[]⟩,none,none,0,0,0,0,rfl,fun _=>⟨_,rfl,img_ok hd hl ha⟩,hb⟩
  | some cx =>
   obtain ⟨code,nm,l⟩:=cx
   rw [hx] at hm
   obtain ⟨v,u,rfl,h1,h2,_⟩:=hm
   obtain ⟨av,cv,rfl,_,_⟩:=row_shape h1
   obtain ⟨au,cu,rfl,_,_⟩:=row_shape h2
   refine ⟨⟨#[]⟩,code,0,nm,av,au,_,cv,_,cu,rfl,fun h=>?_,hb⟩
   rcases find_code hx with e | e <;> omega
theorem comp_g0 {w:World} {e:Ending} {w':World} (h:CompR ⟨rightL.toArray⟩ w e w'):CompG0 w e w':=by
 have hs:=comp_s h
 obtain ⟨img,code,line,nm,av,au,nv,cv,nu,cu,rfl,hi,hb⟩:=comp_g h
 obtain ⟨img',code',line',nm',av',au',nv',cv',nu',cu',e,hc,_⟩:=hs
 have h0:=(comp_right hc).1
 have e2:code'=code:=by
  simp only [Ending.returned.injEq,Value.tuple.injEq,Array.mk.injEq,List.cons.injEq,Value.agg.injEq,Value.int.injEq] at e
  exact e.2.1.1.2.symm
 obtain ⟨bs,rfl,hok⟩:=hi (by rw [← e2];exact h0)
 exact ⟨bs,code,line,nm,av,au,nv,cv,nu,cu,rfl,hok,hb⟩
theorem carried_any (s:ByteArray) (c1 mk ct:Int) (w:World) (h1 : -9223372036854775808≤c1∧c1≤9223372036854775807) (h3 : -9223372036854775808≤ct∧ct≤9223372036854775807) (hs:s.size≤maxLen) (hsg:SignsIs w) (htab:∀ W,Below w.heap.size w W→Lib.TabIs Tryz.prog W "internal/strconv.uint64pow10" .u64 Lib.pow10Tab) :
  Calls Tryz.prog 10 #[.string s,.int .i64 c1,.int .i64 mk,.int .i64 ct] w fun e w'=>e=.returned (.bool true)∧Below w.heap.size w w':=by
 refine carried_walk s c1 mk ct w h1 h3 (awake_any w hsg htab) (fun W hW=>?_) (fun W hW=>?_) (fun W bs hl=>?_)
 ·exact (compile_any s W hs (hsg.below hW (Nat.le_refl _)) (fun V hV=>htab V (hW.trans (hV.mono hW.size)))).mono fun _ _ h=>comp_g h
 ·exact (compile_any ⟨rightL.toArray⟩ W (by unfold maxLen;decide +kernel) (hsg.below hW (Nat.le_refl _)) (fun V hV=>htab V (hW.trans (hV.mono hW.size)))).mono fun _ _ h=>comp_g0 h
 ·refine (Load_any W bs (by unfold maxLen;omega)).mono fun e w' h=>?_
  obtain ⟨hb,hm⟩:=h
  refine ⟨hb,?_⟩
  cases hx:Mx.load bs with
  | none=>rw [hx] at hm;exact hm
  | some im=>rw [hx] at hm;obtain ⟨M,_,e,_⟩:=hm;exact ⟨_,e⟩
end Go.Proofs.YtdjaiolfdbamcaaGreatDoor
