/- Walks of a token's Is and of what stands between two tokens. -/
import Derived.Test.YtdjaiolfdbamcaaGreatDoorZWScan1
import Derived.Deep.CutRange
import Derived.Lib.AppendIntMem
set_option maxRecDepth 20000
set_option maxHeartbeats 1000000
namespace Go.Proofs.YtdjaiolfdbamcaaGreatDoor
variable {a w w' w1:World}{b g line n:Nat}{c0 c1 c2 c3 c4 v:Value}{q r:ByteArray}{e:Ending}{F:Nat->Prop}{l:List UInt8}
section
open Go.RowKit
def aq(t:Hx.Tok)(m:List UInt8):Bool:=(ao t.k==3)&&(t.s.toList==m)
theorem xZ(t:Hx.Tok)(m:ByteArray)(w:World):
  Calls Tryz.prog 110 #[zz t,.string m] w λe w'=>e=.returned (.bool (aq t m.toList))/\Below w.heap.size w w':=by
 unfold zz aq;generalize ao t.k=k
 cases hk:(k==3)with
 |true=>
  go_enter Tryz.func110,Tryz.ntmps110;go_wp2;go_ret;exact⟨bC (by simp),(Below.refl _ _).alloc (Nat.le_refl _) _⟩
 |false=>
  go_enter Tryz.func110,Tryz.ntmps110;go_wp2;go_ret;exact⟨bC (by simp),(Below.refl _ _).alloc (Nat.le_refl _) _⟩
theorem Tryz.infoByte:(Tryz.prog.info? 5).map (λi=>(i.zero,i.size,i.bytes))=some (some (.int .u8 0),1,1):=by kernel_rfl
def kC(w:World)(gt:Nat)(ts:List Hx.Tok):Prop:=∀i (hi:i<ts.length),
 w.cell? ⟨gt,i*4,none⟩=some (.int .i64 (ao ts[i].k))/\w.cell? ⟨gt,i*4+1,none⟩=some (.string ts[i].s)/\w.cell? ⟨gt,i*4+2,none⟩=some (.int .i64 ts[i].n)/\w.cell? ⟨gt,i*4+3,none⟩=some (.int .i64 ts[i].line)
end
section
end
section
namespace Hx
theorem ve(f:Nat):∀n,n<10^(f+1)->g8 f n=Lib.decDigits n:=by
 induction f with
 |zero=>
  simp_all[Lib.decDigits,g8,Nat.mod_eq_of_lt]
 |succ f ih=>
  intro n h;rw[Lib.decDigits,g8]
  grind
theorem DN(n:Int)(h0:-9999<=n)(h1:n<=9999):iy n=Lib.itoa n:=by
 grind[ve,iy,Lib.itoa]
theorem aac(l:List UInt8):∀(acc:Nat),(∀c∈l,bq c=true)->∃m:Nat,Lib.decFrom acc l=some m/\(m:Int)=l.foldl (λa c=>10*a+(c.toNat:Int)-48) (acc:Int)/\(m:Int)<(acc+1)*10^l.length:=by
 induction l with
 |nil=>intro acc _;exact⟨acc,rfl,rfl,by grind⟩
 |cons c r ih=>
  intro acc h;have hc:48<=c.toNat/\c.toNat<=57:=by
   have:=h c (by simp);simp only [bq,Bool.and_eq_true,decide_eq_true_eq,UInt8.le_iff_toNat_le]at this;exact this
  obtain⟨m,h1,h2,h3⟩:=ih (acc*10+(c.toNat-48)) (λx hx=>h x (by simp[hx]));refine⟨m,?_,?_,?_⟩
  ·simp_all[Lib.decFrom,Lib.digitVal]
  ·grind
  ·refine Int.lt_of_lt_of_le h3 ?_
   rw[List.length_cons,Int.pow_succ,Int.mul_comm ((10)^r.length) 10,<-Int.mul_assoc];exact Int.mul_le_mul_of_nonneg_right (by omega) (Int.le_of_lt (Int.pow_pos (by omega)))
theorem S0(p:UInt8->Bool)(l:List UInt8):∀c∈l.take (aB p l),p c=true:=by
 induction l with
 |nil=>simp
 |cons a r ih=>
  intro c hc
  cases ha:p a with
  |false=>grind[aB]
  |true=>
   simp only [aB,ha,if_true,List.take_succ_cons,List.mem_cons]at hc
   grind
theorem vf(l:List UInt8)(d:Nat)(hd:aB bq l=d)(h0:0<d)(h4:¬4<d):
  Lib.atoi (l.take d)=some (numOf (l.take d))/\Lib.atoi (45::l.take d)=some (-numOf (l.take d))/\0<=numOf (l.take d)/\numOf (l.take d)<=9999:=by
 subst hd;have iO:=S0 bq l;have hle:=fC bq l;have hlen:(l.take (aB bq l)).length=aB bq l:=by rw[List.length_take];omega
 generalize l.take (aB bq l)=t at*;obtain⟨m,h1,h2,h3⟩:=aac t 0 iO;have hm:numOf t=m:=h2.symm;have hp:((0:Nat)+1:Int)*10^t.length<=10000:=by
  rw[hlen];generalize aB bq l=d at*
  match d with
  |0|1|2|3|4=>decide
  |d+5=>omega
 cases t with
 |nil=>grind
 |cons c r=>
  have hc:48<=c.toNat/\c.toNat<=57:=by
   have:=iO c (by simp);simp only [bq,Bool.and_eq_true,decide_eq_true_eq,UInt8.le_iff_toNat_le]at this;exact this
  have n1:(c==45)=false:=by rw[beq_eq_false_iff_ne];rintro rfl;exact absurd hc.1 (by decide)
  have n2:(c==43)=false:=by rw[beq_eq_false_iff_ne];rintro rfl;exact absurd hc.1 (by decide)
  have hn:Lib.decNat (c::r)=some m:=by rw[Lib.decNat];exact h1
  refine⟨?_,?_,by omega,by omega⟩
  all_goals simp_all[Lib.atoi]
end Hx
end
section
open Go.RowKit
namespace Hx
def nt:List (List UInt8):=[[46,46],[60,61],[61,61],[33,61],[62,61],[123],[125],[40],[41],[59],[60],[62]]
def em:List (List UInt8)->List UInt8->Nat
 |[],_=>0
 |p::r,l=>if Lib.hasPrefix l p then p.length else em r l
theorem fl(a c:UInt8):(a==c)=(c==a):=BEq.comm
theorem S1:em nt []=bg []:=by decide
theorem Hs(a:UInt8):em nt [a]=bg [a]:=by
 simp only [em,nt,Lib.hasPrefix,List.isPrefixOf,bg];simp only [Bool.and_false,Bool.and_true,Bool.false_eq_true,if_false,fl a]
 by_cases h1:((123:UInt8)==a)=true
 ·simp[h1]
 by_cases h2:((125:UInt8)==a)=true
 all_goals grind
theorem S2(a b:UInt8)(r:List UInt8):em nt (a::b::r)=bg (a::b::r):=by
 simp only [em,nt,Lib.hasPrefix,List.isPrefixOf,bg];simp only [Bool.and_true,fl a,fl b]
 by_cases g1:((46:UInt8)==a&&(46:UInt8)==b)=true
 ·grind
 by_cases g2:((60:UInt8)==a&&(61:UInt8)==b)=true
 ·grind
 by_cases g3:((61:UInt8)==a&&(61:UInt8)==b)=true
 ·grind
 by_cases g4:((33:UInt8)==a&&(61:UInt8)==b)=true
 ·grind
 by_cases g5:((62:UInt8)==a&&(61:UInt8)==b)=true
 ·grind
 simp only [g1,g2,g3,g4,g5,Bool.or_false,Bool.false_eq_true,if_false];have:=Hs a;simp only [em,nt,Lib.hasPrefix,List.isPrefixOf,bg]at this
 grind
theorem OT(l:List UInt8):em nt l=bg l:=by
 rcases l with _|⟨a,_|⟨b,r⟩⟩
 ·exact S1
 ·exact Hs a
 ·exact S2 a b r
theorem aad:nt.length=12:=rfl
theorem S3(l:List UInt8)(k:Nat)(hk:k<nt.length)(e:Lib.hasPrefix l nt[k]=true):em (nt.drop k) l=nt[k].length:=by
 rw[List.drop_eq_getElem_cons hk,em,if_pos e]
theorem OU(l:List UInt8)(k:Nat)(hk:k<nt.length)(e:Lib.hasPrefix l nt[k]=false):em (nt.drop k) l=em (nt.drop (k+1)) l:=by
 rw[List.drop_eq_getElem_cons hk,em,if_neg (by simp[e])]
theorem OV(l:List UInt8)(k:Nat)(hk:nt.length<=k):em (nt.drop k) l=0:=by
 rw[List.drop_of_length_le hk,em]
theorem OW(l p:List UInt8)(h:Lib.hasPrefix l p=true):p.length<=l.length:=by
 obtain⟨t,rfl⟩:=List.isPrefixOf_iff_prefix.1 h;simp
end Hx
def uo:Array Value:=#[.string ⟨#[46,46]⟩,.string ⟨#[60,61]⟩,.string ⟨#[61,61]⟩,.string ⟨#[33,61]⟩,.string ⟨#[62,61]⟩,.string ⟨#[123]⟩,.string ⟨#[125]⟩,.string ⟨#[40]⟩,.string ⟨#[41]⟩,.string ⟨#[59]⟩,.string ⟨#[60]⟩,.string ⟨#[62]⟩]
theorem ajM:∀k:Nat,(h:k<Hx.nt.length)->uo[k]?=some (.string ⟨Hx.nt[k].toArray⟩):=by
 intro k h;have:k<12:=h;rcases k with _|_|_|_|_|_|_|_|_|_|_|_|k
 all_goals first|rfl|omega
def fg(w:World):Prop:=∃t fr,w.heap[0]?=some (.cells uo t fr)
theorem mD{j:Nat}(hn:b≠g)(h:w.cell? ⟨b,j,none⟩=some v):
  ((((w.setCell ⟨g,0,none⟩ c0).setCell ⟨g,1,none⟩ c1).setCell ⟨g,2,none⟩ c2).setCell ⟨g,3,none⟩ c3).cell? ⟨b,j,none⟩=some v:=by
 simp_all[World.cell?_setCell_other]
theorem aae(k:Nat)(h:k<Hx.nt.length):0<(⟨Hx.nt[k].toArray⟩:ByteArray).size:=by
 have:k<12:=h;rcases k with _|_|_|_|_|_|_|_|_|_|_|_|k
 all_goals first|omega|(simp[Hx.nt,ByteArray.size])
theorem S4(W:World)(k:Nat)(hk:k<Hx.nt.length):(Instr.index 293 (.agg uo) (.int .i64 k)).run Tryz.prog W=.ok (.string ⟨Hx.nt[k].toArray⟩) W:=by
 have:k<12:=hk;unfold uo;rcases k with _|_|_|_|_|_|_|_|_|_|_|_|k
 all_goals first|omega|simp[go_sem,Instr.index,Hx.nt]
namespace Hx
theorem S5(q:ByteArray)(line:Nat)(h0:0<q.size)(hm:¬q[0]=45)(hl:jk q[0]=false)(hd:bq q[0]=false):
  dP q.data.toList line=if bg q.data.toList=0 then none else some (bg q.data.toList,⟨115,q.extract 0 (bg q.data.toList),0,line⟩):=by
 have hl':¬(97<=(q[0].toNat:Int)/\(q[0].toNat:Int)<=122):=by
  have:=mr q[0];rw[hl]at this;simp at this;omega
 have hs:=mp bq q 0 h0 hd
 by_cases hn:bg q.data.toList=0
 ·rw[if_pos hn];exact kO q 0 line ⟨h0,hm,hl'⟩ hs hn
 ·rw[if_neg hn];have:=tZ q 0 _ line ⟨h0,hm,hl'⟩ hs rfl hn;grind
end Hx
theorem EQ(w:World)(b:Nat)(q:ByteArray)(line:Nat)(h:dg w b q line)(h0:0<q.size)(hm:¬q[0]=45)(vW:Hx.jk q[0]=false)(hdi:Hx.bq q[0]=false)(rk:fg w):
  Calls Tryz.prog 153 #[.pointer (some ⟨b,0,none⟩)] w λe w'=>mE w b q line e w':=by
 have HS:=ae h;have HT:=ae (Hx.S5 q line h0 hm vW hdi);have HF:=ae (Hx.OT q.data.toList);clear hm vW hdi;obtain⟨tg,fr,hg⟩:=rk;have vh:=(Array.getElem?_eq_some_iff.1 hg).1;obtain⟨s0,s1,s2,s3,s4,s5,s6,s7,s8,s9,s10,s11⟩:=ae8 hg;have HG:=ae hg;clear hg;obtain⟨c0,c1,f0,f1,hl⟩:=h;go_enter Tryz.func153,Tryz.ntmps153;go_wp2_with fail
 go_loop [7] (λn=>∃k:Nat,k<=12/\n=.int .i64 k/\Hx.em (Hx.nt.drop k) q.data.toList=Hx.bg q.data.toList) (λn=>12-(intOf n).toNat)
 case atStart=>exact⟨0,by omega,rfl,HF.out⟩
 case round=>
  obtain⟨k,hk,rfl,hh⟩:=hrel;clear s0 s1 s2 s3 s4 s5 s6 s7 s8 s9 s10 s11;have H:=ae hh;clear hh
  by_cases hlt:k<12
  ·have rM:(k:Int)<12:=by omega
   have jf:(0:Int)<=k:=by omega
   have OX:=λW=>S4 W k hlt
   obtain⟨sk,OY⟩:∃sk:ByteArray,sk=⟨Hx.nt[k].toArray⟩:=⟨_,rfl⟩;rw[<-OY]at OX;have HK:=ae OY;clear OY;simp only [uo]at OX;go_wp2_with fail;clear OX;refine(Tryz.strings_HasPrefix q sk _).mono ?_;rintro e w1 ⟨rfl,rfl⟩
   cases hp:Lib.hasPrefix q.data.toList sk.data.toList with
   |false=>
    go_wp2_with fail
    go_round
    case rel=>exact⟨k+1,by omega,by go_num,by rw[<-H.out,Hx.OU _ k hlt (by rw[HK.out]at hp;omega)]⟩
    case measure=>grind[intOf]
   |true=>
    have hsz:=by have:=Hx.OW _ _ hp;simpa using this
    have HE:Hid (sk.size=Hx.bg q.data.toList):=ae (by rw[<-H.out,Hx.S3 _ k hlt (by rw[HK.out]at hp;omega),HK.out];simp[ByteArray.size]);have hs0:0<sk.size:=by rw[HK.out];exact aae k hlt
    have hne:b≠w.heap.size:=by omega
    have hL:∀o,((w.setCell ⟨b,0,none⟩ (.string (q.extract sk.size q.size))).alloc o).drew.cell? ⟨b,1,none⟩=some (.int .i64 line):=λo=>((HS.out.vX _).below ((Below.refl _ _).alloc (Nat.le_refl _) o)).line
    go_wp2_with fail
    go_region_held3 (λW=>W.cell? ⟨b,1,none⟩=some (.int .i64 line)) (first|with_reducible exact hL _|with_reducible exact mD hne (hL _)|go_keep)
     ((go_at_call 147;refine(kD _ b q line sk.size ?_ hsz).mono ?_;exact HS.out.below ((Below.refl _ _).alloc (Nat.le_refl _) _).drew;rintro e w1 ⟨rfl,rfl⟩))
    go_wp2_with fail;refine bodyPost_ret (v:=.tuple #[.agg #[.int .i64 3,.string (q.extract 0 sk.size),.int .i64 0,.int .i64 line],.bool true]) (by simp[results,Tryz.results153,go_sem]) rfl ?_;refine⟨(((Kp.refl (λk=>k=b) w).setCell (.inl rfl) _).alloc _).drew,?_⟩;rw[HT.out,<-HE.out,if_neg (by omega)];exact⟨rfl,(HS.out.vX _).below (((Below.refl _ _).alloc (Nat.le_refl _) _).drew),hs0,hsz⟩
  ·have HZ:Hid (Hx.bg q.data.toList=0):=ae (by rw[<-H.out];grind[Hx.OV,Hx.aad])
   go_wp2_with fail;refine bodyPost_ret (v:=.tuple #[lJ,.bool false]) (by simp[results,Tryz.results153,go_sem,lJ]) rfl ?_;refine⟨(Kp.refl _ _).alloc _,?_⟩;rw[HT.out,if_pos HZ.out];exact⟨rfl,HS.out.below ((Below.refl _ _).alloc (Nat.le_refl _) _)⟩
namespace Hx
structure aew(q:ByteArray)(line Et d:Nat):Prop where
 le:Et+d<=q.size
 zero:d=0->dP q.data.toList line=none
 al7:0<d->4<d->dP q.data.toList line=none
 val:0<d->¬4<d->∃v:Int,Lib.atoi (q.extract 0 (Et+d)).data.toList=some v/\-9999<=v/\v<=9999/\dP q.data.toList line=some (Et+d,⟨105,⟨(Lib.itoa v).toArray⟩,v,line⟩)
theorem tE(q:ByteArray)(n:Nat):(q.extract 0 n).data.toList=q.data.toList.take n:=by simp
theorem acl(q:ByteArray)(line d:Nat)(h0:0<q.size)(hn:¬q[0]=45)(ar4:bq q[0]=true)(hd:aB bq q.data.toList=d):aew q line 0 d:=by
 have hd0:0<d:=by rw[<-hd];have:=mo bq q 0 h0 ar4;simp only [List.drop_zero]at this;omega
 refine⟨?_,λh=>by omega,λ_ h4=>Dw q 0 d line ⟨h0,hn⟩ hd hd0 h4,λ_ h4=>?_⟩
 ·have:=fC bq q.data.toList;simp_all
 ·obtain⟨a,_,b,c⟩:=vf q.data.toList d hd hd0 h4
  refine⟨_,by simp_all,by omega,c,?_⟩;rw[<-DN _ (by omega) c];exact GU q 0 d line _ ⟨h0,hn⟩ hd hd0 h4 rfl
theorem acm(q:ByteArray)(line d:Nat)(h0:0<q.size)(hm:q[0]=45)(hd:aB bq (q.data.toList.drop 1)=d):aew q line 1 d:=by
 have hc:q.data.toList=45::q.data.toList.drop 1:=by have:=drop_one q 0 h0;rw[hm]at this;simpa using this
 refine⟨?_,λh=>?_,λhd0 h4=>Dv q 0 d line ⟨h0,hm⟩ hd hd0 h4,λhd0 h4=>?_⟩
 ·have:=fC bq (q.data.toList.drop 1);rw[hd,List.length_drop]at this;simp at this;omega
 ·refine oD q 0 line ⟨h0,hm,by rw[hm];decide⟩ (hd.trans h) ?_
  rw[List.drop_zero,hc]
  cases q.data.toList.drop 1<;>rfl
 ·obtain⟨_,a,b,c⟩:=vf (q.data.toList.drop 1) d hd hd0 h4
  refine⟨-numOf ((q.data.toList.drop 1).take d),?_,?_,?_,?_⟩
  ·grind[tE,Nat.add_comm]
  ·omega
  ·omega
  ·rw[<-DN _ (by omega) (by omega)]
   exact GR q 0 d line _ ⟨h0,hm⟩ hd hd0 h4 rfl
end Hx
theorem pZ(hn:b≠g)(h:dg w b r line):
  dg ((((w.setCell ⟨g,0,none⟩ c0).setCell ⟨g,1,none⟩ c1).setCell ⟨g,2,none⟩ c2).setCell ⟨g,3,none⟩ c3) b r line:=by
 have hb:∀j:Nat,((((w.setCell ⟨g,0,none⟩ c0).setCell ⟨g,1,none⟩ c1).setCell ⟨g,2,none⟩ c2).setCell ⟨g,3,none⟩ c3).frozen? ⟨b,j,none⟩=w.frozen? ⟨b,j,none⟩:=λj=>by simp
 exact⟨mD hn h.rest,mD hn h.line,(hb 0).trans h.JL,(hb 1).trans h.JN,by simpa using h.lies⟩
theorem iM(w:World)(e:TypeId)(t:ByteArray):Below w.heap.size w (Lib.bytesWorld w e t):=
 Lib.below_freeze ((Below.drew (Below.refl _ w)).alloc (Nat.le_refl _) _) (p:=⟨w.heap.size,_,none⟩) (Nat.le_refl _) 1
theorem JP(w:World)(b:Nat)(q:ByteArray)(line:Nat)(h:dg w b q line)(hq:q.size<=3000)(h0:0<q.size)(hm:q[0]=45)
  (ic:∀W,Kp (λk=>k=b) w W->Lib.TabIs Tryz.prog W "internal/strconv.uint64pow10" .u64 Lib.pow10Tab):
  Calls Tryz.prog 152 #[.pointer (some ⟨b,0,none⟩)] w λe w'=>mE w b q line e w':=by
 have HS:=ae h;have FO:=ae ic;clear ic;obtain⟨c0,c1,f0,f1,hl⟩:=h;go_enter Tryz.func152,Tryz.ntmps152;generalize hd:Hx.aB Hx.bq (q.data.toList.drop 1)=d;have HI:=ae (Hx.acm q line d h0 hm hd);have HE:=ae (show Hx.aB Hx.bq (q.extract 1 q.size).data.toList=d by grind[En]);have HY:=ae (Hx.fN (m:=45) rfl hm);have hle:=HI.out.le;clear hd hm;have hy:=HY.out;have h1q:(1:Int)<=q.size:=by omega
 go_wp2_with fail;refine(JK (q.extract 1 q.size) _ (by simp;omega)).mono ?_;rintro e w1 ⟨rfl,rfl⟩;rw[HE.out]
 by_cases d0:d=0
 ·have HT:=ae (HI.out.zero d0)
  subst d0;go_wp2_with fail;refine bodyPost_ret (v:=.tuple #[lJ,.bool false]) (by simp[results,Tryz.results152,go_sem,lJ]) rfl ?_;refine⟨(Kp.refl _ _).alloc _,?_⟩;rw[HT.out];exact⟨rfl,HS.out.below ((Below.refl _ _).alloc (Nat.le_refl _) _)⟩
 ·by_cases d4:4<d
  ·have HT:=ae (HI.out.al7 (by omega) d4)
   go_wp2_with fail;refine bodyPost_ret (v:=.tuple #[lJ,.bool false]) (by simp[results,Tryz.results152,go_sem,lJ]) rfl ?_;refine⟨(Kp.refl _ _).alloc _,?_⟩;rw[HT.out];exact⟨rfl,HS.out.below ((Below.refl _ _).alloc (Nat.le_refl _) _)⟩
  ·obtain⟨v,v1,v2,v3,v4⟩:=HI.out.val (by omega) d4
   have HT:=ae v4;have HV:=ae v1;clear v4 v1;obtain⟨n,hn⟩:∃n,n=1+d:=⟨_,rfl⟩;rw[<-hn]at HT HV hle;have hn4:n<=5/\0<n:=by omega
   have HN:=ae hn;clear hn;have eu:((d:Int)==0)=false:=by simpa using d0
   have hz4:¬((4:Int)<d):=by omega
   go_wp2_with fail;rw[show(1+(d))=((n):Int) by have:=HN.out;omega];refine(kD _ b q line n (HS.out.below ((Below.refl _ _).alloc (Nat.le_refl _) _)) hle).mono ?_;rintro e w1 ⟨rfl,rfl⟩;go_wp2_with fail;refine(Tryz.strconv_Atoi (q.extract 0 n) v (by simp;omega) HV.out _).mono ?_;rintro e w1 ⟨rfl,t,lh⟩;have K1:Hid (Below w.heap.size (w.setCell ⟨b,0,none⟩ (.string (q.extract n q.size))) ((w.setCell ⟨b,0,none⟩ (.string (q.extract n q.size))).alloc (.cells #[.int .i64 0,.string ⟨#[]⟩,.int .i64 0,.int .i64 0] 149))):=ae ((Below.refl _ _).alloc (by simp) _);have jX:w1.heap[w.heap.size]?=some (.cells #[.int .i64 0,.string ⟨#[]⟩,.int .i64 0,.int .i64 0] 149 (0,0)):=by
    rw[lh,((iM _ 5 t).block w.heap.size (by simp))];have:=heap_alloc_new (w.setCell ⟨b,0,none⟩ (.string (q.extract n q.size))) (.cells #[.int .i64 0,.string ⟨#[]⟩,.int .i64 0,.int .i64 0] 149);simpa using this
   have vo:Hid (Kp (λk=>k=b) w w1):=ae (by rw[lh];exact(((Kp.refl (λk=>k=b) w).setCell (.inl rfl) _).alloc _).below (iM _ 5 t));have Lu:Hid (dg w1 b (q.extract n q.size) line):=ae (by rw[lh];exact((HS.out.vX _).below ((Below.refl _ _).alloc (Nat.le_refl _) _)).below (iM _ 5 t));have nW:=Lu.out.line;have gI:=(Array.getElem?_eq_some_iff.1 jX).1;have fM:=ae jX;clear lh jX K1 c0 c1 f0 f1;have hne:b≠w.heap.size:=by omega
   have hv0:-9223372036854775808<=v:=by omega
   have nG:v<=9223372036854775807:=by omega
   have mU:=ae (FO.out _ vo.out.drew);go_wp2_with fail
   go_region_held3 (λW=>W.cell? ⟨b,1,none⟩=some (.int .i64 line)) (first|with_reducible assumption|with_reducible exact mD hne kq|exact nW)
    ((go_at_call 194;refine(Tryz.strconv_Itoa v hv0 nG _ mU.out).mono ?_;rintro e w2 ⟨rfl,kd,os,mh⟩;have aT:=mh▸Lib.below_grow w1.heap.size w1.drew (Nat.le_refl _) kd os;clear mh;have kq:=(aT.cell (Nat.lt_trans hl gI)).trans nW;have iB:=(aT.block w.heap.size gI).trans fM.out;obtain⟨x0,x1,x2,x3⟩:=nE iB;have g0:=Lib.frozen_of_heap iB 0;have g1:=Lib.frozen_of_heap iB 1;have g2:=Lib.frozen_of_heap iB 2;have g3:=Lib.frozen_of_heap iB 3;have Qg:=ae iB;have dH:=ae aT;clear iB aT;generalize hit:(⟨(Lib.itoa v).toArray⟩:ByteArray)=tx;have HIT:=ae hit;clear hit))
   go_wp2_with fail;refine bodyPost_ret (v:=.tuple #[.agg #[.int .i64 2,.string tx,.int .i64 v,.int .i64 line],.bool true]) (by simp[results,Tryz.results152,go_sem, *]) rfl ?_;have pT:=ae (vo.out.drew.below (by simpa using dH.out));refine⟨(((pT.out.setCell (.inr (Nat.le_refl _)) _).setCell (.inr (Nat.le_refl _)) _).setCell (.inr (Nat.le_refl _)) _).setCell (.inr (Nat.le_refl _)) _,?_⟩;rw[HT.out];refine⟨by rw[<-HIT.out];rfl,?_,by omega,hle⟩;exact pZ hne ((Lu.out.below ((Below.refl _ _).drew)).below (by simpa using dH.out))
theorem JQ(w:World)(b:Nat)(q:ByteArray)(line:Nat)(h:dg w b q line)(hq:q.size<=3000)(h0:0<q.size)(hm:¬q[0]=45)(al9:Hx.bq q[0]=true)
  (ic:∀W,Kp (λk=>k=b) w W->Lib.TabIs Tryz.prog W "internal/strconv.uint64pow10" .u64 Lib.pow10Tab):
  Calls Tryz.prog 152 #[.pointer (some ⟨b,0,none⟩)] w λe w'=>mE w b q line e w':=by
 have HS:=ae h;have FO:=ae ic;clear ic;obtain⟨c0,c1,f0,f1,hl⟩:=h;go_enter Tryz.func152,Tryz.ntmps152;generalize hd:Hx.aB Hx.bq q.data.toList=d;have HI:=ae (Hx.acl q line d h0 hm al9 hd);have HE:=ae hd;have HY:=ae (Hx.iu (m:=45) rfl hm);have hle:d<=q.size:=by have:=HI.out.le;omega
 clear hd hm al9;have hy:=HY.out;go_wp2_with fail;refine(JK q _ hq).mono ?_;rintro e w1 ⟨rfl,rfl⟩;rw[HE.out]
 by_cases d0:d=0
 ·have HT:=ae (HI.out.zero d0)
  subst d0;go_wp2_with fail;refine bodyPost_ret (v:=.tuple #[lJ,.bool false]) (by simp[results,Tryz.results152,go_sem,lJ]) rfl ?_;refine⟨(Kp.refl _ _).alloc _,?_⟩;rw[HT.out];exact⟨rfl,HS.out.below ((Below.refl _ _).alloc (Nat.le_refl _) _)⟩
 ·by_cases d4:4<d
  ·have HT:=ae (HI.out.al7 (by omega) d4)
   go_wp2_with fail;refine bodyPost_ret (v:=.tuple #[lJ,.bool false]) (by simp[results,Tryz.results152,go_sem,lJ]) rfl ?_;refine⟨(Kp.refl _ _).alloc _,?_⟩;rw[HT.out];exact⟨rfl,HS.out.below ((Below.refl _ _).alloc (Nat.le_refl _) _)⟩
  ·obtain⟨v,v1,v2,v3,v4⟩:=HI.out.val (by omega) d4
   have HT:=ae v4;have HV:=ae v1;clear v4 v1;rw[Nat.zero_add]at HT HV;have hn4:d<=5/\0<d:=by omega
   have eu:((d:Int)==0)=false:=by simpa using d0
   have hz4:¬((4:Int)<d):=by omega
   go_wp2_with fail;refine(kD _ b q line d (HS.out.below ((Below.refl _ _).alloc (Nat.le_refl _) _)) hle).mono ?_;rintro e w1 ⟨rfl,rfl⟩;go_wp2_with fail;refine(Tryz.strconv_Atoi (q.extract 0 d) v (by simp;omega) HV.out _).mono ?_;rintro e w1 ⟨rfl,t,lh⟩;have K1:Hid (Below w.heap.size (w.setCell ⟨b,0,none⟩ (.string (q.extract d q.size))) ((w.setCell ⟨b,0,none⟩ (.string (q.extract d q.size))).alloc (.cells #[.int .i64 0,.string ⟨#[]⟩,.int .i64 0,.int .i64 0] 149))):=ae ((Below.refl _ _).alloc (by simp) _);have jX:w1.heap[w.heap.size]?=some (.cells #[.int .i64 0,.string ⟨#[]⟩,.int .i64 0,.int .i64 0] 149 (0,0)):=by
    rw[lh,((iM _ 5 t).block w.heap.size (by simp))];have:=heap_alloc_new (w.setCell ⟨b,0,none⟩ (.string (q.extract d q.size))) (.cells #[.int .i64 0,.string ⟨#[]⟩,.int .i64 0,.int .i64 0] 149);simpa using this
   have vo:Hid (Kp (λk=>k=b) w w1):=ae (by rw[lh];exact(((Kp.refl (λk=>k=b) w).setCell (.inl rfl) _).alloc _).below (iM _ 5 t));have Lu:Hid (dg w1 b (q.extract d q.size) line):=ae (by rw[lh];exact((HS.out.vX _).below ((Below.refl _ _).alloc (Nat.le_refl _) _)).below (iM _ 5 t));have nW:=Lu.out.line;have gI:=(Array.getElem?_eq_some_iff.1 jX).1;have fM:=ae jX;clear lh jX K1 c0 c1 f0 f1;have hne:b≠w.heap.size:=by omega
   have hv0:-9223372036854775808<=v:=by omega
   have nG:v<=9223372036854775807:=by omega
   have mU:=ae (FO.out _ vo.out.drew);go_wp2_with fail
   go_region_held3 (λW=>W.cell? ⟨b,1,none⟩=some (.int .i64 line)) (first|with_reducible assumption|with_reducible exact mD hne kq|exact nW)
    ((go_at_call 194;refine(Tryz.strconv_Itoa v hv0 nG _ mU.out).mono ?_;rintro e w2 ⟨rfl,kd,os,mh⟩;have aT:=mh▸Lib.below_grow w1.heap.size w1.drew (Nat.le_refl _) kd os;clear mh;have kq:=(aT.cell (Nat.lt_trans hl gI)).trans nW;have iB:=(aT.block w.heap.size gI).trans fM.out;obtain⟨x0,x1,x2,x3⟩:=nE iB;have g0:=Lib.frozen_of_heap iB 0;have g1:=Lib.frozen_of_heap iB 1;have g2:=Lib.frozen_of_heap iB 2;have g3:=Lib.frozen_of_heap iB 3;have Qg:=ae iB;have dH:=ae aT;clear iB aT;generalize hit:(⟨(Lib.itoa v).toArray⟩:ByteArray)=tx;have HIT:=ae hit;clear hit))
   go_wp2_with fail;refine bodyPost_ret (v:=.tuple #[.agg #[.int .i64 2,.string tx,.int .i64 v,.int .i64 line],.bool true]) (by simp[results,Tryz.results152,go_sem, *]) rfl ?_;have pT:=ae (vo.out.drew.below (by simpa using dH.out));refine⟨(((pT.out.setCell (.inr (Nat.le_refl _)) _).setCell (.inr (Nat.le_refl _)) _).setCell (.inr (Nat.le_refl _)) _).setCell (.inr (Nat.le_refl _)) _,?_⟩;rw[HT.out];refine⟨by rw[<-HIT.out];rfl,?_,by omega,hle⟩;exact pZ hne ((Lu.out.below ((Below.refl _ _).drew)).below (by simpa using dH.out))
theorem vO(w:World)(b:Nat)(q:ByteArray)(line:Nat)(h:dg w b q line)(hq:q.size<=3000)(h0:0<q.size)(hdg:Hx.bq q[0]=true\/q[0]=45)
  (ic:∀W,Kp (λk=>k=b) w W->Lib.TabIs Tryz.prog W "internal/strconv.uint64pow10" .u64 Lib.pow10Tab):
  Calls Tryz.prog 152 #[.pointer (some ⟨b,0,none⟩)] w λe w'=>mE w b q line e w':=by
 by_cases hm:q[0]=45
 ·exact JP w b q line h hq h0 hm ic
 ·exact JQ w b q line h hq h0 hm (hdg.elim id (λe=>absurd e hm)) ic
def JR(w:World)(b:Nat)(q:ByteArray)(line:Nat)(e:Ending)(w':World):Prop:=
 if q.size=0 then Kp (λk=>k=b) w w'/\e=.returned (.tuple #[zz ⟨101,⟨#[]⟩,0,line⟩,.bool true])/\dg w' b q line
 else mE w b q line e w'
theorem mE.out(h:mE w b q line e w'):
  ∃(k:Int)(s:ByteArray)(n l:Int)(ok:Bool),e=.returned (.tuple #[.agg #[.int .i64 k,.string s,.int .i64 n,.int .i64 l],.bool ok]):=by
 obtain⟨_,h⟩:=h;split at h
 ·exact⟨_,_,_,_,_,h.1⟩
 ·exact⟨_,_,_,_,_,h.1⟩
theorem mE.step{o:Obj}(h:mE (w.alloc o) b q line e w1)(hb:b<w.heap.size):
  mE w b q line e ((((w1.setCell ⟨w.heap.size,0,none⟩ c0).setCell ⟨w.heap.size,1,none⟩ c1).setCell ⟨w.heap.size,2,none⟩ c2).setCell ⟨w.heap.size,3,none⟩ c3):=by
 obtain⟨hk,h⟩:=h;have vY:=((Kp.refl _ w).alloc o).trans hk (λk e=>.inl e);refine⟨(((vY.setCell (.inr (Nat.le_refl _)) _).setCell (.inr (Nat.le_refl _)) _).setCell (.inr (Nat.le_refl _)) _).setCell (.inr (Nat.le_refl _)) _,?_⟩
 grind[pZ]
theorem fg.alloc(h:fg w)(o:Obj):fg (w.alloc o):=by
 obtain⟨t,fr,h⟩:=h;exact⟨t,fr,(((Below.refl w.heap.size w).alloc (Nat.le_refl _) o).block _ (Array.getElem?_eq_some_iff.1 h).1).trans h⟩
theorem mE.box{cs:Array Value}{t:TypeId}(h:mE (w.alloc (.cells cs t)) b q line e w1)(hb:b<w.heap.size):
  w1.heap[w.heap.size]?=some (.cells cs t (0,0)):=
 (h.1.block w.heap.size (by simp) (by omega)).trans (heap_alloc_new w (.cells cs t))
theorem VN(w:World)(b:Nat)(q:ByteArray)(line:Nat)(h:dg w b q line)(hq:q.size<=3000)(rk:fg w)
  (ic:∀W,Kp (λk=>k=b) w W->Lib.TabIs Tryz.prog W "internal/strconv.uint64pow10" .u64 Lib.pow10Tab):
  Calls Tryz.prog 102 #[.pointer (some ⟨b,0,none⟩)] w λe w'=>JR w b q line e w':=by
 have HS:=ae h;have FO:=ae ic;have HSG:=ae rk;clear ic rk;obtain⟨c0,c1,f0,f1,hl⟩:=h;have P5:=λo=>ae (HS.out.below ((Below.refl _ _).alloc (Nat.le_refl _) o))
 go_enter Tryz.func102,Tryz.ntmps102
 by_cases h0:q.size=0
 ·have e0:(q.toList==[])=true:=by rw[Lib.toList_data];simp;exact Array.eq_empty_of_size_eq_zero h0
  have H0:=ae h0;clear h0;go_wp2_with fail;refine bodyPost_ret (v:=.tuple #[.agg #[.int .i64 0,.string ⟨#[]⟩,.int .i64 0,.int .i64 line],.bool true]) (by simp[results,Tryz.results102,go_sem]) rfl ?_;rw[JR,if_pos H0.out];exact⟨(Kp.refl _ _).alloc _,rfl,(P5 _).out⟩
 ·have kM:0<q.size:=by omega
  have HN:=ae h0;have e0:(q.toList==[])=false:=by rw[Lib.toList_data,beq_eq_false_iff_ne];intro e;have h2:=Lib.size_eq q;rw[e]at h2;simp only [List.length_nil]at h2;omega
  clear h0;go_wp2_with fail;refine(nC _ _).mono ?_;rintro e w1 ⟨rfl,rfl⟩
  cases vW:Hx.jk q[0]
  case' true=>
   go_wp2_with fail;refine(FR _ b q line (P5 _).out hq kM vW).mono ?_
  case' false=>
   go_wp2_with fail;refine(lN _ _).mono ?_;rintro e w1 ⟨rfl,rfl⟩;have wS:=λo=>ae (λW hW=>FO.out W (((Kp.refl _ w).alloc o).trans hW (λk e=>.inl e)))
   cases hdi:Hx.bq q[0]
   case' true=>
    go_wp2_with fail;refine(vO _ b q line (P5 _).out hq kM (.inl hdi) (wS _).out).mono ?_
   case' false=>
    by_cases hm:q[0]=45
    focus
     have hy:=Hx.fN (m:=45) rfl hm;go_wp2_with fail;refine(vO _ b q line (P5 _).out hq kM (.inr hm) (wS _).out).mono ?_
    rotate_left;have hy:=Hx.iu (m:=45) rfl hm;go_wp2_with fail;refine(EQ _ b q line (P5 _).out kM hm vW hdi (HSG.out.alloc _)).mono ?_
  all_goals
   intro e w1 hR;have hx:=hR.box hl;obtain⟨x0,x1,x2,x3⟩:=nE hx;have g0:=Lib.frozen_of_heap hx 0;have g1:=Lib.frozen_of_heap hx 1;have g2:=Lib.frozen_of_heap hx 2;have g3:=Lib.frozen_of_heap hx 3;have HR:=ae hR;obtain⟨k,s,n,l,ok,rfl⟩:=hR.out;clear hR hx;go_wp2_with fail;refine bodyPost_ret (v:=.tuple #[.agg #[.int .i64 k,.string s,.int .i64 n,.int .i64 l],.bool ok]) (by simp[results,Tryz.results102,go_sem, *]) rfl ?_;rw[JR,if_neg HN.out];exact HR.out.step hl
def FN(t:Hx.Tok):List Value:=[.int .i64 (ao t.k),.string t.s,.int .i64 t.n,.int .i64 t.line]
def Aa(ts:List Hx.Tok):List Value:=ts.flatMap FN
theorem Eo(ts:List Hx.Tok)(t:Hx.Tok):Aa (ts++[t])=Aa ts++FN t:=by simp[Aa]
def ay(code line:Int):Array Value:=#[.int .i64 code,.int .i64 line,.string ⟨#[]⟩,.slice none 0 0,.slice none 0 0]
theorem dg.kp(h:dg w b r line)(hk:Kp F w w')(hn:¬F b):dg w' b r line:=
 ⟨(hk.cell h.lies hn).trans h.rest,(hk.cell h.lies hn).trans h.line,(hk.frozen h.lies hn).trans h.JL,(hk.frozen h.lies hn).trans h.JN,Nat.lt_of_lt_of_le h.lies hk.size⟩
theorem QF{c:UInt8}{r:List UInt8}(hl:l=c::r)(hb:ack l)(g line:Nat)(acc:List Hx.Tok):
  Hx.fw (g+1) l line acc=match Hx.dP l line with|none=>.inl line|some (n,t)=>Hx.fw g (l.drop n) line (acc++[t]):=by
 obtain⟨h1,h2,h3⟩:=hb c r hl;subst hl;rw[Hx.fw,if_neg h1,if_neg h2,if_neg h3];rfl
theorem MN{t:Hx.Tok}(h:Hx.dP l line=some (n,t)):ao t.k≠0:=by
 unfold Hx.dP at h;dsimp only at h
 repeat' (split at h)
 all_goals first
  |(cases h;done)
  |(cases h;decide)
  |(simp only [Option.some.injEq,Prod.mk.injEq]at h;obtain⟨_,rfl⟩:=h;dsimp only;decide)
def qq(w:World)(g:Nat)(c0 c1 c2 c3 c4:Value):World:=((((w.setCell ⟨g,0,none⟩ c0).setCell ⟨g,1,none⟩ c1).setCell ⟨g,2,none⟩ c2).setCell ⟨g,3,none⟩ c3).setCell ⟨g,4,none⟩ c4
theorem kF(h:Kp F a w)(hp:F g\/a.heap.size<=g)(c0 c1 c2 c3 c4:Value):Kp F a (qq w g c0 c1 c2 c3 c4):=
 ((((h.setCell (p:=⟨g,0,none⟩) hp c0).setCell (p:=⟨g,1,none⟩) hp c1).setCell (p:=⟨g,2,none⟩) hp c2).setCell (p:=⟨g,3,none⟩) hp c3).setCell (p:=⟨g,4,none⟩) hp c4
theorem VO{base e size:Nat}{xs:List Value}(hg:g<base)(h:w.ownsRow base e size v n xs):(qq w g c0 c1 c2 c3 c4).ownsRow base e size v n xs:=
 (kF (Kp.refl (λk=>k=g) w) (.inl rfl) c0 c1 c2 c3 c4).own h (λk hk e=>by have:=(h.lt k hk).1;omega)
theorem dh(h:Below a.heap.size a w):Below a.heap.size a (qq w a.heap.size c0 c1 c2 c3 c4):=
 (kF (F:=λk=>a.heap.size<=k) (Kp.aK h) (.inr (Nat.le_refl _)) c0 c1 c2 c3 c4).toBelow (λ_ h=>h) (Nat.le_refl _)
def amb(R:Nat⊕List Hx.Tok)(w:World)(k:Nat)(v5:Value)(wr:World):Prop:=
 ∃(r:ByteArray)(line f:Nat)(acc:List Hx.Tok),dg wr (w.heap.size+1) r line/\r.size<k/\r.size<f/\Hx.fw f r.data.toList line acc=R/\
  wr.ownsRow (w.heap.size+2) 149 4 v5 acc.length (Aa acc)/\wr.heap[w.heap.size]?=some (.cells (ay 0 0) 34 (0,0))/\Below w.heap.size w wr/\acc.length+r.size<=3000/\line+r.size<=3001
theorem Tryz.infoTokA:(Tryz.prog.info? 149).map (λi=>(i.zero,i.size,i.bytes))=some (some (.agg #[.int .i64 0,.string ⟨#[]⟩,.int .i64 0,.int .i64 0]),4,40):=by kernel_rfl
def VP(R:Nat⊕List Hx.Tok)(B:Nat)(e:Ending)(w':World):Prop:=
 match R with
 | .inl line=>e=.returned (.tuple #[.slice none 0 0,.agg (ay 2 line)])
 | .inr ts=>∃v,e=.returned (.tuple #[v,.agg (ay 0 0)])/\w'.ownsRow B 149 4 v ts.length (Aa ts)
theorem fg.below{B:Nat}(h:fg w)(hb:Below B w w')(hB:w.heap.size<=B):fg w':=by
 obtain⟨t,fr,h⟩:=h;exact⟨t,fr,(hb.block _ (Nat.lt_of_lt_of_le (Array.getElem?_eq_some_iff.1 h).1 hB)).trans h⟩
theorem VE(s:ByteArray)(w:World)(hs:s.size<=3000)(rk:fg w)(ic:∀W,Below w.heap.size w W->Lib.TabIs Tryz.prog W "internal/strconv.uint64pow10" .u64 Lib.pow10Tab):
  Calls Tryz.prog 70 #[.string s] w λe w'=>VP (Hx.lex s.data.toList) (w.heap.size+2) e w'/\Below w.heap.size w w':=by
 obtain⟨i0,dl,eu,dA,eg⟩:=info_parts Tryz.infoTokA;generalize hR:Hx.lex s.data.toList=R;have HR:Hid (_=_):=hR;have HSG:=ae rk;have FO:=ae ic;clear hR rk ic;go_enter Tryz.func70,Tryz.ntmps70;go_wp2_with fail
 go_loopg [5] 3001 (λk v5 wr=>amb R w k v5 wr)
 case atStart=>
  refine⟨s,1,s.size+1,[],?_,by omega,by omega,by simpa[Hx.lex]using HR.out,World.ownsRow_nil _ _ _ _,?_,?_,by grind,by omega⟩
  ·exact⟨by simp,by simp,by simp,by simp,by simp⟩
  ·have:=(((Below.refl (w.heap.size+1) (w.alloc (.cells (ay 0 0) 34))).alloc (by simp) (.cells #[.string s,.int .i64 1] 198)).block w.heap.size (by simp)).trans (heap_alloc_new w _)
   exact this
  ·exact((Below.refl _ _).alloc (Nat.le_refl _) _).alloc (by simp) _
 case round=>
  obtain⟨r,line,f,acc,hS,hk,hf,kg,aJ,jX,hb,aaF,nJ⟩:=hrel;have HS:=ae hS;have HX:=ae kg;have HO:=ae aJ;have HF:=ae jX;have HB:=ae hb;clear hS kg aJ jX hb;go_wp2_with fail;refine(zd wr (w.heap.size+1) r line HS.out (by omega) (by omega)).mono ?_;rintro e w1 ⟨rfl,q,ln,hS1,pO,hSk,hqr,hln,aey⟩;obtain⟨g,hg,he⟩:=hSk f acc (by simpa using hf);have bH:=HB.out.trans (pO.toBelow (λk e=>by omega) HB.out.size);have pJ:=ae (he.symm.trans HX.out);have tH:=ae hS1;have nZ:=ae (pO.own HO.out (λk hk e=>by have:=(HO.out.lt k hk).1;omega));have HF1:=ae ((pO.block w.heap.size (Array.getElem?_eq_some_iff.1 HF.out).1 (by omega)).trans HF.out);have HBa:=ae aey;have b6:=ae bH;clear hSk he aey bH hS1 pO HX HS HO HF HB;have RI:=by simpa using hg
  go_wp2_with fail;refine(VN w1 (w.heap.size+1) q ln tH.out (by omega) (HSG.out.below b6.out (Nat.le_refl _)) (λW hW=>FO.out W (b6.out.trans (hW.toBelow (λk e=>by omega) b6.out.size)))).mono ?_;intro e w2 hT;have HT:=ae hT;clear hT;have h1s:=tH.out.lies
  by_cases q0:q.size=0
  ·have hT:=HT.out
   rw[JR,if_pos q0]at hT;obtain⟨qu,rfl,MX⟩:=hT;rw[show zz ⟨101,⟨#[]⟩,0,ln⟩=Value.agg #[.int .i64 0,.string ⟨#[]⟩,.int .i64 0,.int .i64 ln]from rfl];have iG:=ae qu;clear qu MX HT;have h2s:=iG.out.size;have lu:=ae (iG.out.own nZ.out (λk hk e=>by have:=(nZ.out.lt k hk).1;omega));have HW:Hid (Below w2.heap.size w2 (w2.alloc (.cells #[.int .i64 0,.string ⟨#[]⟩,.int .i64 0,.int .i64 ln] 149))):=(Below.refl _ _).alloc (Nat.le_refl _) _;go_wp2_with (at_builtin;refine wpList_append_own _ rfl _ _ 83 rfl (w.heap.size+2) 149 i0 _ 4 40 Tryz.underlying83 dl eu dA eg rfl (by decide) _ _ _ rfl (ah lu.out (HW.out.alloc HW.out.size _)) ⟨w2.heap.size+1,0,none⟩ 1 1 ([.int .i64 0,.string ⟨#[]⟩,.int .i64 0,.int .i64 ln]) rfl rfl ?c1 ?c2 ?c3 ?c4 ?c5 ?_)
   case c1=>exact aF _ _ (by simp) [_,_,_,_] _
   case c2=>intro u hu;simp at hu;rcases hu with rfl|rfl|rfl|rfl<;>rfl
   case c3=>grind[maxLen]
   case c4=>omega
   case c5=>have h2:=HW.out.size;simp at h2|-;omega
   intro v' w3 bE ax _;have fZ:=bE;have hW:∀k,k<w2.heap.size->((w2.alloc (.cells #[.int .i64 0,.string ⟨#[]⟩,.int .i64 0,.int .i64 ln] 149)).alloc (.cells #[.int .i64 0,.string ⟨#[]⟩,.int .i64 0,.int .i64 ln] 149)).heap[k]?=w2.heap[k]?:=λk hk=>(((Below.refl w2.heap.size w2).alloc (Nat.le_refl _) _).alloc (by simp) _).block k hk
   have K3:Kp (λk=>u5.ownBlock=some k) ((w2.alloc (.cells #[.int .i64 0,.string ⟨#[]⟩,.int .i64 0,.int .i64 ln] 149)).alloc (.cells #[.int .i64 0,.string ⟨#[]⟩,.int .i64 0,.int .i64 ln] 149)) w3:=(Kp.refl _ _).grown ax (λk h=>.inl h);have wD:=(iG.out.block w.heap.size (by omega) (by omega)).trans HF1.out;have MO:=(K3.block w.heap.size (by grind) (λh=>by have:=(lu.out.lt _ h).1;omega)).trans ((hW _ (by omega)).trans wD);have t0:w3.cell? ⟨w2.heap.size,0,none⟩=some (.int .i64 0):=(K3.cell (by simp;omega) (λh=>by have:=(lu.out.lt _ h).2;omega)).trans (by simp);have ji:=ae (b6.out.trans ((((iG.out.toBelow (λk e=>by omega) (by omega)).alloc (by omega) _).alloc (by simp;omega) _).trans (K3.toBelow (λk h=>by have:=(lu.out.lt k h).1;omega) (by grind))));have mH:=ae fZ;have TI:=ae MO;have y0:=dt MO;have z0:=Lib.frozen_of_heap MO 0;have y1:=fS MO;have z1:=Lib.frozen_of_heap MO 1;have y2:=jr MO;have z2:=Lib.frozen_of_heap MO 2;have y3:=rQ MO;have z3:=Lib.frozen_of_heap MO 3;have y4:=oh MO;have z4:=Lib.frozen_of_heap MO 4;clear bE fZ ax hW wD MO K3;go_wp2_with fail;refine bodyPost_ret (v:=.tuple #[v',.agg #[.int .i64 0,.int .i64 0,.string ⟨#[]⟩,.slice none 0 0,.slice none 0 0]]) (by simp[results,Tryz.results70,go_sem, *]) rfl ?_;have hq:q.data.toList=[]:=List.eq_nil_of_length_eq_zero (by simpa using q0);obtain⟨g,rfl⟩:∃g',g=g'+1:=⟨g-1,by omega⟩;have hR:=pJ.out;rw[hq,Hx.fw]at hR;rw[<-hR];refine⟨⟨v',rfl,?_⟩,?_⟩
   ·rw[Eo,List.length_append]
    exact VO (by omega) mH.out
   ·exact dh ji.out
  ·have hT:=HT.out
   rw[JR,if_neg q0]at hT;obtain⟨qu,hT⟩:=hT;have iG:=ae qu;clear qu HT;have h2s:=iG.out.size;have lu:=ae (iG.out.own nZ.out (λk hk e=>by have:=(nZ.out.lt k hk).1;omega));have Fe:=ae ((iG.out.block w.heap.size (by omega) (by omega)).trans HF1.out);have dH:=ae (b6.out.trans (iG.out.toBelow (λk e=>by omega) (by omega)));obtain⟨c,cr,hc⟩:∃c cr,q.data.toList=c::cr:=by
    cases h:q.data.toList with
    |nil=>exact absurd (by have:=congrArg List.length h;simpa using this) q0
    |cons c cr=>simp
   obtain⟨g,rfl⟩:∃g',g=g'+1:=⟨g-1,by omega⟩;have hLX:=pJ.out;rw[QF hc HBa.out]at hLX;have hwa:w.heap.size<w2.heap.size:=by omega
   cases Dk:Hx.dP q.data.toList ln with
   |none=>
    rw[Dk]at hT hLX;obtain⟨rfl,MX⟩:=hT;have Q8:=ae hLX;have Dl:=ae MX;have ly:=MX.line;have ll:=MX.lies;rw[show lJ=Value.agg #[.int .i64 0,.string ⟨#[]⟩,.int .i64 0,.int .i64 0]from rfl];clear hLX MX Dk hc q0 hg RI;have y0:=dt Fe.out;have z0:=Lib.frozen_of_heap Fe.out 0;have y1:=fS Fe.out;have z1:=Lib.frozen_of_heap Fe.out 1;have y2:=jr Fe.out;have z2:=Lib.frozen_of_heap Fe.out 2;have y3:=rQ Fe.out;have z3:=Lib.frozen_of_heap Fe.out 3;have y4:=oh Fe.out;have z4:=Lib.frozen_of_heap Fe.out 4;go_wp2_with fail
    go_region
    go_wp2_with fail;refine bodyPost_ret (v:=.tuple #[.slice none 0 0,.agg #[.int .i64 2,.int .i64 ln,.string ⟨#[]⟩,.slice none 0 0,.slice none 0 0]]) (by simp[results,Tryz.results70,go_sem, *]) rfl ?_;refine⟨by rw[<-Q8.out];rfl,?_⟩;exact((dh dH.out).alloc (by simp[qq];omega) _).drew
   |some p=>
    obtain⟨n,t⟩:=p;rw[Dk]at hT hLX;obtain⟨rfl,MX,Ex,hnq⟩:=hT;have Fj:=MN Dk;obtain⟨kd,J8⟩:∃kd,kd=ao t.k:=⟨_,rfl⟩;rw[<-J8]at Fj;have jf:(kd==0)=false:=by simpa using Fj
    rw[show zz t=Value.agg #[.int .i64 kd,.string t.s,.int .i64 t.n,.int .i64 t.line] by rw[J8];rfl];have HKD:=ae J8;have Q8:=ae hLX;have Dl:=ae MX;clear hLX MX Dk hc q0 hg J8 Fj;have HW:Hid (Below w2.heap.size w2 (w2.alloc (.cells #[.int .i64 kd,.string t.s,.int .i64 t.n,.int .i64 t.line] 149))):=(Below.refl _ _).alloc (Nat.le_refl _) _;go_wp2_with (at_builtin;refine wpList_append_own _ rfl _ _ 83 rfl (w.heap.size+2) 149 i0 _ 4 40 Tryz.underlying83 dl eu dA eg rfl (by decide) _ _ _ rfl (ah lu.out (HW.out.alloc HW.out.size _)) ⟨w2.heap.size+1,0,none⟩ 1 1 ([.int .i64 kd,.string t.s,.int .i64 t.n,.int .i64 t.line]) rfl rfl ?c1 ?c2 ?c3 ?c4 ?c5 ?_)
    case c1=>exact aF _ _ (by simp) [_,_,_,_] _
    case c2=>intro u hu;simp at hu;rcases hu with rfl|rfl|rfl|rfl<;>rfl
    case c3=>grind[maxLen]
    case c4=>omega
    case c5=>have h2:=HW.out.size;simp at h2|-;omega
    intro v' w3 bE ax _;have fZ:=bE;have hW:∀k,k<w2.heap.size->((w2.alloc (.cells #[.int .i64 kd,.string t.s,.int .i64 t.n,.int .i64 t.line] 149)).alloc (.cells #[.int .i64 kd,.string t.s,.int .i64 t.n,.int .i64 t.line] 149)).heap[k]?=w2.heap[k]?:=λk hk=>(((Below.refl w2.heap.size w2).alloc (Nat.le_refl _) _).alloc (by simp) _).block k hk
    have K3:Kp (λk=>u5.ownBlock=some k) ((w2.alloc (.cells #[.int .i64 kd,.string t.s,.int .i64 t.n,.int .i64 t.line] 149)).alloc (.cells #[.int .i64 kd,.string t.s,.int .i64 t.n,.int .i64 t.line] 149)) w3:=(Kp.refl _ _).grown ax (λk h=>.inl h);have MO:=(K3.block w.heap.size (by grind) (λh=>by have:=(lu.out.lt _ h).1;omega)).trans ((hW _ (by omega)).trans Fe.out);have t0:w3.cell? ⟨w2.heap.size,0,none⟩=some (.int .i64 kd):=(K3.cell (by simp;omega) (λh=>by have:=(lu.out.lt _ h).2;omega)).trans (by simp);have ji:=ae (b6.out.trans ((((iG.out.toBelow (λk e=>by omega) (by omega)).alloc (by omega) _).alloc (by simp;omega) _).trans (K3.toBelow (λk h=>by have:=(lu.out.lt k h).1;omega) (by grind))));have mH:=ae fZ;have TI:=ae MO;have Oc:=ae ((Dl.out.below (((Below.refl w2.heap.size w2).alloc (Nat.le_refl _) _).alloc (by simp) _)).kp K3 (λh=>by have:=(lu.out.lt _ h).1;omega));clear bE fZ ax hW MO K3;go_wp2_with fail
    go_roundg (q.size)
    case measure=>omega
    case rel=>exact⟨q.extract n q.size,ln,g,acc++[t],Oc.out,by simp;omega,by simp;omega,by rw[Lib.extract_data,List.take_of_length_le (by simp)];exact Q8.out,by rw[Eo,List.length_append,FN,<-HKD.out];exact mH.out,TI.out,ji.out,by simp;omega,by simp;omega⟩
