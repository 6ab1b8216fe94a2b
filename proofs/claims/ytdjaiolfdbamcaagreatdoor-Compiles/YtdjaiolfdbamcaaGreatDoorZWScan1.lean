/- Walks of helmref's small functions: each call returns what a plain function says. -/
import Derived.Test.YtdjaiolfdbamcaaGreatDoorZBase
import Derived.Test.YtdjaiolfdbamcaaGreatDoorShelf
import Derived.Deep.LoopGhost
set_option maxRecDepth 20000
set_option maxHeartbeats 1000000
namespace Go.Proofs.YtdjaiolfdbamcaaGreatDoor
variable {b line n:Nat}{w:World}{r:ByteArray}{l:List UInt8}
section
open Go.RowKit
theorem bC{a b:Bool}(h:a=b):Ending.returned (.bool a)=.returned (.bool b):=by rw[h]
theorem di{k:IntKind}{a b:Int}(h:a=b):Ending.returned (.int k a)=.returned (.int k b):=by rw[h]
theorem jz(s all:ByteArray)(w:World)(hs:s.size<=3000)(ha:all.size<=3000):
  Calls Tryz.prog 61 #[.string s,.string all] w λe w'=>e=.returned (.bool (Hx.fB s.data.toList all.data.toList))/\w'=w:=by
 go_enter Tryz.func61,Tryz.ntmps61;go_wp2
 go_loop [6] (λi=>∃k:Nat,k<=all.size/\i=.int .i64 k/\Hx.fy (32::(s.data.toList++[32])) all.data.toList=Hx.fy (32::(s.data.toList++[32])) (all.data.toList.drop k)) (λi=>all.size+1-(intOf i).toNat)
 case atStart=>exact⟨0,Nat.zero_le _,rfl,rfl⟩
 case round=>
  obtain⟨k,hk,rfl,hh⟩:=hrel;have H:Hid (Hx.fy (32::(s.data.toList++[32])) all.data.toList=Hx.fy (32::(s.data.toList++[32])) (all.data.toList.drop k)):=hh;clear hh;go_wp2
  ·go_ret
   exact⟨bC (Hx.On s all k (by omega) ‹_› H.out).symm,rfl⟩
  ·go_round
   case rel=>exact⟨k+1,by omega,by go_num,Hx.KG s all k (by omega) ‹_› H.out⟩
   case measure=>simp[intOf];omega
  ·go_ret
   exact⟨bC (Hx.Oo s all k (by omega) H.out).symm,rfl⟩
theorem vL(s:ByteArray)(i:Nat)(w:World)(hs:s.size<=3000)(hi:i<=3001):
  Calls Tryz.prog 135 #[.string s,.int .i64 i,.bool false] w λe w'=>e=.returned (.int .i64 (Hx.aB Hx.bq (s.data.toList.drop i)))/\w'=w:=by
 go_enter Tryz.func135,Tryz.ntmps135;go_wp2
 go_loop [7] (λn=>∃k:Nat,k<=3000/\n=.int .i64 k/\k+Hx.aB Hx.bq (s.data.toList.drop (i+k))=Hx.aB Hx.bq (s.data.toList.drop i)) (λn=>s.size-(intOf n).toNat)
 case atStart=>exact⟨0,by omega,rfl,by simp⟩
 case round=>
  obtain⟨k,hk,rfl,hh⟩:=hrel;have H:Hid (k+Hx.aB Hx.bq (s.data.toList.drop (i+k))=Hx.aB Hx.bq (s.data.toList.drop i)):=hh;clear hh;go_wp2
  all_goals(try simp only [Bool.not_eq_false',decide_eq_true_eq,Bool.not_eq_true',decide_eq_false_iff_not]at*)
  all_goals first
   |(exfalso;omega)
   |(go_round
     case rel=>exact⟨k+1,by omega,by go_num,Hx.tY _ s i k _ (by omega) (Hx.M0 (by omega) (by omega)) H.out⟩
     case measure=>simp[intOf];omega)
   |(go_ret;exact⟨di (Hx.xt _ s i k _ (by omega) (Hx.KH (by omega)) H.out),rfl⟩)
   |(go_ret;exact⟨di (Hx.Dt _ s i k _ (by omega) H.out),rfl⟩)
theorem MI(s:ByteArray)(i:Nat)(w:World)(hs:s.size<=3000)(hi:i<=3001):
  Calls Tryz.prog 135 #[.string s,.int .i64 i,.bool true] w λe w'=>e=.returned (.int .i64 (Hx.aB Hx.eG (s.data.toList.drop i)))/\w'=w:=by
 go_enter Tryz.func135,Tryz.ntmps135;go_wp2
 go_loop [7] (λn=>∃k:Nat,k<=3000/\n=.int .i64 k/\k+Hx.aB Hx.eG (s.data.toList.drop (i+k))=Hx.aB Hx.eG (s.data.toList.drop i)) (λn=>s.size-(intOf n).toNat)
 case atStart=>exact⟨0,by omega,rfl,by simp⟩
 case round=>
  obtain⟨k,hk,rfl,hh⟩:=hrel;have H:Hid (k+Hx.aB Hx.eG (s.data.toList.drop (i+k))=Hx.aB Hx.eG (s.data.toList.drop i)):=hh;clear hh;go_wp2
  all_goals(try simp only [Bool.not_eq_false',decide_eq_true_eq,Bool.not_eq_true',decide_eq_false_iff_not]at*)
  all_goals first
   |(exfalso;omega)
   |(go_round
     case rel=>first|exact⟨k+1,by omega,by go_num,Hx.tY _ s i k _ (by omega) (Hx.Oq (Hx.M0 (by omega) (by omega))) H.out⟩|exact⟨k+1,by omega,by go_num,Hx.tY _ s i k _ (by omega) (Hx.py (Hx.rS (by omega) (by omega))) H.out⟩
     case measure=>simp[intOf];omega)
   |(go_ret;exact⟨di (Hx.xt _ s i k _ (by omega) (Hx.ajB (by omega) (by omega)) H.out),rfl⟩)
   |(go_ret;exact⟨di (Hx.Dt _ s i k _ (by omega) H.out),rfl⟩)
theorem za(s:ByteArray)(i:Nat)(w:World)(hs:s.size<=3000)(hi:i<s.size):
  Calls Tryz.prog 137 #[.string s,.int .i64 i] w λe w'=>e=.returned (.int .i64 (Hx.bg (s.data.toList.drop i)))/\w'=w:=by
 by_cases h2:i+2<=s.size
 ·have h2':(i:Int)+2<=s.size:=by omega
  have e2:=Hx.R6 s i h2;generalize hA:Hx.fB (s.extract i (i+2)).data.toList (⟨#[32,46,46,32,60,61,32,61,61,32,33,61,32,62,61,32]⟩:ByteArray).data.toList=bA at e2;generalize hB:Hx.fB (s.extract i (i+1)).data.toList (⟨#[32,123,32,125,32,40,32,41,32,59,32,60,32,62,32]⟩:ByteArray).data.toList=bB at e2;have HA:Hid (_=_):=hA;have HB:Hid (_=_):=hB;have HE:Hid (_=_):=e2;clear hA hB e2;go_enter Tryz.func137,Tryz.ntmps137;go_wp2_with fail;refine(jz _ _ _ (by simp;omega) (by decide)).mono ?_;rintro e w' ⟨rfl,rfl⟩;rw[HA.out]
  cases bA
  ·go_wp2_with fail
   refine(jz _ _ _ (by simp;omega) (by decide)).mono ?_;rintro e w' ⟨rfl,rfl⟩;rw[HB.out]
   cases bB
   ·go_wp2
    go_ret;exact⟨di (by rw[HE.out];rfl),rfl⟩
   ·go_wp2
    go_ret;exact⟨di (by rw[HE.out];rfl),rfl⟩
  ·go_wp2
   go_ret;exact⟨di (by rw[HE.out];rfl),rfl⟩
 ·have h2':decide ((i:Int)+2<=s.size)=false:=by simp;omega
  have e1:=Hx.Ot s i hi (by omega);generalize hB:Hx.fB (s.extract i (i+1)).data.toList (⟨#[32,123,32,125,32,40,32,41,32,59,32,60,32,62,32]⟩:ByteArray).data.toList=bB at e1;have HB:Hid (_=_):=hB;have HE:Hid (_=_):=e1;clear hB e1;go_enter Tryz.func137,Tryz.ntmps137;go_wp2_with fail;refine(jz _ _ _ (by simp;omega) (by decide)).mono ?_;rintro e w' ⟨rfl,rfl⟩;rw[HB.out]
  cases bB
  ·go_wp2
   go_ret;exact⟨di (by rw[HE.out];rfl),rfl⟩
  ·go_wp2
   go_ret;exact⟨di (by rw[HE.out];rfl),rfl⟩
theorem VM(w:World)(x:Int):
  Sem.run Tryz.prog (convert 64 9 (.slice (some ⟨w.heap.size,0,none⟩) 1 1)) (w.alloc (.cells #[.int .u8 x] 5))=.ok (.string ⟨#[UInt8.ofNat x.toNat]⟩) (w.alloc (.cells #[.int .u8 x] 5)):=by
 rw[run_convert_bytes_string _ _ _ 5 _ _ _ Tryz.underlying64 Tryz.underlying5 Tryz.underlying9];rw[run_bytesToString _ _ _ _ [x]]
 ·rfl
 ·simp[loadCells,go_sem]
theorem wU{a b:ByteArray}(h:a.data.toList=b.data.toList):Ending.returned (.string a)=.returned (.string b):=by
 rw[ByteArray.ext (Array.toList_inj.1 h)]
theorem QC(n:Nat):((⟨#[]⟩:ByteArray)++(⟨#[48+UInt8.ofNat (n%10)]⟩:ByteArray)).data.toList=Hx.g8 0 n:=by
 simp[ByteArray.data_append,Hx.g8,UInt8.ofNat_add]
theorem MJ(f n:Nat)(h:n<10):((⟨#[]⟩:ByteArray)++(⟨#[48+UInt8.ofNat (n%10)]⟩:ByteArray)).data.toList=Hx.g8 (f+1) n:=by
 rw[Hx.g8,if_neg (by omega)];simp[]
theorem MK(f n:Nat)(h:10<=n):((⟨(Hx.g8 f (n/10)).toArray⟩:ByteArray)++(⟨#[48+UInt8.ofNat (n%10)]⟩:ByteArray)).data.toList=Hx.g8 (f+1) n:=by
 rw[Hx.g8,if_pos h];simp
theorem vM(f:Nat):∀(n:Nat)(w:World),n<10^(f+1)->n<100000->f<=4->
  Calls Tryz.prog 136 #[.int .i64 n] w λe w'=>e=.returned (.string ⟨(Hx.g8 f n).toArray⟩)/\Below w.heap.size w w':=by
 have hcv:=VM
 induction f with
 |zero=>
  intro n w h h5 _;have h1:¬((n:Int)<0):=by omega
  have h2:(n:Int)<10:=by omega
  clear h h5;go_enter Tryz.func136,Tryz.ntmps136;go_wp2;go_ret;exact⟨wU (QC n),(Below.refl _ _).alloc (Nat.le_refl _) _⟩
 |succ f ih=>
  intro n w h h5 hf;have IH:Hid (∀(n:Nat)(w:World),n<10^(f+1)->n<100000->f<=4->Calls Tryz.prog 136 #[.int .i64 n] w λe w'=>e=.returned (.string ⟨(Hx.g8 f n).toArray⟩)/\Below w.heap.size w w'):=ih;clear ih;have h1:¬((n:Int)<0):=by omega
  have HP:Hid (n<10^(f+1+1)):=h;clear h
  by_cases h2:(n:Int)<10
  ·go_enter Tryz.func136,Tryz.ntmps136
   go_wp2;go_ret;exact⟨wU (MJ f n (by omega)),(Below.refl _ _).alloc (Nat.le_refl _) _⟩
  ·have h3:(10:Int)<=n:=by omega
   clear h2;have hl:=Hx.xu f (n/10);go_enter Tryz.func136,Tryz.ntmps136;go_wp2_with fail;rw[show((n)/10)=((n/10:Nat):Int) by omega];refine(IH.out (n/10) _ (by have:=HP.out;omega) (by omega) (by omega)).mono ?_;rintro e w' ⟨rfl,hb⟩;generalize hd:Hx.g8 f (n/10)=d at hl;have HD:Hid (_=_):=hd;clear hd;go_wp2;go_ret;exact⟨wU (by rw[<-MK f n (by omega),HD.out]),hb.alloc hb.size _⟩
theorem vN(n:Int)(w:World)(h1:-9999<=n)(h2:n<=9999):
  Calls Tryz.prog 136 #[.int .i64 n] w λe w'=>e=.returned (.string ⟨(Hx.iy n).toArray⟩)/\Below w.heap.size w w':=by
 by_cases h:n<0
 ·obtain⟨m,rfl⟩:∃m:Nat,n=-(m):=⟨n.natAbs,by omega⟩
  have hd:Hx.iy (-(m))=45::Hx.g8 4 m:=by simp only [Hx.iy,if_pos h];simp
  rw[hd];have hl:=Hx.xu 4 m;go_enter Tryz.func136,Tryz.ntmps136;go_wp2_with fail;refine(vM 4 m _ (by omega) (by omega) (by omega)).mono ?_;rintro e w' ⟨rfl,hb⟩;clear hd;generalize hd:Hx.g8 4 m=d at hl;have HD:Hid (_=_):=hd;clear hd;go_wp2;go_ret;exact⟨wU (by rw[HD.out];simp),hb⟩
 ·obtain⟨m,rfl⟩:∃m:Nat,n=(m):=⟨n.natAbs,by omega⟩
  have hd:Hx.iy (m)=Hx.g8 4 m:=by simp only [Hx.iy,if_neg h];simp
  rw[hd];exact vM 4 m w (by omega) (by omega) (by omega)
theorem nC(c:UInt8)(w:World):Calls Tryz.prog 149 #[.int .u8 c.toNat] w λe w'=>e=.returned (.bool (Hx.jk c))/\w'=w:=by
 have HI:=ae (Hx.mr c);go_enter Tryz.func149,Tryz.ntmps149;go_wp2
 all_goals go_ret
 all_goals exact⟨bC (by rw[HI.out,Bool.eq_iff_iff];simp;try omega),rfl⟩
theorem lN(c:UInt8)(w:World):Calls Tryz.prog 151 #[.int .u8 c.toNat] w λe w'=>e=.returned (.bool (Hx.bq c))/\w'=w:=by
 have HI:=ae (Hx.mq c);go_enter Tryz.func151,Tryz.ntmps151;go_wp2
 all_goals go_ret
 all_goals exact⟨bC (by rw[HI.out,Bool.eq_iff_iff];simp;try omega),rfl⟩
theorem pn(c:UInt8)(w:World):Calls Tryz.prog 191 #[.int .u8 c.toNat] w λe w'=>e=.returned (.bool (Hx.eG c))/\w'=w:=by
 cases h1:Hx.jk c with
 |true=>
  have HN:=ae (show Hx.eG c=true by simp[Hx.eG,h1]);have H1:=ae h1;clear h1;go_enter Tryz.func191,Tryz.ntmps191;go_wp2_with fail;refine(nC c _).mono ?_;rintro e w' ⟨rfl,rfl⟩;rw[H1.out];go_wp2_with fail;go_ret;exact⟨bC HN.out.symm,rfl⟩
 |false=>
  have HN:=ae (show Hx.eG c=Hx.bq c by simp[Hx.eG,h1]);have H1:=ae h1;clear h1;go_enter Tryz.func191,Tryz.ntmps191;go_wp2_with fail;refine(nC c _).mono ?_;rintro e w' ⟨rfl,rfl⟩;rw[H1.out];go_wp2_with fail;refine(lN c _).mono ?_;rintro e w' ⟨rfl,rfl⟩;go_wp2_with fail;go_ret;exact⟨bC HN.out.symm,rfl⟩
theorem gH{s:ByteArray}{y:List UInt8}(hy:y∈Hx.dW)(h:(s.toList==y)=true):Hx.dW.contains s.data.toList=true:=by
 simp_all[Lib.toList_data,beq_iff_eq]
theorem ML(s:ByteArray)(w:World):Calls Tryz.prog 192 #[.string s] w λe w'=>e=.returned (.bool (Hx.dW.contains s.data.toList))/\w'=w:=by
 go_enter Tryz.func192,Tryz.ntmps192;go_wp2
 all_goals go_ret
 all_goals first
  |(exact(Bool.false_ne_true (‹(s.toList==[118,97,114])=false›.symm.trans ‹(s.toList==[118,97,114])=true›)).elim)
  |(exact(Bool.false_ne_true (‹(s.toList==[109,111,100,101])=false›.symm.trans ‹(s.toList==[109,111,100,101])=true›)).elim)
  |(exact(Bool.false_ne_true (‹(s.toList==[100,101,102,97,117,108,116])=false›.symm.trans ‹(s.toList==[100,101,102,97,117,108,116])=true›)).elim)
  |(exact(Bool.false_ne_true (‹(s.toList==[119,104,101,110])=false›.symm.trans ‹(s.toList==[119,104,101,110])=true›)).elim)
  |(exact(Bool.false_ne_true (‹(s.toList==[116,111])=false›.symm.trans ‹(s.toList==[116,111])=true›)).elim)
  |(exact(Bool.false_ne_true (‹(s.toList==[115,116,97,121])=false›.symm.trans ‹(s.toList==[115,116,97,121])=true›)).elim)
  |(exact(Bool.false_ne_true (‹(s.toList==[97,110,100])=false›.symm.trans ‹(s.toList==[97,110,100])=true›)).elim)
  |(exact(Bool.false_ne_true (‹(s.toList==[111,114])=false›.symm.trans ‹(s.toList==[111,114])=true›)).elim)
  |(exact(Bool.false_ne_true (‹(s.toList==[110,111,116])=false›.symm.trans ‹(s.toList==[110,111,116])=true›)).elim)
  |(exact(Bool.false_ne_true (‹(s.toList==[119,97,115])=false›.symm.trans ‹(s.toList==[119,97,115])=true›)).elim)
  |(exact(Bool.false_ne_true (‹(s.toList==[116,114,117,101])=false›.symm.trans ‹(s.toList==[116,114,117,101])=true›)).elim)
  |(exact⟨bC (gH (y:=[118,97,114]) (by decide) ‹(s.toList==[118,97,114])=true›).symm,rfl⟩)
  |(exact⟨bC (gH (y:=[109,111,100,101]) (by decide) ‹(s.toList==[109,111,100,101])=true›).symm,rfl⟩)
  |(exact⟨bC (gH (y:=[100,101,102,97,117,108,116]) (by decide) ‹(s.toList==[100,101,102,97,117,108,116])=true›).symm,rfl⟩)
  |(exact⟨bC (gH (y:=[119,104,101,110]) (by decide) ‹(s.toList==[119,104,101,110])=true›).symm,rfl⟩)
  |(exact⟨bC (gH (y:=[116,111]) (by decide) ‹(s.toList==[116,111])=true›).symm,rfl⟩)
  |(exact⟨bC (gH (y:=[115,116,97,121]) (by decide) ‹(s.toList==[115,116,97,121])=true›).symm,rfl⟩)
  |(exact⟨bC (gH (y:=[97,110,100]) (by decide) ‹(s.toList==[97,110,100])=true›).symm,rfl⟩)
  |(exact⟨bC (gH (y:=[111,114]) (by decide) ‹(s.toList==[111,114])=true›).symm,rfl⟩)
  |(exact⟨bC (gH (y:=[110,111,116]) (by decide) ‹(s.toList==[110,111,116])=true›).symm,rfl⟩)
  |(exact⟨bC (gH (y:=[119,97,115]) (by decide) ‹(s.toList==[119,97,115])=true›).symm,rfl⟩)
  |(exact⟨bC (gH (y:=[116,114,117,101]) (by decide) ‹(s.toList==[116,114,117,101])=true›).symm,rfl⟩)
  |(refine⟨bC ?_,rfl⟩;rw[<-Lib.toList_data];symm;simp only [Hx.dW,List.contains_cons,List.contains_nil,Bool.or_false, *])
theorem JK(s:ByteArray)(w:World)(hs:s.size<=3000):
  Calls Tryz.prog 190 #[.string s,.func (.func 151) #[] #[]] w λe w'=>e=.returned (.int .i64 (Hx.aB Hx.bq s.data.toList))/\w'=w:=by
 go_enter Tryz.func190,Tryz.ntmps190;go_wp2_with fail
 go_loop [5] (λn=>∃k:Nat,k<=s.size/\n=.int .i64 k/\k+Hx.aB Hx.bq (s.data.toList.drop k)=Hx.aB Hx.bq s.data.toList) (λn=>s.size-(intOf n).toNat)
 case atStart=>grind
 case round=>
  obtain⟨k,hk,rfl,hh⟩:=hrel;have H:=ae hh;clear hh
  by_cases hlt:k<s.size
  ·cases hp:Hx.bq s[k]with
   |true=>
    have HN:=ae (Hx.mo _ s k hlt hp);have HPP:=ae hp;clear hp;go_wp2_with fail;refine(lN _ _).mono ?_;rintro e w' ⟨rfl,rfl⟩;rw[HPP.out];go_wp2_with fail
    go_round
    case rel=>exact⟨k+1,by omega,by go_num,by have:=H.out;rw[HN.out]at this;omega⟩
    case measure=>grind[intOf]
   |false=>
    have HN:=ae (Hx.mp _ s k hlt hp);have HPP:=ae hp;clear hp;go_wp2_with fail;refine(lN _ _).mono ?_;rintro e w' ⟨rfl,rfl⟩;rw[HPP.out];go_wp2_with fail;go_ret;exact⟨di (by have:=H.out;rw[HN.out]at this;omega),rfl⟩
  ·have HN:=ae (Hx.xq Hx.bq s k (by omega))
   go_wp2_with fail;go_ret;exact⟨di (by have:=H.out;rw[HN.out]at this;omega),rfl⟩
theorem aci(s:ByteArray)(w:World)(hs:s.size<=3000):
  Calls Tryz.prog 190 #[.string s,.func (.func 191) #[] #[]] w λe w'=>e=.returned (.int .i64 (Hx.aB Hx.eG s.data.toList))/\w'=w:=by
 go_enter Tryz.func190,Tryz.ntmps190;go_wp2_with fail
 go_loop [5] (λn=>∃k:Nat,k<=s.size/\n=.int .i64 k/\k+Hx.aB Hx.eG (s.data.toList.drop k)=Hx.aB Hx.eG s.data.toList) (λn=>s.size-(intOf n).toNat)
 case atStart=>grind
 case round=>
  obtain⟨k,hk,rfl,hh⟩:=hrel;have H:=ae hh;clear hh
  by_cases hlt:k<s.size
  ·cases hp:Hx.eG s[k]with
   |true=>
    have HN:=ae (Hx.mo _ s k hlt hp);have HPP:=ae hp;clear hp;go_wp2_with fail;refine(pn _ _).mono ?_;rintro e w' ⟨rfl,rfl⟩;rw[HPP.out];go_wp2_with fail
    go_round
    case rel=>exact⟨k+1,by omega,by go_num,by have:=H.out;rw[HN.out]at this;omega⟩
    case measure=>grind[intOf]
   |false=>
    have HN:=ae (Hx.mp _ s k hlt hp);have HPP:=ae hp;clear hp;go_wp2_with fail;refine(pn _ _).mono ?_;rintro e w' ⟨rfl,rfl⟩;rw[HPP.out];go_wp2_with fail;go_ret;exact⟨di (by have:=H.out;rw[HN.out]at this;omega),rfl⟩
  ·have HN:=ae (Hx.xq Hx.eG s k (by omega))
   go_wp2_with fail;go_ret;exact⟨di (by have:=H.out;rw[HN.out]at this;omega),rfl⟩
structure dg(w:World)(b:Nat)(r:ByteArray)(line:Nat):Prop where
 rest:w.cell? ⟨b,0,none⟩=some (.string r)
 line:w.cell? ⟨b,1,none⟩=some (.int .i64 line)
 JL:w.frozen? ⟨b,0,none⟩=false
 JN:w.frozen? ⟨b,1,none⟩=false
 lies:b<w.heap.size
theorem dg.vX(h:dg w b r line)(r':ByteArray):dg (w.setCell ⟨b,0,none⟩ (.string r')) b r' line:=
 ⟨World.cell?_setCell_same' _ _ _ (by rw[h.rest];rfl),by rw[bX _ _ _ _ (by simp)];exact h.line,by simpa using h.JL,by simpa using h.JN,by simpa[World.setCell]using h.lies⟩
theorem dg.ar0(h:dg w b r line)(l':Nat):dg (w.setCell ⟨b,1,none⟩ (.int .i64 l')) b r l':=
 ⟨by rw[bX _ _ _ _ (by simp)];exact h.rest,World.cell?_setCell_same' _ _ _ (by rw[h.line];rfl),by simpa using h.JL,by simpa using h.JN,by simpa[World.setCell]using h.lies⟩
theorem kD(w:World)(b:Nat)(r:ByteArray)(line n:Nat)(h:dg w b r line)(hn:n<=r.size):
  Calls Tryz.prog 147 #[.pointer (some ⟨b,0,none⟩),.int .i64 n] w λe w'=>e=.returned (.string (r.extract 0 n))/\w'=w.setCell ⟨b,0,none⟩ (.string (r.extract n r.size)):=by
 obtain⟨c0,c1,f0,f1,hl⟩:=h;have hn':(n:Int)<=r.size:=by omega
 have Ex:(0:Int)<=n:=by omega
 go_enter Tryz.func147,Tryz.ntmps147;go_wp2;go_ret;simp
theorem acj(l:List UInt8):(Lib.indexByte l 10=-1/\Hx.cA l=[])\/∃o:Nat,Lib.indexByte l 10=o/\o<l.length/\Hx.cA l=l.drop o:=by
 induction l with
 |nil=>left;exact⟨rfl,rfl⟩
 |cons c r ih=>
  simp only [Lib.indexByte,Hx.cA]
  by_cases h:c=10
  ·right;exact⟨0,by simp[h],by simp,by simp[h]⟩
  ·have h':(c==10)=false:=by simpa using h
   rw[h',if_neg h];rcases ih with⟨h1,h2⟩|⟨o,h1,h2,h3⟩
   ·grind
   ·right
    refine⟨o+1,?_,by grind,by grind⟩
    grind
theorem zb(w:World)(b:Nat)(r:ByteArray)(line:Nat)(h:dg w b r line):
  Calls Tryz.prog 148 #[.pointer (some ⟨b,0,none⟩)] w λe w'=>e=.returned (.tuple #[])/\∃r':ByteArray,r'.data.toList=Hx.cA r.data.toList/\w'=w.setCell ⟨b,0,none⟩ (.string r'):=by
 have HS:=ae h;obtain⟨c0,c1,f0,f1,hl⟩:=h;have al6:(Int.toNat 10).toUInt8=10:=rfl;have HT:=ae al6;clear al6;rcases acj r.data.toList with⟨h1,h2⟩|⟨o,h1,h2,h3⟩
 ·have H1:=ae h1
  have H2:=ae h2;clear h1 h2;go_enter Tryz.func148,Tryz.ntmps148;go_wp2_with fail;refine(Tryz.strings_IndexByte _ _ _).mono ?_;rintro e w' ⟨rfl,rfl⟩;rw[HT.out,H1.out];go_wp2_with fail;refine(kD _ b r line r.size HS.out (Nat.le_refl _)).mono ?_;rintro e w' ⟨rfl,rfl⟩;go_wp2_with fail;go_end0;refine⟨rfl,_,?_,rfl⟩;rw[H2.out];simp
 ·have H1:=ae h1
  have H3:=ae h3;have ho:o<=r.size:=by simp at h2;omega
  clear h1 h2 h3;go_enter Tryz.func148,Tryz.ntmps148;go_wp2_with fail;refine(Tryz.strings_IndexByte _ _ _).mono ?_;rintro e w' ⟨rfl,rfl⟩;rw[HT.out,H1.out];go_wp2_with fail;refine(kD _ b r line o HS.out ho).mono ?_;rintro e w' ⟨rfl,rfl⟩;go_wp2_with fail;go_end0;refine⟨rfl,_,?_,rfl⟩;rw[H3.out,Lib.extract_data,List.take_of_length_le (by simp)]
def Sk(l:List UInt8)(line:Nat)(l':List UInt8)(mF:Nat):Prop:=
 ∀f acc,l.length<f->∃f',l'.length<f'/\Hx.fw f l line acc=Hx.fw f' l' mF acc
theorem Sk.refl(l:List UInt8)(line:Nat):Sk l line l line:=λf _ h=>⟨f,h,rfl⟩
theorem Sk.trans{l1 l2:List UInt8}{n1 n2:Nat}(h:Sk l n l1 n1)(k:Sk l1 n1 l2 n2):Sk l n l2 n2:=λf acc hf=>by
 obtain⟨f1,h1,e1⟩:=h f acc hf;obtain⟨f2,h2,e2⟩:=k f1 acc h1
 grind
theorem Sk.blank{c:UInt8}(h:c=32\/c=9):Sk (c::l) n l n:=λf acc hf=>by
 obtain⟨g,rfl⟩:∃g,f=g+1:=⟨f-1,by omega⟩;have h1:¬c=10:=by rcases h with rfl|rfl<;>decide
 exact⟨g,by grind,by rw[Hx.fw,if_neg h1,if_pos h]⟩
theorem Sk.lf:Sk (10::l) n l (n+1):=λf acc hf=>by
 obtain⟨g,rfl⟩:∃g,f=g+1:=⟨f-1,by omega⟩;exact⟨g,by grind,by rw[Hx.fw,if_pos rfl]⟩
theorem zc(l:List UInt8):(Hx.cA l).length<=l.length:=by
 induction l<;>grind[Hx.cA]
theorem Sk.rem:Sk (35::l) n (Hx.cA (35::l)) n:=λf acc hf=>by
 obtain⟨g,rfl⟩:∃g,f=g+1:=⟨f-1,by simp at hf;omega⟩;have e:Hx.cA (35::l)=Hx.cA l:=by rw[Hx.cA,if_neg (by decide)]
 have:=zc l;exact⟨g,by rw[e];simp at hf;omega,by rw[e,Hx.fw,if_neg (by decide),if_neg (by decide),if_pos rfl]⟩
def aev(w:World)(b:Nat)(r:ByteArray)(line k:Nat)(wr:World):Prop:=
 ∃(r':ByteArray)(mF:Nat),dg wr b r' mF/\Kp (λk=>k=b) w wr/\Sk r.data.toList line r'.data.toList mF/\r'.size<k/\r'.size<=r.size/\mF+r'.size<=line+r.size
def ack(l:List UInt8):Prop:=∀c r,l=c::r->¬c=10/\¬(c=32\/c=9)/\¬c=35
theorem En(r:ByteArray)(h:0<r.size):∃l,r.data.toList=r[0]::l/\(r.extract 1 r.size).data.toList=l:=by
 refine⟨r.data.toList.drop 1,?_,?_⟩
 ·have:=Hx.drop_one r 0 h;grind
 ·rw[Lib.extract_data,List.take_of_length_le (by simp)]
theorem zd(w:World)(b:Nat)(r:ByteArray)(line:Nat)(h:dg w b r line)(hr:r.size<=3000)(nJ:line<=10000):
  Calls Tryz.prog 101 #[.pointer (some ⟨b,0,none⟩)] w λe w'=>e=.returned (.tuple #[])/\∃(r':ByteArray)(mF:Nat),dg w' b r' mF/\Kp (λk=>k=b) w w'/\Sk r.data.toList line r'.data.toList mF/\r'.size<=r.size/\mF+r'.size<=line+r.size/\ack r'.data.toList:=by
 have H0:Hid (aev w b r line (r.size+1) w):=⟨r,line,h,Kp.refl _ _,Sk.refl _ _,by omega,by omega,by omega⟩;clear h;go_enter Tryz.func101,Tryz.ntmps101;go_wp2_with fail
 go_loopg [] (r.size+1) (λk wr=>aev w b r line k wr)
 case atStart=>exact H0.out
 case round=>
  obtain⟨q,n,hS,hK,hk,hq,hqr,hqn⟩:=hrel;clear H0;have HS:=ae hS;have HK:=ae hK;have HSk:=ae hk;obtain⟨c0,c1,f0,f1,hl⟩:=hS;clear hK hk
  by_cases h0:q.size=0
  ·have e0:(q.toList==[])=true:=by rw[Lib.toList_data];simp;exact Array.eq_empty_of_size_eq_zero h0
   have e0':(q.toList !=[])=false:=by simp[bne,e0]
   have HB:=ae (show ack q.data.toList from λc r e=>by have:=congrArg List.length e;simp at this;omega);clear h0;go_wp2_with fail;go_end0;exact⟨rfl,q,n,HS.out,HK.out,HSk.out,hqr,hqn,HB.out⟩
  ·have kM:0<q.size:=by omega
   have e0:(q.toList==[])=false:=by rw[Lib.toList_data,beq_eq_false_iff_ne];intro e;have h2:=Lib.size_eq q;rw[e]at h2;simp only [List.length_nil]at h2;omega
   have e0':(q.toList !=[])=true:=by simp[bne,e0]
   obtain⟨tl,t1,t2⟩:=En q kM;have HQ:=ae (And.intro t1 t2);clear t1 t2 h0
   by_cases k32:q[0]=32
   ·have c32:=Hx.fN (m:=32) rfl k32
    have HC:=ae k32;clear k32;go_wp2_with fail;refine(kD _ b q n 1 HS.out (by omega)).mono ?_;rintro e w1 ⟨rfl,rfl⟩;go_wp2_with fail
    go_roundg (q.size)
    case measure=>omega
    case rel=>exact⟨q.extract 1 q.size,n,HS.out.vX _,HK.out.setCell (.inl rfl) _,HSk.out.trans (by rw[HQ.out.1,HQ.out.2];exact Sk.blank (.inl HC.out)),by simp;omega,by simp;omega,by simp;omega⟩
   ·have c32:=Hx.iu (m:=32) rfl k32
    have JO:=ae k32;clear k32
    by_cases k9:q[0]=9
    ·have c9:=Hx.fN (m:=9) rfl k9
     have HC:=ae k9;clear k9;go_wp2_with fail;refine(kD _ b q n 1 HS.out (by omega)).mono ?_;rintro e w1 ⟨rfl,rfl⟩;go_wp2_with fail
     go_roundg (q.size)
     case measure=>omega
     case rel=>exact⟨q.extract 1 q.size,n,HS.out.vX _,HK.out.setCell (.inl rfl) _,HSk.out.trans (by rw[HQ.out.1,HQ.out.2];exact Sk.blank (.inr HC.out)),by simp;omega,by simp;omega,by simp;omega⟩
    ·have c9:=Hx.iu (m:=9) rfl k9
     have H9:=ae k9;clear k9
     by_cases k10:q[0]=10
     ·have c10:=Hx.fN (m:=10) rfl k10
      have HC:=ae k10;clear k10;go_wp2_with fail;refine(kD _ b q n 1 HS.out (by omega)).mono ?_;rintro e w1 ⟨rfl,rfl⟩;have tH:=ae (HS.out.vX (q.extract 1 q.size));obtain⟨d0,d1,g0,g1,nW⟩:=tH.out;go_wp2_with fail
      go_roundg (q.size)
      case measure=>omega
      case rel=>exact⟨q.extract 1 q.size,n+1,by have:=tH.out.ar0 (n+1);grind,(HK.out.setCell (.inl rfl) _).setCell (.inl rfl) _,HSk.out.trans (by rw[HQ.out.1,HQ.out.2,HC.out];exact Sk.lf),by simp;omega,by simp;omega,by simp;omega⟩
     ·have c10:=Hx.iu (m:=10) rfl k10
      have FQ:=ae k10;clear k10
      by_cases k35:q[0]=35
      ·have c35:=Hx.fN (m:=35) rfl k35
       have HC:=ae k35;clear k35;go_wp2_with fail;refine(zb _ b q n HS.out).mono ?_;rintro e w1 ⟨rfl,r1,dw,rfl⟩;have hle:r1.size<q.size:=by
        have e1:r1.data.toList.length=(Hx.cA q.data.toList).length:=by rw[dw]
        rw[HQ.out.1,HC.out,Hx.cA,if_neg (by decide)]at e1;have e2:=zc tl;have e3:q.data.toList.length=tl.length+1:=by rw[HQ.out.1];rfl
        simp at e1 e3;omega
       have zk:=ae dw;clear dw;go_wp2_with fail
       go_roundg (q.size)
       case measure=>omega
       case rel=>exact⟨r1,n,HS.out.vX _,HK.out.setCell (.inl rfl) _,HSk.out.trans (by rw[zk.out,HQ.out.1,HC.out];exact Sk.rem),by omega,by omega,by omega⟩
      ·have c35:=Hx.iu (m:=35) rfl k35
       have HB:=ae (show ack q.data.toList from λc r e=>by
        rw[HQ.out.1]at e
        cases e
        exact⟨FQ.out,λh=>h.elim JO.out H9.out,k35⟩)
       clear k35;go_wp2_with fail;refine bodyPost_ret (results_none rfl _ _ _) rfl ?_;exact⟨rfl,q,n,HS.out,HK.out,HSk.out,hqr,hqn,HB.out⟩
def ao(k:Nat):Int:=if k=101 then 0 else if k=110 then 1 else if k=105 then 2 else 3
def zz(t:Hx.Tok):Value:=.agg #[.int .i64 (ao t.k),.string t.s,.int .i64 t.n,.int .i64 t.line]
def lJ:Value:=.agg #[.int .i64 0,.string ⟨#[]⟩,.int .i64 0,.int .i64 0]
def mE(w:World)(b:Nat)(q:ByteArray)(line:Nat)(e:Ending)(w':World):Prop:=
 Kp (λk=>k=b) w w'/\match Hx.dP q.data.toList line with
  |none=>e=.returned (.tuple #[lJ,.bool false])/\dg w' b q line
  |some (n,t)=>e=.returned (.tuple #[zz t,.bool true])/\dg w' b (q.extract n q.size) line/\0<n/\n<=q.size
theorem dg.below{w':World}(h:dg w b r line)(hb:Below w.heap.size w w'):dg w' b r line:=
 ⟨(hb.cell h.lies).trans h.rest,(hb.cell h.lies).trans h.line,(hb.frozen h.lies).trans h.JL,(hb.frozen h.lies).trans h.JN,Nat.lt_of_lt_of_le h.lies hb.size⟩
namespace Hx
theorem kL(q:ByteArray)(h0:0<q.size)(lx:jk q[0]=true):(∃hi:0<q.size,(¬q[0]=45)/\97<=(q[0].toNat:Int)/\(q[0].toNat:Int)<=122)/\aB bq (q.data.toList.drop (0+0))=0:=by
 rw[mr]at lx;simp at lx;refine⟨⟨h0,λe=>by simp_all,by omega,by omega⟩,mp bq q 0 h0 (KH (by omega))⟩
theorem QD(q:ByteArray)(n line:Nat)(h0:0<q.size)(lx:jk q[0]=true)(hn:aB eG q.data.toList=n)(n8:8<n):dP q.data.toList line=none:=
 qw q 0 n line (kL q h0 lx).1 (kL q h0 lx).2 hn n8
theorem QE(q:ByteArray)(n line:Nat)(h0:0<q.size)(lx:jk q[0]=true)(hn:aB eG q.data.toList=n)(n8:¬8<n):
  dP q.data.toList line=some (n,⟨if dW.contains (q.extract 0 n).data.toList then 119 else 110,q.extract 0 n,0,line⟩):=by
 cases hw:dW.contains (q.extract 0 n).data.toList with
 |true=>have:=rX q 0 n line (kL q h0 lx).1 (kL q h0 lx).2 hn n8 (by grind);grind
 |false=>have:=rW q 0 n line (kL q h0 lx).1 (kL q h0 lx).2 hn n8 (by grind);grind
end Hx
theorem FR(w:World)(b:Nat)(q:ByteArray)(line:Nat)(h:dg w b q line)(hq:q.size<=3000)(h0:0<q.size)(lx:Hx.jk q[0]=true):
  Calls Tryz.prog 150 #[.pointer (some ⟨b,0,none⟩)] w λe w'=>mE w b q line e w':=by
 have HS:=ae h;obtain⟨c0,c1,f0,f1,hl⟩:=h;go_enter Tryz.func150,Tryz.ntmps150;go_wp2_with fail;refine(aci q _ hq).mono ?_;rintro e w1 ⟨rfl,rfl⟩;generalize hn:Hx.aB Hx.eG q.data.toList=n;have HN:=ae hn;have qf:=by have:=Hx.fC Hx.eG q.data.toList;rw[hn]at this;simpa using this
 clear hn;have hq0:q.data.toList.drop 0=q.data.toList:=rfl
 by_cases n8:8<n
 ·have HT:=ae (Hx.QD q n line h0 lx HN.out n8)
  go_wp2_with fail;refine bodyPost_ret (v:=.tuple #[lJ,.bool false]) (by simp[results,Tryz.results150,go_sem,lJ]) rfl ?_;refine⟨(Kp.refl _ _).alloc _,?_⟩;rw[HT.out];exact⟨rfl,HS.out.below ((Below.refl _ _).alloc (Nat.le_refl _) _)⟩
 ·have tI:=Hx.QE q n line h0 lx HN.out n8
  have HW:=ae tI;clear tI;have Ex:0<n:=by
   rw[<-HN.out];have:=Hx.mo Hx.eG q 0 h0 (Hx.py lx);simp only [List.drop_zero]at this;omega
  have hL1:∀o,((w.setCell ⟨b,0,none⟩ (.string (q.extract n q.size))).alloc o).cell? ⟨b,1,none⟩=some (.int .i64 line):=λo=>((HS.out.vX _).below ((Below.refl _ _).alloc (Nat.le_refl _) o)).line
  have hL2:∀o o',(((w.setCell ⟨b,0,none⟩ (.string (q.extract n q.size))).alloc o).alloc o').cell? ⟨b,1,none⟩=some (.int .i64 line):=λo o'=>((HS.out.vX _).below (((Below.refl _ _).alloc (Nat.le_refl _) o).alloc (by simp) o')).line
  go_wp2_with fail
  go_region_held3 (λW=>W.cell? ⟨b,1,none⟩=some (.int .i64 line)) (first|go_keep|(simp;assumption))
   ((go_at_call 147;refine(kD _ b q line n ?_ qf).mono ?_;(first|exact HS.out.below ((Below.refl _ _).alloc (Nat.le_refl _) _).drew|exact HS.out.below (((Below.refl _ _).alloc (Nat.le_refl _) _).alloc (by simp) _).drew);rintro e w1 ⟨rfl,rfl⟩))
  all_goals
   go_wp2_with fail;refine(ML _ _).mono ?_;rintro e w1 ⟨rfl,rfl⟩
   cases hw:Hx.dW.contains (q.extract 0 n).data.toList with
   |true=>
    have HX:=ae (show Hx.dP q.data.toList line=some (n,⟨119,q.extract 0 n,0,line⟩) by rw[HW.out,hw];rfl);clear hw;go_wp2_with fail;refine bodyPost_ret (v:=.tuple #[.agg #[.int .i64 3,.string (q.extract 0 n),.int .i64 0,.int .i64 line],.bool true]) (by simp[results,Tryz.results150,go_sem]) rfl ?_;refine⟨((((Kp.refl (λk=>k=b) w).setCell (.inl rfl) _).alloc _).alloc _).drew,?_⟩;rw[HX.out];exact⟨rfl,(HS.out.vX _).below ((((Below.refl _ _).alloc (Nat.le_refl _) _).alloc (by simp) _).drew),Ex,qf⟩
   |false=>
    have HX:=ae (show Hx.dP q.data.toList line=some (n,⟨110,q.extract 0 n,0,line⟩) by rw[HW.out,hw];rfl);clear hw;go_wp2_with fail;refine bodyPost_ret (v:=.tuple #[.agg #[.int .i64 1,.string (q.extract 0 n),.int .i64 0,.int .i64 line],.bool true]) (by simp[results,Tryz.results150,go_sem]) rfl ?_;refine⟨((((Kp.refl (λk=>k=b) w).setCell (.inl rfl) _).alloc _).alloc _).drew,?_⟩;rw[HX.out];exact⟨rfl,(HS.out.vX _).below ((((Below.refl _ _).alloc (Nat.le_refl _) _).alloc (by simp) _).drew),Ex,qf⟩
