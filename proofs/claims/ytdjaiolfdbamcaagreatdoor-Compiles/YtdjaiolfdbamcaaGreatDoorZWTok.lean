/- The walk of helmref's Tokens: the call returns the tokens of the text. -/
import Derived.Test.YtdjaiolfdbamcaaGreatDoorZWScan1
set_option maxRecDepth 20000
set_option maxHeartbeats 8000000
namespace Go.Proofs.YtdjaiolfdbamcaaGreatDoor
open Go.RowKit
def ahf(s:ByteArray)(w:World)(R:Nat⊕List Hx.Tok)(vl Xf vi:Value)(wr:World):Prop:=
 ∃(i line f:Nat)(acc:List Hx.Tok),vi=.int .i64 i/\Xf=.int .i64 line/\i<=s.size/\line<=i+1/\s.size-i<f/\
  Hx.fw f (s.data.toList.drop i) line acc=R/\wr.ownsRow w.heap.size 130 4 vl acc.length (nN acc)/\acc.length<=i/\Below w.heap.size w wr
theorem Tryz.infoTok:(Tryz.prog.info? 130).map (λi=>(i.zero,i.size,i.bytes))=some (some (.agg #[.int .u8 0,.string ⟨#[]⟩,.int .i64 0,.int .i64 0]),4,40):=by kernel_rfl
def acU(R:Nat⊕List Hx.Tok)(B:Nat)(e:Ending)(w':World):Prop:=
 match R with
 | .inl line=>e=.returned (.tuple #[.slice none 0 0,.int .i64 line])
 | .inr ts=>∃v,e=.returned (.tuple #[v,.int .i64 0])/\w'.ownsRow B 130 4 v ts.length (nN ts)
theorem rB(s:ByteArray)(w:World)(hs:s.size<=3000):
  Calls Tryz.prog 91 #[.string s] w λe w'=>acU (Hx.lex s.data.toList) w.heap.size e w'/\Below w.heap.size w w':=by
 obtain⟨i0,dl,eu,dA,eg⟩:=info_parts Tryz.infoTok;generalize hR:Hx.lex s.data.toList=R;have HR:Hid (_=_):=hR;clear hR;go_enter Tryz.func91,Tryz.ntmps91;go_wp2_with fail
 go_loopw [4,5,6] (λvl Xf vi wr=>ahf s w R vl Xf vi wr) (λ_ _ vi _=>s.size-(intOf vi).toNat)
 case atStart=>exact⟨0,1,s.size+1,[],rfl,rfl,by omega,by omega,by omega,by simpa[Hx.lex]using HR.out,World.ownsRow_nil _ _ _ _,by simp,Below.refl _ _⟩
 case round=>
  obtain⟨i,line,f,acc,rfl,rfl,hi,nJ,hf,kg,aJ,aaF,hb⟩:=hrel;obtain⟨f,rfl⟩:∃g,f=g+1:=⟨f-1,by omega⟩;have HX:Hid (Hx.fw (f+1) (s.data.toList.drop i) line acc=R):=kg;have HO:Hid (wr.ownsRow w.heap.size 130 4 u4 acc.length (nN acc)):=aJ;have HB:Hid (Below w.heap.size w wr):=hb;clear kg aJ hb
  by_cases hlt:i<s.size
  ·by_cases h10:s[i]=10
   ·have c10:=Hx.fN (m:=10) rfl h10
    have FQ:Hid (s[i]=10):=h10;clear h10;go_wp2
    go_roundw
    case rel=>exact⟨i+1,line+1,f,acc,by go_num,by go_num,by omega,by omega,by omega,(Hx.ZJ f s i line acc hlt FQ.out).symm.trans HX.out,HO.out,by omega,HB.out⟩
    case measure=>simp[intOf];omega
   ·have c10:=Hx.iu (m:=10) rfl h10
    have FQ:Hid (¬s[i]=10):=h10;clear h10
    by_cases QL:s[i]=32
    ·have c32:=Hx.fN (m:=32) rfl QL
     have JO:Hid (s[i]=32):=QL;clear QL;go_wp2
     go_roundw
     case rel=>exact⟨i+1,line,f,acc,by go_num,by go_num,by omega,by omega,by omega,(Hx.xx f s i line acc hlt FQ.out (.inl JO.out)).symm.trans HX.out,HO.out,by omega,HB.out⟩
     case measure=>simp[intOf];omega
    ·have c32:=Hx.iu (m:=32) rfl QL
     have JO:Hid (¬s[i]=32):=QL;clear QL
     by_cases h9:s[i]=9
     ·have c9:=Hx.fN (m:=9) rfl h9
      have H9:Hid (s[i]=9):=h9;clear h9;go_wp2
      go_roundw
      case rel=>exact⟨i+1,line,f,acc,by go_num,by go_num,by omega,by omega,by omega,(Hx.xx f s i line acc hlt FQ.out (.inr H9.out)).symm.trans HX.out,HO.out,by omega,HB.out⟩
      case measure=>simp[intOf];omega
     ·have c9:=Hx.iu (m:=9) rfl h9
      have H9:Hid (¬s[i]=9):=h9;clear h9
      by_cases h35:s[i]=35
      ·have c35:=Hx.fN (m:=35) rfl h35
       have J1:Hid (s[i]=35):=h35;clear h35;go_wp2
       go_loop [6] (λvi=>∃j:Nat,i<=j/\j<=s.size/\vi=.int .i64 j/\Hx.cA (s.data.toList.drop i)=Hx.cA (s.data.toList.drop j)) (λvi=>s.size-(intOf vi).toNat)
       case atStart=>exact⟨i,Nat.le_refl _,hi,rfl,rfl⟩
       case round=>
        obtain⟨j,Kd,hj,rfl,Rg⟩:=hrel;have HD:Hid (Hx.cA (s.data.toList.drop i)=Hx.cA (s.data.toList.drop j)):=Rg;clear Rg
        by_cases iP:j<s.size
        ·by_cases g10:s[j]=10
         ·have d10:=Hx.fN (m:=10) rfl g10
          have G10:Hid (s[j]=10):=g10;clear g10;have hne:j≠i:=λe=>by subst e;have h1:=G10.out;have h2:=J1.out;rw[h1]at h2;revert h2;decide
          go_wp2
          go_roundw
          case rel=>exact⟨j,line,f,acc,rfl,rfl,by omega,by omega,by omega,(Hx.GQ f s i line j acc hlt J1.out (HD.out.trans (Hx.KM s j iP G10.out))).symm.trans HX.out,HO.out,by omega,HB.out⟩
          case measure=>simp[intOf];omega
         ·have d10:=Hx.iu (m:=10) rfl g10
          have G10:Hid (¬s[j]=10):=g10;clear g10;go_wp2
          go_round
          case rel=>exact⟨j+1,by omega,by omega,by go_num,HD.out.trans (Hx.rV s j iP G10.out)⟩
          case measure=>simp[intOf];omega
        ·go_wp2
         go_roundw
         case rel=>exact⟨j,line,f,acc,rfl,rfl,by omega,by omega,by omega,(Hx.GQ f s i line j acc hlt J1.out (HD.out.trans (Hx.GN s j (by omega)))).symm.trans HX.out,HO.out,by omega,HB.out⟩
         case measure=>simp[intOf];omega
      ·have c35:=Hx.iu (m:=35) rfl h35
       have J1:Hid (¬s[i]=35):=h35;clear h35
       by_cases h45:s[i]=45
       ·have c45:=Hx.fN (m:=45) rfl h45
        have Kl:Hid (s[i]=45):=h45;clear h45;go_wp2_with fail;rw[show((i:Int)+1)=((i+1:Nat):Int) by omega];refine(vL s (i+1) _ hs (by omega)).mono ?_;rintro e w1 ⟨rfl,rfl⟩;generalize hd:Hx.aB Hx.bq (s.data.toList.drop (i+1))=d;have HD:Hid (_=_):=hd;clear hd;have tO:i+1+d<=s.size:=by have:=Hx.fC Hx.bq (s.data.toList.drop (i+1));rw[HD.out]at this;simp at this;omega
        by_cases d0:0<d
        ·by_cases d4:4<d
         ·have HF:=ae ((Hx.kH f s i line acc hlt FQ.out (by rintro(h|h);exact JO.out h;exact H9.out h) J1.out (Hx.Dv s i d line ⟨hlt,Kl.out⟩ HD.out d0 d4)).symm.trans HX.out)
          go_wp2
          go_ret2
          exact⟨by rw[<-HF.out];rfl,HB.out.alloc HB.out.size _⟩
         ·go_wp2
          go_loopw [12] (λvk wq=>∃j nq:Nat,j<=d/\vk=.int .i64 j/\wq=(wr.alloc (.cells #[.int .u8 0,.string ⟨#[]⟩,.int .i64 (Hx.numOf ((s.data.toList.drop (i+1)).take j)),.int .i64 line] 130)).drewN nq) (λvk _=>d-(intOf vk).toNat)
          case atStart=>exact⟨0,0,by omega,rfl,rfl⟩
          case round=>
           obtain⟨j,nq,hj,rfl,rfl⟩:=hrel
           by_cases hjd:j<d
           ·have hdg:=Hx.KN s (i+1) j (by rw[HD.out];exact hjd)
            obtain⟨q1,q2,q3⟩:=hdg;have hN:=Hx.mt s (i+1) j (by rw[HD.out];exact hj) (by omega);have hN1:=Hx.qS s (i+1) j q1;generalize J0:Hx.numOf ((s.data.toList.drop (i+1)).take j)=N at*;have HN:Hid (_=_):=hN1;clear hN1;have Kb:Hid (_=_):=J0;clear J0;obtain⟨n1,n2⟩:=hN;have q4:(i:Int)+1+j<s.size:=by omega
            have q5:0<=(i:Int)+1+j:=by omega
            go_wp2
            go_region
            go_wp2
            go_roundw
            case rel=>exact⟨j+1,nq+1,by omega,by go_num,by rw[Ds,HN.out];rfl⟩
            case measure=>simp[intOf];omega
           ·obtain rfl:j=d:=by omega
            have hN:=Hx.mt s (i+1) j (by rw[HD.out];exact hj) (by omega);generalize J0:Hx.numOf ((s.data.toList.drop (i+1)).take j)=N at*;have Kb:Hid (_=_):=J0;clear J0;obtain⟨n1,n2⟩:=hN;go_wp2_with fail;refine(vN _ _ (by omega) (by omega)).mono ?_;rintro e w1 ⟨rfl,bH⟩;obtain⟨hc,hfz⟩:=adn bH;have hz:=bH.size;simp at hz;have b6:=ae bH;clear bH;have HW:Hid (Below wr.heap.size wr (w1.setCell ⟨wr.heap.size,1,none⟩ (.string ⟨(Hx.iy (-N)).toArray⟩))):=Below.setCell (xj (by repeat(first|exact Below.refl _ _|refine Below.alloc ?_ (by simp) _|refine Below.setCell ?_ (by simp) _|refine below_drewN ?_ _)) b6.out (by simp)) (by simp) _;go_wp2_with (at_builtin;refine wpList_append_own _ rfl _ _ 112 rfl w.heap.size 130 i0 _ 4 40 Tryz.underlying112 dl eu dA eg rfl (by decide) _ _ _ rfl (ah HO.out (HW.out.alloc HW.out.size _)) ⟨w1.heap.size,0,none⟩ 1 1 ([.int .u8 105,.string ⟨(Hx.iy (-N)).toArray⟩,.int .i64 (-N),.int .i64 line]) rfl rfl ?c1 ?c2 ?c3 ?c4 ?c5 ?_)
            case c1=>exact aF _ _ (by simp) [_,_,_,_] _
            case c2=>intro u hu;simp at hu;rcases hu with rfl|rfl|rfl|rfl<;>rfl
            case c3=>unfold maxLen;omega
            case c4=>omega
            case c5=>have h1:=HB.out.size;have h2:=HW.out.size;simp at h2|-;omega
            intro v' w2 bE ax _;have aT:Below w.heap.size w w2:=bQ (HB.out.trans ((HW.out.alloc HW.out.size _).mono HB.out.size)) (ah HO.out (HW.out.alloc HW.out.size _)) ax (Nat.le_trans HB.out.size (HW.out.alloc HW.out.size _).size);have HG:Hid (Below w.heap.size w w2/\w2.ownsRow w.heap.size 130 4 v' (acc.length+1) (nN acc++([.int .u8 105,.string ⟨(Hx.iy (-N)).toArray⟩,.int .i64 (-N),.int .i64 line]))):=⟨aT,bE⟩;clear aT bE ax;go_wp2
            go_roundw
            case rel=>exact⟨i+(1+j),line,f,acc++[⟨105,⟨(Hx.iy (-N)).toArray⟩,-N,line⟩],by go_num,by go_num,by omega,by omega,by omega,(Hx.js f s i line (1+j) _ acc hlt FQ.out (by rintro(h|h);exact JO.out h;exact H9.out h) J1.out (Hx.GR s i j line N ⟨hlt,Kl.out⟩ HD.out d0 d4 Kb.out)).symm.trans HX.out,by rw[iI,List.length_append];exact HG.out.2,by simp;omega,HG.out.1⟩
            case measure=>simp[intOf];omega
        ·obtain rfl:d=0:=by omega
         have qf:¬(97<=(s[i].toNat:Int)/\(s[i].toNat:Int)<=122):=by rw[Kl.out];decide
         have hq:(s[i].toNat:Int)<97:=by rw[Kl.out];decide
         generalize rk:Hx.bg (s.data.toList.drop i)=n;have HS:Hid (_=_):=rk;clear rk;go_wp2_with fail;refine(za s i _ hs hlt).mono ?_;rintro e w1 ⟨rfl,rfl⟩;rw[HS.out];have MW:n<=2/\i+n<=s.size:=by rw[<-HS.out];exact Hx.qT s i hlt
         by_cases n0:n=0
         ·obtain rfl:=n0
          have HF:=ae ((Hx.kH f s i line acc hlt FQ.out (by rintro(h|h);exact JO.out h;exact H9.out h) J1.out (Hx.oD s i line ⟨hlt,Kl.out,qf⟩ HD.out HS.out)).symm.trans HX.out);go_wp2
          go_ret2
          exact⟨by rw[<-HF.out];rfl,(HB.out.alloc HB.out.size _)⟩
         ·have cn0:((n:Int)==0)=false:=by rw[beq_eq_false_iff_ne];omega
          have HW:Hid (Below wr.heap.size wr (wr.alloc (.cells #[.int .u8 115,.string (s.extract i (i+n)),.int .i64 0,.int .i64 line] 130))):=(Below.refl _ _).alloc (Nat.le_refl _) _;go_wp2_with (at_builtin;refine wpList_append_own _ rfl _ _ 112 rfl w.heap.size 130 i0 _ 4 40 Tryz.underlying112 dl eu dA eg rfl (by decide) _ _ _ rfl (ah HO.out (HW.out.alloc HW.out.size _)) ⟨wr.heap.size+1,0,none⟩ 1 1 ([.int .u8 115,.string (s.extract i (i+n)),.int .i64 0,.int .i64 line]) rfl rfl ?c1 ?c2 ?c3 ?c4 ?c5 ?_)
          case c1=>exact aF _ _ (by simp) [_,_,_,_] _
          case c2=>intro u hu;simp at hu;rcases hu with rfl|rfl|rfl|rfl<;>rfl
          case c3=>unfold maxLen;omega
          case c4=>omega
          case c5=>have h1:=HB.out.size;have h2:=HW.out.size;simp at h2|-;omega
          intro v' w2 bE ax _;have aT:Below w.heap.size w w2:=bQ (HB.out.trans ((HW.out.alloc HW.out.size _).mono HB.out.size)) (ah HO.out (HW.out.alloc HW.out.size _)) ax (Nat.le_trans HB.out.size (HW.out.alloc HW.out.size _).size);have HG:Hid (Below w.heap.size w w2/\w2.ownsRow w.heap.size 130 4 v' (acc.length+1) (nN acc++([.int .u8 115,.string (s.extract i (i+n)),.int .i64 0,.int .i64 line]))):=⟨aT,bE⟩;clear aT bE ax;go_wp2
          go_roundw
          case rel=>exact⟨i+(n),line,f,acc++[⟨115,s.extract i (i+n),0,line⟩],by go_num,by go_num,by omega,by omega,by omega,(Hx.js f s i line n _ acc hlt FQ.out (by rintro(h|h);exact JO.out h;exact H9.out h) J1.out (Hx.Ou s i n line ⟨hlt,Kl.out,qf⟩ HD.out HS.out n0)).symm.trans HX.out,by rw[iI,List.length_append];exact HG.out.2,by simp;omega,HG.out.1⟩
          case measure=>simp[intOf];omega
       ·have c45:=Hx.iu (m:=45) rfl h45
        have Kl:Hid (¬s[i]=45):=h45;clear h45;go_wp2_with fail;refine(vL s i _ hs (by omega)).mono ?_;rintro e w1 ⟨rfl,rfl⟩;generalize hd:Hx.aB Hx.bq (s.data.toList.drop i)=d;have HD:Hid (_=_):=hd;clear hd;have tO:i+0+d<=s.size:=by have:=Hx.fC Hx.bq (s.data.toList.drop i);rw[HD.out]at this;simp at this;omega
        by_cases d0:0<d
        ·by_cases d4:4<d
         ·have HF:=ae ((Hx.kH f s i line acc hlt FQ.out (by rintro(h|h);exact JO.out h;exact H9.out h) J1.out (Hx.Dw s i d line ⟨hlt,Kl.out⟩ HD.out d0 d4)).symm.trans HX.out)
          go_wp2
          go_ret2
          exact⟨by rw[<-HF.out];rfl,HB.out.alloc HB.out.size _⟩
         ·go_wp2
          go_loopw [12] (λvk wq=>∃j nq:Nat,j<=d/\vk=.int .i64 j/\wq=(wr.alloc (.cells #[.int .u8 0,.string ⟨#[]⟩,.int .i64 (Hx.numOf ((s.data.toList.drop i).take j)),.int .i64 line] 130)).drewN nq) (λvk _=>d-(intOf vk).toNat)
          case atStart=>exact⟨0,0,by omega,rfl,rfl⟩
          case round=>
           obtain⟨j,nq,hj,rfl,rfl⟩:=hrel
           by_cases hjd:j<d
           ·have hdg:=Hx.KN s i j (by rw[HD.out];exact hjd)
            obtain⟨q1,q2,q3⟩:=hdg;have hN:=Hx.mt s i j (by rw[HD.out];exact hj) (by omega);have hN1:=Hx.qS s i j q1;generalize J0:Hx.numOf ((s.data.toList.drop i).take j)=N at*;have HN:Hid (_=_):=hN1;clear hN1;have Kb:Hid (_=_):=J0;clear J0;obtain⟨n1,n2⟩:=hN;have q4:(i:Int)+j<s.size:=by omega
            have q5:0<=(i:Int)+j:=by omega
            go_wp2
            go_region
            go_wp2
            go_roundw
            case rel=>exact⟨j+1,nq+1,by omega,by go_num,by rw[Ds,HN.out];rfl⟩
            case measure=>simp[intOf];omega
           ·obtain rfl:j=d:=by omega
            have hN:=Hx.mt s i j (by rw[HD.out];exact hj) (by omega);generalize J0:Hx.numOf ((s.data.toList.drop i).take j)=N at*;have Kb:Hid (_=_):=J0;clear J0;obtain⟨n1,n2⟩:=hN;go_wp2_with fail;refine(vN _ _ (by omega) (by omega)).mono ?_;rintro e w1 ⟨rfl,bH⟩;obtain⟨hc,hfz⟩:=adn bH;have hz:=bH.size;simp at hz;have b6:=ae bH;clear bH;have HW:Hid (Below wr.heap.size wr (w1.setCell ⟨wr.heap.size,1,none⟩ (.string ⟨(Hx.iy (N)).toArray⟩))):=Below.setCell (xj (by repeat(first|exact Below.refl _ _|refine Below.alloc ?_ (by simp) _|refine Below.setCell ?_ (by simp) _|refine below_drewN ?_ _)) b6.out (by simp)) (by simp) _;go_wp2_with (at_builtin;refine wpList_append_own _ rfl _ _ 112 rfl w.heap.size 130 i0 _ 4 40 Tryz.underlying112 dl eu dA eg rfl (by decide) _ _ _ rfl (ah HO.out (HW.out.alloc HW.out.size _)) ⟨w1.heap.size,0,none⟩ 1 1 ([.int .u8 105,.string ⟨(Hx.iy (N)).toArray⟩,.int .i64 (N),.int .i64 line]) rfl rfl ?c1 ?c2 ?c3 ?c4 ?c5 ?_)
            case c1=>exact aF _ _ (by simp) [_,_,_,_] _
            case c2=>intro u hu;simp at hu;rcases hu with rfl|rfl|rfl|rfl<;>rfl
            case c3=>unfold maxLen;omega
            case c4=>omega
            case c5=>have h1:=HB.out.size;have h2:=HW.out.size;simp at h2|-;omega
            intro v' w2 bE ax _;have aT:Below w.heap.size w w2:=bQ (HB.out.trans ((HW.out.alloc HW.out.size _).mono HB.out.size)) (ah HO.out (HW.out.alloc HW.out.size _)) ax (Nat.le_trans HB.out.size (HW.out.alloc HW.out.size _).size);have HG:Hid (Below w.heap.size w w2/\w2.ownsRow w.heap.size 130 4 v' (acc.length+1) (nN acc++([.int .u8 105,.string ⟨(Hx.iy (N)).toArray⟩,.int .i64 (N),.int .i64 line]))):=⟨aT,bE⟩;clear aT bE ax;go_wp2
            go_roundw
            case rel=>exact⟨i+(0+j),line,f,acc++[⟨105,⟨(Hx.iy (N)).toArray⟩,N,line⟩],by go_num,by go_num,by omega,by omega,by omega,(Hx.js f s i line (0+j) _ acc hlt FQ.out (by rintro(h|h);exact JO.out h;exact H9.out h) J1.out (Hx.GU s i j line N ⟨hlt,Kl.out⟩ HD.out d0 d4 Kb.out)).symm.trans HX.out,by rw[iI,List.length_append];exact HG.out.2,by simp;omega,HG.out.1⟩
            case measure=>simp[intOf];omega
        ·obtain rfl:d=0:=by omega
         by_cases hl:97<=(s[i].toNat:Int)/\(s[i].toNat:Int)<=122
         ·obtain⟨l1,l2⟩:=hl
          go_wp2_with fail;refine(MI s i _ hs (by omega)).mono ?_;rintro e w1 ⟨rfl,rfl⟩;generalize hn:Hx.aB Hx.eG (s.data.toList.drop i)=n;have HN:Hid (_=_):=hn;clear hn;have qf:i+n<=s.size:=by have:=Hx.fC Hx.eG (s.data.toList.drop i);rw[HN.out]at this;simp at this;omega
          have Ex:0<n:=by rw[<-HN.out,Hx.mo _ s i hlt (Hx.py (Hx.rS l1 l2))];omega
          have hei:(s.extract i (i+n)).size<=3000:=by simp;omega
          have hsp:32∉(s.extract i (i+n)).data.toList:=by rw[<-HN.out];exact Hx.Sc s i
          go_wp2_with fail;refine(jz _ _ _ hei (by decide)).mono ?_;rintro e w1 ⟨rfl,rfl⟩;rw[Hx.GV _ hsp];generalize hwd:Hx.dW.contains (s.extract i (i+n)).data.toList=wd;have HWD:Hid (_=_):=hwd;clear hwd
          by_cases n8:8<n
          ·have HF:=ae ((Hx.kH f s i line acc hlt FQ.out (by rintro(h|h);exact JO.out h;exact H9.out h) J1.out (Hx.qw s i n line ⟨hlt,Kl.out,l1,l2⟩ HD.out HN.out n8)).symm.trans HX.out)
           cases wd
           ·go_wp2
            go_ret2
            exact⟨by rw[<-HF.out];rfl,(HB.out.alloc HB.out.size _)⟩
           ·go_wp2
            go_ret2
            exact⟨by rw[<-HF.out];rfl,(HB.out.alloc HB.out.size _)⟩
          ·cases wd
           ·have HW:Hid (Below wr.heap.size wr (wr.alloc (.cells #[.int .u8 110,.string (s.extract i (i+n)),.int .i64 0,.int .i64 line] 130))):=(Below.refl _ _).alloc (Nat.le_refl _) _
            go_wp2_with (at_builtin;refine wpList_append_own _ rfl _ _ 112 rfl w.heap.size 130 i0 _ 4 40 Tryz.underlying112 dl eu dA eg rfl (by decide) _ _ _ rfl (ah HO.out (HW.out.alloc HW.out.size _)) ⟨wr.heap.size+1,0,none⟩ 1 1 ([.int .u8 110,.string (s.extract i (i+n)),.int .i64 0,.int .i64 line]) rfl rfl ?c1 ?c2 ?c3 ?c4 ?c5 ?_)
            case c1=>exact aF _ _ (by simp) [_,_,_,_] _
            case c2=>intro u hu;simp at hu;rcases hu with rfl|rfl|rfl|rfl<;>rfl
            case c3=>unfold maxLen;omega
            case c4=>omega
            case c5=>have h1:=HB.out.size;have h2:=HW.out.size;simp at h2|-;omega
            intro v' w2 bE ax _;have aT:Below w.heap.size w w2:=bQ (HB.out.trans ((HW.out.alloc HW.out.size _).mono HB.out.size)) (ah HO.out (HW.out.alloc HW.out.size _)) ax (Nat.le_trans HB.out.size (HW.out.alloc HW.out.size _).size);have HG:Hid (Below w.heap.size w w2/\w2.ownsRow w.heap.size 130 4 v' (acc.length+1) (nN acc++([.int .u8 110,.string (s.extract i (i+n)),.int .i64 0,.int .i64 line]))):=⟨aT,bE⟩;clear aT bE ax;go_wp2
            go_roundw
            case rel=>exact⟨i+(n),line,f,acc++[⟨110,s.extract i (i+n),0,line⟩],by go_num,by go_num,by omega,by omega,by omega,(Hx.js f s i line n _ acc hlt FQ.out (by rintro(h|h);exact JO.out h;exact H9.out h) J1.out (Hx.rW s i n line ⟨hlt,Kl.out,l1,l2⟩ HD.out HN.out n8 HWD.out)).symm.trans HX.out,by rw[iI,List.length_append];exact HG.out.2,by simp;omega,HG.out.1⟩
            case measure=>simp[intOf];omega
           ·have HW:Hid (Below wr.heap.size wr (wr.alloc (.cells #[.int .u8 119,.string (s.extract i (i+n)),.int .i64 0,.int .i64 line] 130))):=(Below.refl _ _).alloc (Nat.le_refl _) _
            go_wp2_with (at_builtin;refine wpList_append_own _ rfl _ _ 112 rfl w.heap.size 130 i0 _ 4 40 Tryz.underlying112 dl eu dA eg rfl (by decide) _ _ _ rfl (ah HO.out (HW.out.alloc HW.out.size _)) ⟨wr.heap.size+1,0,none⟩ 1 1 ([.int .u8 119,.string (s.extract i (i+n)),.int .i64 0,.int .i64 line]) rfl rfl ?c1 ?c2 ?c3 ?c4 ?c5 ?_)
            case c1=>exact aF _ _ (by simp) [_,_,_,_] _
            case c2=>intro u hu;simp at hu;rcases hu with rfl|rfl|rfl|rfl<;>rfl
            case c3=>unfold maxLen;omega
            case c4=>omega
            case c5=>have h1:=HB.out.size;have h2:=HW.out.size;simp at h2|-;omega
            intro v' w2 bE ax _;have aT:Below w.heap.size w w2:=bQ (HB.out.trans ((HW.out.alloc HW.out.size _).mono HB.out.size)) (ah HO.out (HW.out.alloc HW.out.size _)) ax (Nat.le_trans HB.out.size (HW.out.alloc HW.out.size _).size);have HG:Hid (Below w.heap.size w w2/\w2.ownsRow w.heap.size 130 4 v' (acc.length+1) (nN acc++([.int .u8 119,.string (s.extract i (i+n)),.int .i64 0,.int .i64 line]))):=⟨aT,bE⟩;clear aT bE ax;go_wp2
            go_roundw
            case rel=>exact⟨i+(n),line,f,acc++[⟨119,s.extract i (i+n),0,line⟩],by go_num,by go_num,by omega,by omega,by omega,(Hx.js f s i line n _ acc hlt FQ.out (by rintro(h|h);exact JO.out h;exact H9.out h) J1.out (Hx.rX s i n line ⟨hlt,Kl.out,l1,l2⟩ HD.out HN.out n8 HWD.out)).symm.trans HX.out,by rw[iI,List.length_append];exact HG.out.2,by simp;omega,HG.out.1⟩
            case measure=>simp[intOf];omega
         ·have qf:=hl
          rcases(show(s[i].toNat:Int)<97\/122<(s[i].toNat:Int) by omega)with hq|hq
          ·generalize rk:Hx.bg (s.data.toList.drop i)=n
           have HS:Hid (_=_):=rk;clear rk;go_wp2_with fail;refine(za s i _ hs hlt).mono ?_;rintro e w1 ⟨rfl,rfl⟩;rw[HS.out];have MW:n<=2/\i+n<=s.size:=by rw[<-HS.out];exact Hx.qT s i hlt
           by_cases n0:n=0
           ·obtain rfl:=n0
            have HF:=ae ((Hx.kH f s i line acc hlt FQ.out (by rintro(h|h);exact JO.out h;exact H9.out h) J1.out (Hx.kO s i line ⟨hlt,Kl.out,qf⟩ HD.out HS.out)).symm.trans HX.out);go_wp2
            go_ret2
            exact⟨by rw[<-HF.out];rfl,(HB.out.alloc HB.out.size _)⟩
           ·have cn0:((n:Int)==0)=false:=by rw[beq_eq_false_iff_ne];omega
            have HW:Hid (Below wr.heap.size wr (wr.alloc (.cells #[.int .u8 115,.string (s.extract i (i+n)),.int .i64 0,.int .i64 line] 130))):=(Below.refl _ _).alloc (Nat.le_refl _) _;go_wp2_with (at_builtin;refine wpList_append_own _ rfl _ _ 112 rfl w.heap.size 130 i0 _ 4 40 Tryz.underlying112 dl eu dA eg rfl (by decide) _ _ _ rfl (ah HO.out (HW.out.alloc HW.out.size _)) ⟨wr.heap.size+1,0,none⟩ 1 1 ([.int .u8 115,.string (s.extract i (i+n)),.int .i64 0,.int .i64 line]) rfl rfl ?c1 ?c2 ?c3 ?c4 ?c5 ?_)
            case c1=>exact aF _ _ (by simp) [_,_,_,_] _
            case c2=>intro u hu;simp at hu;rcases hu with rfl|rfl|rfl|rfl<;>rfl
            case c3=>unfold maxLen;omega
            case c4=>omega
            case c5=>have h1:=HB.out.size;have h2:=HW.out.size;simp at h2|-;omega
            intro v' w2 bE ax _;have aT:Below w.heap.size w w2:=bQ (HB.out.trans ((HW.out.alloc HW.out.size _).mono HB.out.size)) (ah HO.out (HW.out.alloc HW.out.size _)) ax (Nat.le_trans HB.out.size (HW.out.alloc HW.out.size _).size);have HG:Hid (Below w.heap.size w w2/\w2.ownsRow w.heap.size 130 4 v' (acc.length+1) (nN acc++([.int .u8 115,.string (s.extract i (i+n)),.int .i64 0,.int .i64 line]))):=⟨aT,bE⟩;clear aT bE ax;go_wp2
            go_roundw
            case rel=>exact⟨i+(n),line,f,acc++[⟨115,s.extract i (i+n),0,line⟩],by go_num,by go_num,by omega,by omega,by omega,(Hx.js f s i line n _ acc hlt FQ.out (by rintro(h|h);exact JO.out h;exact H9.out h) J1.out (Hx.tZ s i n line ⟨hlt,Kl.out,qf⟩ HD.out HS.out n0)).symm.trans HX.out,by rw[iI,List.length_append];exact HG.out.2,by simp;omega,HG.out.1⟩
            case measure=>simp[intOf];omega
          ·generalize rk:Hx.bg (s.data.toList.drop i)=n
           have HS:Hid (_=_):=rk;clear rk;go_wp2_with fail;refine(za s i _ hs hlt).mono ?_;rintro e w1 ⟨rfl,rfl⟩;rw[HS.out];have MW:n<=2/\i+n<=s.size:=by rw[<-HS.out];exact Hx.qT s i hlt
           by_cases n0:n=0
           ·obtain rfl:=n0
            have HF:=ae ((Hx.kH f s i line acc hlt FQ.out (by rintro(h|h);exact JO.out h;exact H9.out h) J1.out (Hx.kO s i line ⟨hlt,Kl.out,qf⟩ HD.out HS.out)).symm.trans HX.out);go_wp2
            go_ret2
            exact⟨by rw[<-HF.out];rfl,(HB.out.alloc HB.out.size _)⟩
           ·have cn0:((n:Int)==0)=false:=by rw[beq_eq_false_iff_ne];omega
            have HW:Hid (Below wr.heap.size wr (wr.alloc (.cells #[.int .u8 115,.string (s.extract i (i+n)),.int .i64 0,.int .i64 line] 130))):=(Below.refl _ _).alloc (Nat.le_refl _) _;go_wp2_with (at_builtin;refine wpList_append_own _ rfl _ _ 112 rfl w.heap.size 130 i0 _ 4 40 Tryz.underlying112 dl eu dA eg rfl (by decide) _ _ _ rfl (ah HO.out (HW.out.alloc HW.out.size _)) ⟨wr.heap.size+1,0,none⟩ 1 1 ([.int .u8 115,.string (s.extract i (i+n)),.int .i64 0,.int .i64 line]) rfl rfl ?c1 ?c2 ?c3 ?c4 ?c5 ?_)
            case c1=>exact aF _ _ (by simp) [_,_,_,_] _
            case c2=>intro u hu;simp at hu;rcases hu with rfl|rfl|rfl|rfl<;>rfl
            case c3=>unfold maxLen;omega
            case c4=>omega
            case c5=>have h1:=HB.out.size;have h2:=HW.out.size;simp at h2|-;omega
            intro v' w2 bE ax _;have aT:Below w.heap.size w w2:=bQ (HB.out.trans ((HW.out.alloc HW.out.size _).mono HB.out.size)) (ah HO.out (HW.out.alloc HW.out.size _)) ax (Nat.le_trans HB.out.size (HW.out.alloc HW.out.size _).size);have HG:Hid (Below w.heap.size w w2/\w2.ownsRow w.heap.size 130 4 v' (acc.length+1) (nN acc++([.int .u8 115,.string (s.extract i (i+n)),.int .i64 0,.int .i64 line]))):=⟨aT,bE⟩;clear aT bE ax;go_wp2
            go_roundw
            case rel=>exact⟨i+(n),line,f,acc++[⟨115,s.extract i (i+n),0,line⟩],by go_num,by go_num,by omega,by omega,by omega,(Hx.js f s i line n _ acc hlt FQ.out (by rintro(h|h);exact JO.out h;exact H9.out h) J1.out (Hx.tZ s i n line ⟨hlt,Kl.out,qf⟩ HD.out HS.out n0)).symm.trans HX.out,by rw[iI,List.length_append];exact HG.out.2,by simp;omega,HG.out.1⟩
            case measure=>simp[intOf];omega
  ·have H:=(Hx.R7 f s i line acc (by omega)).symm.trans HX.out
   have HE:Hid (_=_):=H;clear H;go_wp2_with (at_builtin;refine wpList_append_own _ rfl _ _ 112 rfl w.heap.size 130 i0 _ 4 40 Tryz.underlying112 dl eu dA eg rfl (by decide) _ _ _ rfl (HO.out.alloc _) ⟨wr.heap.size,0,none⟩ 1 1 [.int .u8 101,.string ⟨#[]⟩,.int .i64 0,.int .i64 line] rfl rfl ?c1 ?c2 ?c3 ?c4 ?c5 ?_)
   case c1=>exact aF _ _ (by simp) [_,_,_,_] _
   case c2=>intro u hu;simp at hu;rcases hu with rfl|rfl|rfl|rfl<;>rfl
   case c3=>unfold maxLen;omega
   case c4=>omega
   case c5=>have h1:=HB.out.size;simp;omega
   intro v' w2 bE ax _;have aT:Below w.heap.size w w2:=bQ (HB.out.alloc HB.out.size _) (HO.out.alloc _) ax (Nat.le_trans HB.out.size (by simp));have HG:Hid (Below w.heap.size w w2/\w2.ownsRow w.heap.size 130 4 v' (acc.length+1) (nN acc++[.int .u8 101,.string ⟨#[]⟩,.int .i64 0,.int .i64 line])):=⟨aT,bE⟩;clear aT bE ax;go_wp2
   go_ret2
   exact⟨by rw[<-HE.out];exact⟨v',rfl,by rw[iI,List.length_append];exact HG.out.2⟩,HG.out.1⟩
