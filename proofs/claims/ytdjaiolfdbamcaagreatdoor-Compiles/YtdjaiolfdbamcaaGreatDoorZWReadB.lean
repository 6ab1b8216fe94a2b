/- Walks of helmref's fits and Form: each call returns what a plain function says. -/
import Derived.Test.YtdjaiolfdbamcaaGreatDoorZWSenM
import Derived.Test.YtdjaiolfdbamcaaGreatDoorZWSenW
import Derived.Test.YtdjaiolfdbamcaaGreatDoorZWLink
import Derived.Test.YtdjaiolfdbamcaaGreatDoorZWTok
import Derived.Test.YtdjaiolfdbamcaaGreatDoorZWRead1
set_option maxRecDepth 20000
set_option maxHeartbeats 8000000
namespace Go.Proofs.YtdjaiolfdbamcaaGreatDoor
variable {t:Hx.Tok}
section
open Go.RowKit
theorem VG:((t.k:Int)==110)=Hx.fh Hx.cB t:=by
 show _=(t.k==110);grind
theorem acb:((t.k:Int)==105)=Hx.fh Hx.eP t:=by
 show _=(t.k==105);grind
theorem ag2(hb:32∉t.s.data.toList):(((t.k:Int)==115)&&Hx.fB t.s.data.toList (⟨#[32,60,32,60,61,32,61,61,32,33,61,32,62,61,32,62,32]⟩:ByteArray).data.toList)=Hx.fh Hx.wF t:=by
 rw[Hx.Ov _ hb];show _=(t.k==115&&Hx.rT.contains t.s.data.toList)
 grind
theorem VH{y:List UInt8}(h1:y≠Hx.cB)(h2:y≠Hx.eP)(h3:y≠Hx.wF):((((t.k:Int)==119)||((t.k:Int)==115))&&(t.s.toList==y))=Hx.fh y t:=by
 rw[Hx.fh,if_neg h1,if_neg h2,if_neg h3,Lib.toList_data]
 grind
theorem VI(y:List UInt8)(hy:y∈Hx.t8)(t:Hx.Tok)(ht:Hx.lD t)(w:World):
  Calls Tryz.prog 139 #[eD y,ii t] w λe w'=>e=.returned (.bool (Hx.fh y t))/\Below w.heap.size w w':=by
 have hsz:=ht.size;have eS:=ae ht.blank;clear ht
 by_cases hop:y=Hx.wF
 ·subst hop
  have HF:=ae (ag2 eS.out);unfold eD ii
  by_cases hk:((t.k:Int)==115)=true
  ·go_enter Tryz.func139,Tryz.ntmps139
   go_wp2_with fail;refine(jz _ _ _ (by omega) (by decide)).mono ?_;rintro e w' ⟨rfl,rfl⟩;go_wp2;go_ret;exact⟨bC (by rw[<-HF.out,hk];simp),(Below.refl _ _).alloc (Nat.le_refl _) _⟩
  ·have vY:((t.k:Int)==115)=false:=by simpa using hk
   clear hk;go_enter Tryz.func139,Tryz.ntmps139;go_wp2;go_ret;exact⟨bC (by rw[<-HF.out,vY];simp),(Below.refl _ _).alloc (Nat.le_refl _) _⟩
 ·by_cases hn:y=Hx.cB
  ·subst hn
   unfold eD ii;go_enter Tryz.func139,Tryz.ntmps139;go_wp2;go_ret;exact⟨bC VG,(Below.refl _ _).alloc (Nat.le_refl _) _⟩
  ·by_cases hi:y=Hx.eP
   ·subst hi
    unfold eD ii;go_enter Tryz.func139,Tryz.ntmps139;go_wp2;go_ret;exact⟨bC acb,(Below.refl _ _).alloc (Nat.le_refl _) _⟩
   ·have HF:=ae (VH (t:=t) hn hi hop)
    have e1:(y==Hx.cB)=false:=by simpa using hn
    have e2:(y==Hx.eP)=false:=by simpa using hi
    have e3:(y==Hx.wF)=false:=by simpa using hop
    clear hn hi hop hy;unfold eD ii
    by_cases h9:((t.k:Int)==119)=true
    ·go_enter Tryz.func139,Tryz.ntmps139
     go_wp2;go_ret;exact⟨bC (by rw[<-HF.out,h9];simp),(Below.refl _ _).alloc (Nat.le_refl _) _⟩
    ·have h9':((t.k:Int)==119)=false:=by simpa using h9
     clear h9
     by_cases h5:((t.k:Int)==115)=true
     ·go_enter Tryz.func139,Tryz.ntmps139
      go_wp2;go_ret;exact⟨bC (by rw[<-HF.out,h9',h5];simp),(Below.refl _ _).alloc (Nat.le_refl _) _⟩
     ·have h5':((t.k:Int)==115)=false:=by simpa using h5
      clear h5;go_enter Tryz.func139,Tryz.ntmps139;go_wp2;go_ret;exact⟨bC (by rw[<-HF.out,h9',h5'];simp),(Below.refl _ _).alloc (Nat.le_refl _) _⟩
theorem Tryz.infoStr:(Tryz.prog.info? 9).map (λi=>(i.zero,i.size,i.bytes))=some (some (.string ⟨#[]⟩),1,16):=by kernel_rfl
def acd(m rest:List (List UInt8))(w:World)(B7:Nat)(v7 v3 v9:Value)(wq:World):Prop:=
 ∃j:Nat,j<=m.length/\v9=.int .i64 ((j:Int)-1)/\wq.ownsRow w.heap.size 9 1 v3 (m.drop j++rest).length ((m.drop j++rest).reverse.map eD)/\
  Below w.heap.size w wq/\wq.ownsRow B7 9 1 v7 m.length (m.map eD)/\(v7.ownBlock=none\/v3.ownBlock≠v7.ownBlock)
theorem VJ(m rest:List (List UInt8))(j:Nat)(h:j<m.length):(m.drop j++rest).length=(m.drop (j+1)++rest).length+1:=by grind
theorem VK(m rest:List (List UInt8))(j:Nat)(h:j<m.length):(m.drop j++rest).reverse.map eD=(m.drop (j+1)++rest).reverse.map eD++[eD m[j]]:=by
 rw[List.drop_eq_getElem_cons h,List.cons_append,List.reverse_cons,List.map_append];rfl
def ace(ts:List Hx.Tok)(w:World)(R n0 k:Nat)(v3 v4:Value)(wr:World):Prop:=
 ∃(want:List (List UInt8))(i:Nat),v4=.int .i64 i/\i<=ts.length/\Hx.dX k want (ts.drop i)=some R/\k<=n0/\want.length<=1+7*(n0-k)/\
  (∀y∈want,y∈Hx.symbols)/\wr.ownsRow w.heap.size 9 1 v3 want.length (want.reverse.map eD)/\Below w.heap.size w wr
theorem JG(ts:List Hx.Tok)(R n0 base:Nat)(v:Value)(w:World)(cR:∀t∈ts,Hx.lD t)(hlen:ts.length<=3001)(h0:0<ts.length)
  (hrun:Hx.dX n0 [Hx.b9] ts=some R) (Ex:n0<=1000000) (aJ:w.ownsRow base 130 4 v ts.length (nN ts)):
  Calls Tryz.prog 92 #[v] w λe w'=>e=.returned (.int .i64 R)/\Below w.heap.size w w':=by
 obtain⟨i0,dl,eu,dA,eg⟩:=info_parts Tryz.infoStr;obtain⟨g,cap,rfl,_,hg,II,hcm,hcell⟩:=Dy aJ h0;have HC:=ae hcell;have HR:=ae hrun;have HK:=ae cR;clear hcell hrun cR aJ;go_enter Tryz.func92,Tryz.ntmps92;go_wp2
 go_loopg [3,4] n0 (λk v3 v4 wr=>ace ts w R n0 k v3 v4 wr)
 case atStart=>exact⟨[Hx.b9],0,rfl,by omega,HR.out,Nat.le_refl _,by simp,by decide,rR _ _ _ (Nat.le_refl _) rfl [eD Hx.b9] _ _ _ rfl (by omega),(Below.refl _ _).alloc (Nat.le_refl _) _⟩
 case round=>
  obtain⟨want,i,rfl,hi,hrun,jf,FW,al0,aJ,hb⟩:=hrel;obtain⟨k,rfl⟩:∃k,gk=k+1:=by
   cases gk with
   |zero=>simp[Hx.dX]at hrun
   |succ k=>simp
  have hlt:i<ts.length:=by
   by_cases h:i<ts.length
   ·exact h
   ·rw[List.drop_of_length_le (by omega)]at hrun
    cases want<;>simp[Hx.dX]at hrun
  obtain⟨c0,c1,c2,c3⟩:=HC.out i hlt;have d0:=cell_later (hb.mono (Nat.le_refl _)) c0;have d1:=cell_later (hb.mono (Nat.le_refl _)) c1;have d2:=cell_later (hb.mono (Nat.le_refl _)) c2;have d3:=cell_later (hb.mono (Nat.le_refl _)) c3;clear c0 c1 c2 c3;have d9:=List.drop_eq_getElem_cons hlt;have cR:=HK.out ts[i] (List.getElem_mem hlt);have HRn:=ae hrun;have HD:=ae d9;have pf:=ae cR;have HS:=ae al0;have HB:=ae hb;have fL:=cR.kind;clear hrun d9 cR al0 hb;generalize htt:ts[i]=t at*;have HT:=ae htt;clear htt
  cases want with
  |nil=>
   have HO:=ae aJ;clear aJ;have HE:=ae (HD.out▸HRn.out)
   by_cases hk:((t.k:Int) !=101)=true
   ·rcases HO.out.2 with⟨rfl,_⟩|⟨g3,acf,cur,rfl,_⟩
    ·go_wp2
     go_ret;exact⟨di (Hx.GY HE.out hk),HB.out⟩
    ·go_wp2
     go_ret;exact⟨di (Hx.GY HE.out hk),HB.out⟩
   ·have vY:((t.k:Int) !=101)=false:=by simpa using hk
    clear hk;rcases HO.out.2 with⟨rfl,_⟩|⟨g3,acf,cur,rfl,_⟩
    ·go_wp2
     go_ret;exact⟨di (Hx.M5 HE.out vY),HB.out⟩
    ·go_wp2
     go_ret;exact⟨di (Hx.M5 HE.out vY),HB.out⟩
  |cons y rest=>
   have HE:Hid (Hx.dX (k+1) (y::rest) (t::ts.drop (i+1))=some R):=HD.out▸HRn.out
   obtain⟨g3,acf,rfl,az7,O9,hn3,az9,lA⟩:=aR aJ (by simp);have IG:=lA rest.length (by simp);have e3:((y::rest).reverse.map eD)[rest.length]?=some (.string ⟨y.toArray⟩):=by
    rw[List.reverse_cons,List.map_append,List.getElem?_append_right (by simp)];simp[eD]
   rw[e3]at IG;simp only [List.length_cons]at aJ hn3 FW|-;have al1:wr.ownsRow w.heap.size 9 1 (.slice (some ⟨g3,0,none⟩) rest.length acf) rest.length (rest.reverse.map eD):=by
    refine ownsRow_pop (last:=[eD y]) (by simp) ?_;simpa using aJ
   have HP:=ae al1;have hy:=HS.out y (by simp);clear aJ lA e3 al1;go_wp2_with fail;refine(abr y hy t _).mono ?_;rintro e w1 ⟨bH,El⟩;have Lw:=HB.out.trans (bH.mono HB.out.size);have lc:=ae (ah HP.out bH);have d0':=cell_later bH d0;have d1':=cell_later bH d1;have d2':=cell_later bH d2;have d3':=cell_later bH d3;have b6:=ae Lw;have Jg:=bH.size;have Jh:=HB.out.size;clear bH Lw d0 d1 d2 d3 HP IG
   cases JH:Hx.aA y t with
   |none=>
    rw[JH]at El;have tV:=ae JH;have htm:=Hx.GX y t hy JH;simp only at El;subst El;clear JH;go_wp2_with fail;refine(VI y htm t pf.out _).mono ?_;rintro e w2 ⟨rfl,aT⟩;have fQ:=ae (ah lc.out aT);have dH:=ae (b6.out.trans (aT.mono b6.out.size));have aAd:=cell_later aT d3';clear aT d3' d0' d1' d2' lc
    cases acg:Hx.fh y t with
    |false=>
     have HF:=ae (Hx.Ow HE.out tV.out acg);clear acg;go_wp2;go_ret;exact⟨di HF.out,dH.out⟩
    |true=>
     have HF:=ae (Hx.rY HE.out tV.out acg);clear acg;go_wp2
     go_roundg k
     case measure=>omega
     case rel=>exact⟨rest,i+1,by go_num,by omega,HF.out,by omega,by omega,λz hz=>HS.out z (List.mem_cons_of_mem _ hz),fQ.out,dH.out⟩
   |some m=>
    rw[JH]at El;obtain⟨aet,iq⟩:=Hx.KP y t m hy JH;have HF:=ae (Hx.oE HE.out JH);simp only at El;obtain⟨v7,rfl,Dm⟩:=El;have HM:=ae aet;clear JH aet;obtain⟨B7,hB7⟩:∃b,b=wr.heap.size:=⟨_,rfl⟩;have H7:Hid (w1.ownsRow B7 9 1 v7 m.length (m.map eD)):=by rw[hB7];exact Dm
    have aAe:g3<B7:=by omega
    clear Dm hB7;have al2:∃a7 c7,v7=.slice a7 m.length c7:=by
     rcases H7.out.2 with⟨rfl,h0⟩|⟨g7,arZ,_,rfl,_⟩
     ·exact⟨none,0,by rw[h0]⟩
     ·simp
    obtain⟨a7,c7,rfl⟩:=al2;have hne:(Value.slice a7 m.length c7).ownBlock=none\/(Value.slice (some ⟨g3,0,none⟩) rest.length acf).ownBlock≠(Value.slice a7 m.length c7).ownBlock:=by
     cases a7 with
     |none=>left;rfl
     |some a=>
      right;have:=(H7.out.lt a.block rfl).1;simp[Value.ownBlock];omega
    have HNE:=ae hne;clear hne;go_wp2_with fail
    go_loopw [3,9] (λv3 v9 wq=>acd m rest w B7 (.slice a7 m.length c7) v3 v9 wq) (λ_ v9 _=>(intOf v9+1).toNat)
    case atStart=>exact⟨m.length,Nat.le_refl _,rfl,by simpa using lc.out,b6.out,H7.out,HNE.out⟩
    case round=>
     obtain⟨j,hj,rfl,ho3,Uq,ho7,hn7⟩:=hrel;have mH:=ae ho3;have NK:=ae Uq;have HO7:=ae ho7;have HN7:=ae hn7;clear ho3 Uq ho7 hn7
     cases j with
     |zero=>
      go_wp2
      go_roundg k
      case measure=>omega
      case rel=>exact⟨m++rest,i,rfl,by omega,by rw[HD.out];exact HF.out,by omega,by simp;omega,λz hz=>(List.mem_append.1 hz).elim (HM.out z) (λh=>HS.out z (List.mem_cons_of_mem _ h)),by simpa using mH.out,NK.out⟩
     |succ j=>
      obtain⟨g7,arZ,he7,hb7,hg7,aAg,aAh,OA⟩:=aR HO7.out (by omega)
      cases he7
      have hel:=OA j (by omega);rw[List.getElem?_map,List.getElem?_eq_getElem (by omega)]at hel;simp only [Option.map_some,eD]at hel;clear OA;rw[show(((j+1:Nat))-1)=(j:Int) by omega];go_wp2_with (at_builtin;refine wpList_append_own_at _ rfl _ _ 61 rfl w.heap.size 9 i0 _ 1 16 Tryz.underlying61 dl eu dA eg rfl (by decide) _ _ _ rfl (mH.out.alloc _) ⟨_,0,none⟩ 1 1 [.string ⟨m[j].toArray⟩] rfl rfl ?c1 ?c2 ?c3 ?c4 ?c5 ?_)
      case c1=>exact aF _ _ (by simp) [_] _
      case c2=>intro u hu;simp at hu;subst hu;rfl
      case c3=>unfold maxLen;simp;omega
      case c4=>simp;omega
      case c5=>have:=NK.out.size;simp;omega
      intro v' w2 bE ax _ bu;have aT:=bQ (NK.out.alloc NK.out.size _) (mH.out.alloc _) ax (Nat.le_trans NK.out.size (by simp));have ho7:=(HO7.out.alloc _).kept ax (HN7.out.imp_right Ne.symm);have hn7:(Value.slice (some ⟨g7,0,none⟩) m.length c7).ownBlock=none\/v'.ownBlock≠(Value.slice (some ⟨g7,0,none⟩) m.length c7).ownBlock:=by
       right;rcases bu with bu|bu
       ·rw[bu];exact HN7.out.resolve_left (by simp[Value.ownBlock])
       ·rw[bu];simp[Value.ownBlock];omega
      have HG:Hid (Below w.heap.size w w2/\w2.ownsRow w.heap.size 9 1 v' ((m.drop (j+1)++rest).length+1) ((m.drop (j+1)++rest).reverse.map eD++[eD m[j]])/\w2.ownsRow B7 9 1 (.slice (some ⟨g7,0,none⟩) m.length c7) m.length (m.map eD)/\((Value.slice (some ⟨g7,0,none⟩) m.length c7).ownBlock=none\/v'.ownBlock≠(Value.slice (some ⟨g7,0,none⟩) m.length c7).ownBlock)):=⟨aT,by simpa[eD]using bE,ho7,hn7⟩;clear aT bE ax ho7 hn7 bu;go_wp2
      go_roundw
      case rel=>exact⟨j,by omega,by go_num,by rw[VJ m rest j (by omega),VK m rest j (by omega)];exact HG.out.2.1,HG.out.1,HG.out.2.2.1,HG.out.2.2.2⟩
      case measure=>simp[intOf]
theorem Qy(w:World)(base bx:Nat)(gt bP:Nat)(ts:List Hx.Tok)(F:Nat->Prop)(h:db w base bx (.slice (some ⟨gt,0,none⟩) ts.length bP) gt ts Hx.St.zero F)(hm:br w gt ts)(hl:ts.length<=3001)(cR:∀t∈ts,Hx.lD t)
  (ip:gt<w.heap.size) (qp:¬F gt) (II:ts.length<=bP) (n:Nat) (S:Hx.St) (hg:Hx.dk n ts (-1) 0 false Hx.St.zero=some S):
  Calls Tryz.prog 93 #[.pointer (some ⟨bx,0,none⟩)] w λe w'=>e=.returned (.tuple #[])/\l5 w base bx (.slice (some ⟨gt,0,none⟩) ts.length bP) gt ts F w' S:=by
 have H0:Hid (JI ts w base bx (.slice (some ⟨gt,0,none⟩) ts.length bP) gt F S n (.int .i64 0) (.int .i64 (-1)) (.int .i64 0) (.bool false) w):=
  ⟨0,-1,0,false,Hx.St.zero,rfl,rfl,rfl,rfl,⟨by omega,by omega,by omega,hg,by simp[Hx.St.zero],by simp[Hx.St.zero],by simp[Hx.St.zero],by simp[Hx.St.zero],by simp[Hx.St.zero],h.mono (λ_ h=>.inl h),Kp.refl _ _,hm⟩⟩
 have pf:=ae cR;have nB:=ae qp;have b0:w.cell? ⟨bx,0,none⟩=some (.slice (some ⟨gt,0,none⟩) ts.length bP):=by obtain⟨g,h,_⟩:=h;exact h.cellAt.1
 clear h hm cR qp hg;go_enter Tryz.func93,Tryz.ntmps93;go_wp2;clear b0
 go_loopg [3,4,5,6] n (JI ts w base bx (.slice (some ⟨gt,0,none⟩) ts.length bP) gt F S)
 case atStart=>exact H0.out
 case round=>
  rename_i J K hJ hK;have hJ2:SJ bx gt ts.length bP (JI ts w base bx (.slice (some ⟨gt,0,none⟩) ts.length bP) gt F S) J:=by
   intro k;intros;rename_i h;apply hJ
   (repeat apply Exists.intro)
   exact⟨h,rfl⟩
  clear hJ H0;obtain⟨i,inn,deep,dear,s,rfl,rfl,rfl,rfl,hI⟩:=hrel;obtain⟨f,rfl⟩:∃f,gk=f+1:=by
   cases gk with
   |zero=>have:=hI.run;simp[Hx.dk]at this
   |succ k=>exact⟨k,rfl⟩
  have hlt:i<ts.length:=by
   by_cases h:i<ts.length
   ·exact h
   ·have:=hI.run
    rw[List.drop_of_length_le (by omega)]at this;simp[Hx.dk]at this
  by_cases k1:ts[i].k=101
  ·obtain⟨il,d1,d2,hrun,nv,nm,na,nr,nx,hT,hk,hm⟩:=hI
   have d9:ts.drop i=ts[i]::ts.drop (i+1):=List.drop_eq_getElem_cons hlt;rw[d9]at hrun;obtain⟨c0,c1,c2,c3⟩:=hm i hlt;generalize ts[i]=t at*;have a1:((t.k:Int) !=101)=false:=by simp;omega
   have HE:=ae (Hx.Ez hrun k1);have HT:=ae hT;have HK:=ae hk;clear k1 hrun hT hk hm nx d9 hJ2;go_wp2;go_end0;exact⟨rfl,by rw[<-HE.out];exact HT.out,HK.out⟩
  ·cases e1:(ts[i].s.toList==Hx.eE)with
   |true=>exact Qz w base bx gt bP ts F hl pf.out ip nB.out S f i inn deep dear s wr hI hlt k1 e1 _ J K hJ2 hK
   |false=>
    cases e2:(ts[i].s.toList==Hx.aO)with
    |true=>exact Ab w base bx gt bP ts F hl pf.out ip nB.out S f i inn deep dear s wr hI hlt k1 e1 e2 _ J K hJ2 hK
    |false=>
     cases e3:(ts[i].s.toList==Hx.cS)with
     |true=>exact MC w base bx gt bP ts F hl pf.out ip nB.out S f i inn deep dear s wr hI hlt k1 e1 e2 e3 _ J K hJ2 hK
     |false=>
      cases e4:(ts[i].s.toList==Hx.dB)with
      |true=>exact ME w base bx gt bP ts F hl pf.out ip nB.out II S f i inn deep dear s wr hI hlt k1 e1 e2 e3 e4 _ J K hJ2 hK
      |false=>exact MF w base bx gt bP ts F hl pf.out ip nB.out S f i inn deep dear s wr hI hlt k1 e1 e2 e3 e4 _ J K hJ2 hK
theorem db.start(w:World)(vt:Value)(gt:Nat)(ts:List Hx.Tok):db (w.alloc (.cells #[vt,.slice none 0 0,.slice none 0 0,.slice none 0 0,.int .i64 0,.int .i64 0,.int .i64 0] 117)) w.heap.size w.heap.size vt gt ts Hx.St.zero (λk=>k=w.heap.size):=by
 have h1:=(dr.nil w w.heap.size).push (Nat.le_refl _) 117 w.heap.size [vt,.slice none 0 0,.slice none 0 0,.slice none 0 0,.int .i64 0,.int .i64 0,.int .i64 0] rfl;have h2:=((h1.oB 189 3).oB 111 5).oB 112 1;refine⟨⟨.slice none 0 0,.slice none 0 0,.slice none 0 0,[],[]⟩,⟨h2,rfl,rfl,by simp,by simp,by simp⟩,λk hk=>?_⟩;obtain⟨i,r,hr,e⟩:=hk
 match i,hr with
 |0,hr=>cases hr;cases e;rfl
 |1,hr=>cases hr;cases e
 |2,hr=>cases hr;cases e
 |3,hr=>cases hr;cases e
 |i+4,hr=>simp[bL]at hr
theorem db.kept{w w':World}{base bx:Nat}{vt:Value}{gt:Nat}{ts:List Hx.Tok}{s:Hx.St}{F G:Nat->Prop}(h:db w base bx vt gt ts s F)(hk:Kp G w w')(hG:∀k,base<=k->¬G k):db w' base bx vt gt ts s F:=by
 obtain⟨g,h1,h2⟩:=h;exact⟨g,⟨h1.mem.kept hk (λk ⟨i,r,hr,he⟩=>hG k (h1.mem.lt hr he).1),h1.af,h1.atoms,h1.slices,h1.guards,Nat.le_trans h1.low hk.size⟩,h2⟩
def ag3(w:World)(ts:List Hx.Tok)(S:Hx.St)(e:Ending)(w':World):Prop:=
 Below w.heap.size w w'/\(((fi S).code≠0/\e=.returned (.tuple #[.pointer none,.agg (ay (fi S).code (fi S).line)]))\/
  ((fi S).code=0/\∃bx gt cap base:Nat,e=.returned (.tuple #[.pointer (some ⟨bx,0,none⟩),.agg (ay 0 0)])/\w.heap.size<=base/\w.heap.size<=gt/\br w' gt ts/\∃F,db w' base bx (.slice (some ⟨gt,0,none⟩) ts.length cap) gt ts (fi S) F))
theorem Em(s:ByteArray)(w:World)(hs:s.size<=3000)(ts:List Hx.Tok)(kg:Hx.lex s.data.toList=.inr ts)(hrun:Hx.F5 [Hx.b9] ts 0)(n:Nat)(S:Hx.St)(qo:Hx.dk n ts (-1) 0 false Hx.St.zero=some S):
  Calls Tryz.prog 60 #[.string s] w λe w'=>ag3 w ts S e w':=by
 obtain⟨Fh,zI,h0,kM,_⟩:=Hx.yc s.data.toList (by simp;omega) ts kg;obtain⟨n0,Ex,JJ⟩:=hrun.bounded Fh.oM;obtain⟨iq,hmr⟩:=Hx.KU n _ _ _ _ _ _ qo 0 (by simp[Hx.St.zero]) (by simp[Hx.St.zero]);have wA:=Fh.oM;have ab9:=ae qo;have ach:=ae zI;have JF:=ae JJ;have HMR:=ae hmr;have gf:Below w.heap.size w (w.alloc (.cells (ay 0 0) 34)):=(Below.refl _ _).alloc (Nat.le_refl _) _;have ov:(w.alloc (.cells (ay 0 0) 34)).heap[w.heap.size]?=some (.cells (ay 0 0) 34 (0,0)):=heap_alloc_new w _;have dA:(w.alloc (.cells (ay 0 0) 34)).heap.size=w.heap.size+1:=by simp
 have qO:=rB s (w.alloc (.cells (ay 0 0) 34)) hs;rw[kg,dA]at qO;have qO:=ae qO;have mX:¬(3000:Int)<s.size:=by omega
 have b6:=ae gf;have og:=ae ov;have vR:=ae dA;clear Fh zI kM hrun qo JJ hmr kg gf ov dA;rw[show(ay 0 0)=#[.int .i64 0,.int .i64 0,.string ⟨#[]⟩,.slice none 0 0,.slice none 0 0]from rfl]at qO b6 og vR;go_enter Tryz.func60,Tryz.ntmps60;go_wp2_with fail;generalize w.alloc (.cells #[.int .i64 0,.int .i64 0,.string ⟨#[]⟩,.slice none 0 0,.slice none 0 0] 34)=W1 at*;refine qO.out.mono ?_;rintro e w2 ⟨⟨v,rfl,aJ⟩,aT⟩;have jT:=aT.size;rw[vR.out]at jT;have mY:=(aT.block w.heap.size (by omega)).trans og.out;have kc:=b6.out.trans (aT.mono (by omega));have mR:=ae mY;have dH:=ae kc;have VL:=ae aJ;clear aT mY kc aJ qO;go_wp2_with fail;refine(JG ts 0 n0 _ v w2 ach.out wA h0 JF.out Ex VL.out).mono ?_;rintro e w3 ⟨rfl,eC⟩;have fZ:=ah VL.out eC;obtain⟨gt,cap,rfl,yh,O9,II,_,hm3⟩:=Dy fZ h0;have oS:=eC.size;have hR3:=(eC.block w.heap.size (by omega)).trans mR.out;have sJ:=dH.out.trans (eC.mono (by omega));have lS:Below w3.heap.size w3 (w3.alloc (.cells #[.slice (some ⟨gt,0,none⟩) ts.length cap,.slice none 0 0,.slice none 0 0,.slice none 0 0,.int .i64 0,.int .i64 0,.int .i64 0] 117)):=(Below.refl _ _).alloc (Nat.le_refl _) _;have hTB:=db.start w3 (.slice (some ⟨gt,0,none⟩) ts.length cap) gt ts;have hmA:br (w3.alloc (.cells #[.slice (some ⟨gt,0,none⟩) ts.length cap,.slice none 0 0,.slice none 0 0,.slice none 0 0,.int .i64 0,.int .i64 0,.int .i64 0] 117)) gt ts:=eM hm3 _ O9;have hzA:(w3.alloc (.cells #[.slice (some ⟨gt,0,none⟩) ts.length cap,.slice none 0 0,.slice none 0 0,.slice none 0 0,.int .i64 0,.int .i64 0,.int .i64 0] 117)).heap.size=w3.heap.size+1:=by simp
 have hRA:=(lS.block w.heap.size (by omega)).trans hR3;have mc:=sJ.trans (lS.mono (by omega));have HTB:=ae hTB;have HMA:=ae hmA;have HRA:=ae hRA;have fM:=ae mc;have HZA:=ae hzA;clear eC fZ hm3 hR3 sJ lS hTB hmA hzA hRA mc VL mR dH;go_wp2_with fail;generalize w3.alloc (.cells #[.slice (some ⟨gt,0,none⟩) ts.length cap,.slice none 0 0,.slice none 0 0,.slice none 0 0,.int .i64 0,.int .i64 0,.int .i64 0] 117)=X at*;refine(Qy X w3.heap.size w3.heap.size gt cap ts _ HTB.out HMA.out wA ach.out (by have:=HZA.out;omega) (by omega) II n S ab9.out).mono ?_;rintro e w4 ⟨rfl,Re,tL⟩;have PS:=ae Re;have pT:=ae tL;clear Re tL;go_wp2_with fail;refine(U6 w4 w3.heap.size w3.heap.size _ gt ts S _ PS.out (by omega) (λm hm=>by have:=HMR.out m hm;omega)).mono ?_;rintro e w5 ⟨rfl,hT5,lm⟩;have hk:=pT.out.trans lm (λk h=>h);have hsX:=HZA.out;have Zv:=hk.size;have hR5:=(hk.block w.heap.size (by omega) (by omega)).trans HRA.out;have wj:=fM.out.trans (hk.toBelow (λk e=>by omega) (by omega));have hm5:=HMA.out.kept hk (by omega) (by omega);have HT5:=ae hT5;obtain⟨g5,T5,_⟩:=hT5;obtain⟨x0,_,_,_,_,x5,x6⟩:=T5.cellAt;generalize hcc:(fi S).code=cc at*;generalize Kw:(fi S).line=ll at*;have HCC:=ae hcc;have HLL:=ae Kw;clear hcc Kw;obtain⟨y0,y1,y2,y3,y4,z0,z1,z2,z3,z4⟩:=f9 hR5;have vT:=ae wj;have HM5:=ae hm5;have HBD:Hid (Below w.heap.size w w5.drew):=ae ⟨wj.os,wj.tape,wj.output,wj.size,wj.block⟩;clear T5 lm hk hR5 wj hm5 x0
 by_cases FX:cc=0
 ·have hcb:((cc:Int) !=0)=false:=by simp;omega
  have HC0:=ae FX;clear FX;go_wp2_with fail;refine bodyPost_ret (v:=.tuple #[.pointer (some ⟨w3.heap.size,0,none⟩),.agg #[.int .i64 0,.int .i64 0,.string ⟨#[]⟩,.slice none 0 0,.slice none 0 0]]) (by simp[results,Tryz.results60,go_sem, *]) rfl ?_;have Kj:=kF (Kp.refl (λk=>k=w.heap.size) w5) (.inl rfl) (.int .i64 0) (.int .i64 0) (.string ⟨#[]⟩) (.slice none 0 0) (.slice none 0 0);exact⟨dh vT.out,.inr ⟨HCC.out.trans HC0.out,w3.heap.size,gt,cap,_,rfl,by omega,by omega,HM5.out.kept Kj (by omega) (by omega),_,HT5.out.kept Kj (λk hk e=>by omega)⟩⟩
 ·have hcb:((cc:Int) !=0)=true:=by simp;omega
  have HC0:=ae FX;clear FX;go_wp2_with fail
  go_region
  all_goals
   go_wp2_with fail;refine bodyPost_ret (v:=.tuple #[.pointer none,.agg #[.int .i64 cc,.int .i64 ll,.string ⟨#[]⟩,.slice none 0 0,.slice none 0 0]]) (by simp[results,Tryz.results60,go_sem, *]) rfl ?_;exact⟨dh HBD.out,.inl ⟨by rw[HCC.out];grind,by rw[HCC.out,HLL.out];rfl⟩⟩
theorem QA(s:ByteArray)(w:World)(h:3000<s.size)(hs:s.size<=maxLen):
  Calls Tryz.prog 60 #[.string s] w λe w'=>e=.returned (.tuple #[.pointer none,.agg (ay 1 0)])/\Below w.heap.size w w':=by
 unfold maxLen at hs;have mX:(3000:Int)<s.size:=by omega
 go_enter Tryz.func60,Tryz.ntmps60;go_wp2_with fail;refine bodyPost_ret (v:=.tuple #[.pointer none,.agg #[.int .i64 1,.int .i64 0,.string ⟨#[]⟩,.slice none 0 0,.slice none 0 0]]) (by simp[results,Tryz.results60,go_sem]) rfl ?_;exact⟨rfl,(Below.refl _ _).alloc (Nat.le_refl _) _⟩
theorem QB(s:ByteArray)(w:World)(hs:s.size<=3000)(line:Nat)(kg:Hx.lex s.data.toList=.inl line):
  Calls Tryz.prog 60 #[.string s] w λe w'=>e=.returned (.tuple #[.pointer none,.agg (ay 2 line)])/\Below w.heap.size w w':=by
 have nW:=Hx.O1 _ _ _ _ _ kg;have gf:Below w.heap.size w (w.alloc (.cells (ay 0 0) 34)):=(Below.refl _ _).alloc (Nat.le_refl _) _;have ov:(w.alloc (.cells (ay 0 0) 34)).heap[w.heap.size]?=some (.cells (ay 0 0) 34 (0,0)):=heap_alloc_new w _;have dA:(w.alloc (.cells (ay 0 0) 34)).heap.size=w.heap.size+1:=by simp
 have qO:=rB s (w.alloc (.cells (ay 0 0) 34)) hs;rw[kg,dA]at qO;have qO:=ae qO;have mX:¬(3000:Int)<s.size:=by omega
 have b6:=ae gf;have og:=ae ov;have vR:=ae dA;clear kg gf ov dA;rw[show(ay 0 0)=#[.int .i64 0,.int .i64 0,.string ⟨#[]⟩,.slice none 0 0,.slice none 0 0]from rfl]at qO b6 og vR;go_enter Tryz.func60,Tryz.ntmps60;go_wp2_with fail;generalize w.alloc (.cells #[.int .i64 0,.int .i64 0,.string ⟨#[]⟩,.slice none 0 0,.slice none 0 0] 34)=W1 at*;refine qO.out.mono ?_;rintro e w2 ⟨hp,aT⟩;have ER:e=.returned (.tuple #[.slice none 0 0,.int .i64 line]):=hp;subst ER;have jT:=aT.size;have hz:=vR.out;have mY:=(aT.block w.heap.size (by omega)).trans og.out;have kc:=b6.out.trans (aT.mono (by omega));obtain⟨y0,y1,y2,y3,y4,z0,z1,z2,z3,z4⟩:=f9 mY;have dH:=ae kc;have hb0:((line:Int)==0)=false:=by simp;omega
 have bH:(0:Int)<line:=by omega
 clear hp aT mY kc jT hz qO;go_wp2_with fail;refine bodyPost_ret (v:=.tuple #[.pointer none,.agg #[.int .i64 2,.int .i64 line,.string ⟨#[]⟩,.slice none 0 0,.slice none 0 0]]) (by simp[results,Tryz.results60,go_sem, *]) rfl ?_;exact⟨rfl,dh dH.out⟩
theorem MH(s:ByteArray)(w:World)(hs:s.size<=3000)(ts:List Hx.Tok)(kg:Hx.lex s.data.toList=.inr ts)(line:Nat)(hrun:Hx.F5 [Hx.b9] ts line)(nW:1<=line):
  Calls Tryz.prog 60 #[.string s] w λe w'=>e=.returned (.tuple #[.pointer none,.agg (ay 2 line)])/\Below w.heap.size w w':=by
 obtain⟨Fh,zI,h0,kM,_⟩:=Hx.yc s.data.toList (by simp;omega) ts kg;obtain⟨n0,Ex,JJ⟩:=hrun.bounded Fh.oM;have wA:=Fh.oM;have ach:=ae zI;have JF:=ae JJ;have gf:Below w.heap.size w (w.alloc (.cells (ay 0 0) 34)):=(Below.refl _ _).alloc (Nat.le_refl _) _;have ov:(w.alloc (.cells (ay 0 0) 34)).heap[w.heap.size]?=some (.cells (ay 0 0) 34 (0,0)):=heap_alloc_new w _;have dA:(w.alloc (.cells (ay 0 0) 34)).heap.size=w.heap.size+1:=by simp
 have qO:=rB s (w.alloc (.cells (ay 0 0) 34)) hs;rw[kg,dA]at qO;have qO:=ae qO;have mX:¬(3000:Int)<s.size:=by omega
 have b6:=ae gf;have og:=ae ov;have vR:=ae dA;clear Fh zI kM hrun JJ kg gf ov dA;rw[show(ay 0 0)=#[.int .i64 0,.int .i64 0,.string ⟨#[]⟩,.slice none 0 0,.slice none 0 0]from rfl]at qO b6 og vR;go_enter Tryz.func60,Tryz.ntmps60;go_wp2_with fail;generalize w.alloc (.cells #[.int .i64 0,.int .i64 0,.string ⟨#[]⟩,.slice none 0 0,.slice none 0 0] 34)=W1 at*;refine qO.out.mono ?_;rintro e w2 ⟨⟨v,rfl,aJ⟩,aT⟩;have jT:=aT.size;rw[vR.out]at jT;have mY:=(aT.block w.heap.size (by omega)).trans og.out;have kc:=b6.out.trans (aT.mono (by omega));have mR:=ae mY;have dH:=ae kc;have VL:=ae aJ;clear aT mY kc aJ qO;go_wp2_with fail;refine(JG ts line n0 _ v w2 ach.out wA h0 JF.out Ex VL.out).mono ?_;rintro e w3 ⟨rfl,eC⟩;have hR3:=(eC.block w.heap.size (by omega)).trans mR.out;have sJ:=dH.out.trans (eC.mono (by omega));obtain⟨y0,y1,y2,y3,y4,z0,z1,z2,z3,z4⟩:=f9 hR3;have ji:=ae sJ;have bH:(0:Int)<line:=by omega
 clear eC hR3 sJ;go_wp2_with fail;refine bodyPost_ret (v:=.tuple #[.pointer none,.agg #[.int .i64 2,.int .i64 line,.string ⟨#[]⟩,.slice none 0 0,.slice none 0 0]]) (by simp[results,Tryz.results60,go_sem, *]) rfl ?_;exact⟨rfl,dh ji.out⟩
theorem JC(s:ByteArray)(w:World)(hs:s.size<=maxLen)(code line:Nat)(h:kE s code line)(hc:code≠0):
  Calls Tryz.prog 60 #[.string s] w λe w'=>e=.returned (.tuple #[.pointer none,.agg (ay code line)])/\Below w.heap.size w w':=by
 rcases h with⟨h1,rfl,rfl⟩|⟨h1,⟨h2,rfl⟩|⟨ts,h2,⟨h3,h4,rfl⟩|⟨h3,n,S,h4,rfl,rfl,_⟩⟩⟩
 ·exact QA s w h1 hs
 ·exact QB s w h1 line h2
 ·exact MH s w h1 ts h2 line h3 h4
 ·refine Calls.mono (Em s w h1 ts h2 h3 n S h4) ?_
  rintro e w' ⟨hb,⟨_,he⟩|⟨h0,_⟩⟩
  all_goals grind
theorem JE(s:ByteArray)(w:World)(ts:List Hx.Tok)(h:gM s ts)(n:Nat)(S:Hx.St)(hS:Hx.dk n ts (-1) 0 false Hx.St.zero=some S)(h0:(fi S).code=0):
  Calls Tryz.prog 60 #[.string s] w λe w'=>∃bx gt cap base:Nat,e=.returned (.tuple #[.pointer (some ⟨bx,0,none⟩),.agg (ay 0 0)])/\w.heap.size<=base/\w.heap.size<=gt/\br w' gt ts/\(∃F,db w' base bx (.slice (some ⟨gt,0,none⟩) ts.length cap) gt ts (fi S) F)/\Below w.heap.size w w':=by
 obtain⟨h1,h2,h3,_⟩:=h;refine Calls.mono (Em s w h1 ts h2 h3 n S hS) ?_;rintro e w' ⟨hb,⟨h0',_⟩|⟨_,bx,gt,cap,base,he,bH,aT,hm,hT⟩⟩
 all_goals grind
