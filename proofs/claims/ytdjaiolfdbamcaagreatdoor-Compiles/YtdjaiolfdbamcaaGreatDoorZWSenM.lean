/- The walk of helmref's sense: a mode. -/
import Derived.Test.YtdjaiolfdbamcaaGreatDoorZWSenV
set_option maxRecDepth 20000
set_option maxHeartbeats 40000000
namespace Go.Proofs.YtdjaiolfdbamcaaGreatDoor
open Go.RowKit
attribute [local go_sem↓] Go.wp_at_zero Go.wp_at_succ
variable {u7 u8 u9 XJ XK u16 XL XM XN XO XP XQ XR XS XT XU XV XW XX XY XZ u32 X1 X2 X3 X4 X6 X7 X8 X9 Ya Yb Yc Yd Ye Yf Yg Yh Yi Yj Yk Yl Ym Yn Yo Yp Yq Yr Ys Yt Yu Yv Yw u64 Yx Yy Yz YA YC YD YE YF YG YH YI YJ YK YL YM YN YO YP YQ YR YS YT YU YV YW YX YY YZ Y4 Y5 Y6 Y7 Y8 Y9 Za Ac Ad Ae Af Ag Ah Ai Aj Ak Al Am Ao Ap Aq Ar As At Au Av Ax Ay Az AA AB AC AE AG AH AJ AL AO AP AR AU AV AW AX AY AZ A1 A2 A3 A4 A5 A6 A7 A8 Ba Bb Bc Bd Be Bf Bg Bh Bi Bj Bk Bl Bm Bn Bo Bp Bq Br Bt Bu Bv Bw Bx Bz BA BB BD BF BG BH BJ BK BL BM BN BO BP BQ BR BS BT BU BV BW BX BZ B0 B1 B4 B5 B6 B8 B9 Ca Cb Cc Ce Cf Cg Ch Ci Cj Ck Cl Cm Cn Co Cp Cq Cr Cs Ct Cu Cv Cw Cy Cz CA CC CD CH CJ CL CN CO CQ CR CV CW CX CY CZ C1 C3 C4 C5 C6 C7 C8 C9 Da Db Dc:Value}
theorem MC(w:World)(base bx gt bP:Nat)(ts:List Hx.Tok)(F:Nat->Prop)(hl:ts.length<=3001)(cR:∀t∈ts,Hx.lD t)(ip:gt<w.heap.size)(qp:¬F gt)(S:Hx.St)(f i:Nat)(inn deep:Int)(dear:Bool)(s:Hx.St)(wr:World)(hI:QG ts w base bx (.slice (some ⟨gt,0,none⟩) ts.length bP) gt F S (f+1) i inn deep dear s wr)(hlt:i<ts.length)(k1:¬ts[i].k=101)(e1:(ts[i].s.toList==Hx.eE)=false)(e2:(ts[i].s.toList==Hx.aO)=false)(e3:(ts[i].s.toList==Hx.cS)=true)
  (R:Ending->World->Prop) (J:Nat->Act->World->Prop) (K:Act->World->Prop) (hJ:SJ bx gt ts.length bP (JI ts w base bx (.slice (some ⟨gt,0,none⟩) ts.length bP) gt F S) J) (hK:∀a' w',Handed J (f+1) a' w'->K a' w'):
  Code.wp Tryz.prog mP (Exit.then K (Exit.inBlock 0 (bodyPost Tryz.prog Tryz.f93 R))) ⟨#[.pointer (some ⟨bx,0,none⟩),undef,.slice (some ⟨gt,0,none⟩) ts.length bP,.int .i64 i,.int .i64 inn,.int .i64 deep,.bool dear,u7,u8,u9,XJ,.pointer (some ⟨bx,0,none⟩),.pointer (some ⟨bx,0,none⟩),.pointer (some ⟨bx,0,none⟩),.slice (some ⟨gt,0,none⟩) ts.length bP,XK,u16,XL,XM,XN,XO,XP,XQ,XR,XS,XT,XU,XV,XW,XX,XY,XZ,u32,X1,X2,X3,X4,X6,X7,X8,X9,Ya,Yb,Yc,Yd,Ye,Yf,Yg,Yh,Yi,Yj,Yk,Yl,Ym,Yn,Yo,Yp,Yq,Yr,Ys,Yt,Yu,Yv,Yw,u64,Yx,Yy,Yz,YA,YC,YD,YE,YF,YG,YH,YI,YJ,YK,YL,YM,YN,YO,YP,YQ,YR,YS,YT,YU,YV,YW,YX,YY,YZ,Y4,Y5,Y6,Y7,Y8,Y9,Za,Ac,Ad,Ae,Af,Ag,Ah,Ai,Aj,Ak,Al,Am,Ao,Ap,Aq,Ar,As,At,Au,Av,Ax,Ay,Az,AA,AB,AC,AE,AG,AH,AJ,AL,AO,AP,AR,AU,AV,AW,AX,AY,AZ,A1,A2,A3,A4,A5,A6,A7,A8,Ba,Bb,Bc,Bd,Be,Bf,Bg,Bh,Bi,Bj,Bk,Bl,Bm,Bn,Bo,Bp,Bq,Br,Bt,Bu,Bv,Bw,Bx,Bz,BA,BB,BD,BF,BG,BH,BJ,BK,BL,BM,BN,BO,BP,BQ,BR,BS,BT,BU,BV,BW,BX,BZ,B0,B1,B4,B5,B6,B8,B9,Ca,Cb,Cc,Ce,Cf,Cg,Ch,Ci,Cj,Ck,Cl,Cm,Cn,Co,Cp,Cq,Cr,Cs,Ct,Cu,Cv,Cw,Cy,Cz,CA,CC,CD,CH,CJ,CL,CN,CO,CQ,CR,CV,CW,CX,CY,CZ,C1,C3,C4,C5,C6,C7,C8,C9,Da,Db,Dc],[]⟩ wr:=by
 obtain⟨il,d1,d2,hrun,nv,nm,na,nr,nx,hT,hk,hm⟩:=hI;have pf:=ae cR;have nB:=ae qp;clear cR qp;have d9:ts.drop i=ts[i]::ts.drop (i+1):=List.drop_eq_getElem_cons hlt;rw[d9]at hrun;obtain⟨c0,c1,c2,c3⟩:=hm i hlt;have cR:=pf.out ts[i] (List.getElem_mem hlt);have U5:=hT;obtain⟨g,vE,om⟩:=U5;have eS:=vE.place.2;have ck:=Nat.lt_of_lt_of_le ip hk.size;have JS:=ae (kK hlt);generalize ts[i]=t at*;have HG:=ae hrun;have HT:=ae hT;have mU:=ae vE;have rP:=ae om;have HK:=ae hk;have HM:=ae hm;have HD:=ae d9;have Ky:=ae nx;have Jl:=cR.kind;have nJ:=cR.line;clear hrun hT vE om hk hm d9 cR nx;have a1:((t.k:Int) !=101)=true:=by simp;omega
 obtain⟨ta,tb,r',PJ,hN⟩:=Hx.r5 HG.out k1 e1 e2 e3;have HN:=ae hN;have HR:=ae PJ;clear hN PJ k1
 conv=>arg 2;whnf
 have gg:∀k,ts[i+1+k]?=(ta::tb::r')[k]?:=λk=>by rw[<-HR.out,List.getElem?_drop]
 have hl6:i+3<=ts.length:=by have:=congrArg List.length HR.out;simp at this;omega
 have G1:=ae (l6 (show i+1<ts.length by omega) (gg 0));have H6:=ae (show ts.drop (i+3)=r' by have e:ts.drop (i+3)=(ts.drop (i+1)).drop 2:=by{rw[List.drop_drop]};rw[e,HR.out];rfl);clear gg;have MP:=pf.out ta (by rw[<-G1.out];exact List.getElem_mem _);have ka:=MP.kind;have la:=MP.line;clear MP;have IW:=mU.out.af;have iq:g.ms.length=s.af.length:=by rw[<-IW];simp
 obtain⟨av,cv,nR,_,_⟩:=dv (mU.out.mem.own 2 _ rfl);simp only at nR;have b1:=mU.out.cellAt.2.2.1;rw[nR,iq]at b1;clear nR IW iq;obtain⟨x0,x1,x2,x3⟩:=tF HM.out (show i+1<ts.length by omega) G1.out;have amc:(i:Int)+1<ts.length:=by omega
 have dA:0<=(i:Int)+1:=by omega
 have w1':IntKind.i64.wrap ((i:Int)+1)=(i:Int)+1:=IntWalk.i64_in _ (by omega);have t1':((i:Int)+1).toNat=i+1:=by omega
 have pQ:¬fresh F w gt:=λh=>h.elim nB.out (λh=>by omega)
 have lZ:Below wr.heap.size wr (wr.alloc (.cells #[.int .u8 t.k,.string t.s,.int .i64 t.n,.int .i64 t.line] 130)):=(Below.refl _ _).alloc (Nat.le_refl _) _;have YB:=ae ((lZ.cell (p:=⟨bx,2,none⟩) eS).trans b1);have Y0:=ae ((lZ.cell (p:=⟨gt,(i+1)*4,none⟩) ck).trans x0);have Y1:=ae ((lZ.cell (p:=⟨gt,(i+1)*4+1,none⟩) ck).trans x1);have Y2:=ae ((lZ.cell (p:=⟨gt,(i+1)*4+2,none⟩) ck).trans x2);have Y3:=ae ((lZ.cell (p:=⟨gt,(i+1)*4+3,none⟩) ck).trans x3);have NW:=ae (Nat.lt_of_lt_of_le ck lZ.size);have wS:=ae (HT.out.below lZ);have five:(2:Nat)<5:=by omega
 clear lZ;have amd:=ae (show(((s.af.length:Nat):Int)==12)=(s.af.length==12) by rw[Bool.eq_iff_iff];simp;omega);generalize gI:s.aS (s.af.length==12||deep==6) 1 ta.line=s1;have tH:=ae gI;have nG:s1.af.length<=10000:=by rw[<-gI,Hx.St.bw];omega
 clear gI;go_wp2_with fail
 go_cut []from 15 to 249 (λwx=>db wx base bx (.slice (some ⟨gt,0,none⟩) ts.length bP) gt ts s1 (fresh F w)/\Kp F w wx/\br wx gt ts)
 case first=>
  cases a12:(((s.af.length:Nat):Int)==12)with
  |true=>
   have RX:s.af.length=12:=by simp at a12;omega
   have b6:=ae (show s.aS true 1 ta.line=s1 by rw[<-tH.out,<-amd.out,a12];rfl);rw[RX]at b1;have YB:Hid _:=YB.out;clear a12
   first|go_region_with (go_at_call 140;refine(dI _ base bx (.slice (some ⟨gt,0,none⟩) ts.length bP) gt ts s (fresh F w) _ 1 ta ?_).mono ?_;exact wS.out.below ⟨rfl,rfl,rfl,Nat.le_refl _,λ_ _=>rfl⟩;rintro e w1 ⟨rfl,dw,iH⟩;have z1:=(iH 2 five).trans YB.out;have z4:=(dw.2.cell NW.out pQ).trans Y0.out;have z5:=(dw.2.cell NW.out pQ).trans Y1.out;have z6:=(dw.2.cell NW.out pQ).trans Y2.out;have z7:=(dw.2.cell NW.out pQ).trans Y3.out)|fail
   all_goals
    have uN:=ae (fu (λ_ h=>h) ((HK.out.alloc _).drew) dw (eM HM.out _ ck) ip nB.out);clear dw iH;go_wp2_with fail;go_meet
    case rel=>rw[<-b6.out];exact uN.out
  |false=>
   have b6:=ae (show s.aS (deep==6) 1 ta.line=s1 by rw[<-tH.out,<-amd.out,a12];rfl)
   go_region_held3 (λW=>W.cell? ⟨bx,2,none⟩=some (.slice av s.af.length cv)/\W.cell? ⟨gt,(i+1)*4,none⟩=some (.int .u8 ta.k)/\W.cell? ⟨gt,(i+1)*4+1,none⟩=some (.string ta.s)/\W.cell? ⟨gt,(i+1)*4+2,none⟩=some (.int .i64 ta.n)/\W.cell? ⟨gt,(i+1)*4+3,none⟩=some (.int .i64 ta.line)) (first|go_keep|(exact⟨by assumption,by assumption,by assumption,by assumption,by assumption⟩))
    ((go_at_call 140;refine(dI _ base bx (.slice (some ⟨gt,0,none⟩) ts.length bP) gt ts s (fresh F w) _ 1 ta ?_).mono ?_;exact wS.out.below ⟨rfl,rfl,rfl,Nat.le_refl _,λ_ _=>rfl⟩;rintro e w1 ⟨rfl,dw,iH⟩;have z1:=(iH 2 five).trans YB.out;have z4:=(dw.2.cell NW.out pQ).trans Y0.out;have z5:=(dw.2.cell NW.out pQ).trans Y1.out;have z6:=(dw.2.cell NW.out pQ).trans Y2.out;have z7:=(dw.2.cell NW.out pQ).trans Y3.out))
   have uN:=ae (fu (λ_ h=>h) ((HK.out.alloc _).drew) dw (eM HM.out _ ck) ip nB.out);clear dw iH;go_wp2_with fail;go_meet
   case rel=>rw[<-b6.out];exact uN.out
 case rest=>
  have uN:=ae hcut;clear hcut x0 x1 x2 x3 b1 YB Y0 Y1 Y2 Y3 wS NW;have DK:=Nat.lt_of_lt_of_le ip uN.out.2.1.size;obtain⟨x0,x1,x2,x3⟩:=tF uN.out.2.2 (show i+1<ts.length by omega) G1.out;have Dl:=ae (show s1.aS (decide (0<=Hx.place ta.s 0 (s1.af.map (·.name)))) 3 ta.line=s1.aS (s1.dx ta.s) 3 ta.line by rw[Hx.KQ]);go_wp2_with fail
  go_cut []from 15 to 249 (λwx=>db wx base bx (.slice (some ⟨gt,0,none⟩) ts.length bP) gt ts (s1.aS (s1.dx ta.s) 3 ta.line) (fresh F w)/\Kp F w wx/\br wx gt ts)
  case first=>
   go_region_held3 (λW=>W.cell? ⟨gt,(i+1)*4,none⟩=some (.int .u8 ta.k)/\W.cell? ⟨gt,(i+1)*4+1,none⟩=some (.string ta.s)/\W.cell? ⟨gt,(i+1)*4+2,none⟩=some (.int .i64 ta.n)/\W.cell? ⟨gt,(i+1)*4+3,none⟩=some (.int .i64 ta.line)) (first|go_keep|(exact⟨by assumption,by assumption,by assumption,by assumption⟩))
    (first
     |(go_at_call 143;refine(yM _ base bx (.slice (some ⟨gt,0,none⟩) ts.length bP) gt ts s1 (fresh F w) ta.s ?_ nG).mono ?_;exact uN.out.1.below ⟨rfl,rfl,rfl,Nat.le_refl _,λ_ _=>rfl⟩;rintro e w' ⟨rfl,rfl⟩)
     |(go_at_call 140;refine(dI _ base bx (.slice (some ⟨gt,0,none⟩) ts.length bP) gt ts s1 (fresh F w) _ 3 ta ?_).mono ?_;exact uN.out.1.below ⟨rfl,rfl,rfl,Nat.le_refl _,λ_ _=>rfl⟩;rintro e w2 ⟨rfl,fv,lQ⟩;have y4:=(fv.2.cell DK pQ).trans x0;have y5:=(fv.2.cell DK pQ).trans x1;have y6:=(fv.2.cell DK pQ).trans x2;have y7:=(fv.2.cell DK pQ).trans x3))
   have JT:=ae (fu (λ_ h=>h) uN.out.2.1.drew fv uN.out.2.2 ip nB.out);clear fv lQ;go_wp2_with fail;go_meet
   case rel=>rw[<-Dl.out];exact JT.out
  case rest=>
   have JT:=ae hcut;clear hcut x0 x1 x2 x3;have rF:=Nat.lt_of_lt_of_le ip JT.out.2.1.size;obtain⟨x0,x1,x2,x3⟩:=tF JT.out.2.2 (show i+1<ts.length by omega) G1.out;generalize jT:s1.aS (s1.dx ta.s) 3 ta.line=s2 at JT;have Oc:=ae jT;have Ra:s2.af.length<=10000:=by rw[<-jT,Hx.St.bw];exact nG
   clear jT x0 x1 x2 x3;go_wp2_with fail;refine QH w base bx gt bP ts F hl ip nB.out i inn dear s2 (s.bT ta inn deep dear) ta _ JT.out.1 JT.out.2.1 JT.out.2.2 hl6 (λ_=>G1.out) Ra (MQ tH.out Oc.out) _ ?_
   intros;rename_i hR
   have NX3:=ae hR;clear hR;obtain⟨⟨vv7,vm7,va7,ms7,aAp⟩,T7,F7⟩:=NX3.out.1;have hO7:=T7.mem.own 2 _ rfl;simp only at hO7;obtain⟨Ge,Gf,ar7,_,_⟩:=dv hO7;subst ar7;have u7:=T7.cellAt.2.2.1;simp only at u7;have ame:ms7.length=s.af.length+1:=by
    have h1:=congrArg List.length T7.af;rw[l8]at h1;simpa using h1
   rw[ame]at u7;clear hO7 T7 F7 ame;have wl:IntKind.i64.wrap (((s.af.length+1:Nat):Int)-1)=(s.af.length:Int):=by rw[show(((s.af.length+1:Nat):Int)-1)=(s.af.length:Int) by omega];exact IntWalk.i64_in _ (by omega)
   go_wp2_with fail;refine Handed.intro f (by omega) (hJ f ?_);exact⟨i+3,s.af.length,deep+1,false,s.bT ta inn deep dear,by go_num,by go_num,by go_num,rfl,⟨by omega,by omega,by omega,by rw[H6.out];exact HN.out,by rw[FT];omega,by rw[l8,List.length_append];simp;omega,by rw[Dd];omega,by rw[FU];omega,λm hm=>by rw[l8,List.mem_append]at hm;rcases hm with hm|hm;(have:=Ky.out m hm;omega);(simp at hm;subst hm;simp),NX3.out.1,NX3.out.2.1,NX3.out.2.2⟩⟩
