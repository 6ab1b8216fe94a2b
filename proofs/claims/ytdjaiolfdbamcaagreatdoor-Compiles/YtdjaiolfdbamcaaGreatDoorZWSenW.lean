/- The walk of helmref's sense: a row. -/
import Derived.Test.YtdjaiolfdbamcaaGreatDoorZWSenR40
set_option maxRecDepth 20000
set_option maxHeartbeats 40000000
namespace Go.Proofs.YtdjaiolfdbamcaaGreatDoor
section
open Go.RowKit
attribute [local go_sem↓] Go.wp_at_zero Go.wp_at_succ
variable {u7 u8 u9 XJ XK u16 XL XM XN XO XP XQ XR XS XT XU XV XW XX XY XZ u32 X1 X2 X3 X4 X6 X7 X8 X9 Ya Yb Yc Yd Ye Yf Yg Yh Yi Yj Yk Yl Ym Yn Yo Yp Yq Yr Ys Yt Yu Yv Yw u64 Yx Yy Yz YA YC YD YE YF YG YH YI YJ YK YL YM YN YO YP YQ YR YS YT YU YV YW YX YY YZ Y4 Y5 Y6 Y7 Y8 Y9 Za Ac Ad Ae Af Ag Ah Ai Aj Ak Al Am Ao Ap Aq Ar As At Au Av Ax Ay Az AA AB AC AE AG AH AJ AL AO AP AR AU AV AW AX AY AZ A1 A2 A3 A4 A5 A6 A7 A8 Ba Bb Bc Bd Be Bf Bg Bh Bi Bj Bk Bl Bm Bn Bo Bp Bq Br Bt Bu Bv Bw Bx Bz BA BB BD BF BG BH BJ BK BL BM BN BO BP BQ BR BS BT BU BV BW BX BZ B0 B1 B4 B5 B6 B8 B9 Ca Cb Cc Ce Cf Cg Ch Ci Cj Ck Cl Cm Cn Co Cp Cq Cr Cs Ct Cu Cv Cw Cy Cz CA CC CD CH CJ CL CN CO CQ CR CV CW CX CY CZ C1 C3 C4 C5 C6 C7 C8 C9 Da Db Dc:Value}
theorem ME(w:World)(base bx gt bP:Nat)(ts:List Hx.Tok)(F:Nat->Prop)(hl:ts.length<=3001)(cR:∀t∈ts,Hx.lD t)(ip:gt<w.heap.size)(qp:¬F gt)(II:ts.length<=bP)(S:Hx.St)(f i:Nat)(inn deep:Int)(dear:Bool)(s:Hx.St)(wr:World)(hI:QG ts w base bx (.slice (some ⟨gt,0,none⟩) ts.length bP) gt F S (f+1) i inn deep dear s wr)(hlt:i<ts.length)(k1:¬ts[i].k=101)(e1:(ts[i].s.toList==Hx.eE)=false)(e2:(ts[i].s.toList==Hx.aO)=false)(e3:(ts[i].s.toList==Hx.cS)=false)(e4:(ts[i].s.toList==Hx.dB)=true)
  (R:Ending->World->Prop) (J:Nat->Act->World->Prop) (K:Act->World->Prop) (hJ:SJ bx gt ts.length bP (JI ts w base bx (.slice (some ⟨gt,0,none⟩) ts.length bP) gt F S) J) (hK:∀a' w',Handed J (f+1) a' w'->K a' w'):
  Code.wp Tryz.prog mP (Exit.then K (Exit.inBlock 0 (bodyPost Tryz.prog Tryz.f93 R))) ⟨#[.pointer (some ⟨bx,0,none⟩),undef,.slice (some ⟨gt,0,none⟩) ts.length bP,.int .i64 i,.int .i64 inn,.int .i64 deep,.bool dear,u7,u8,u9,XJ,.pointer (some ⟨bx,0,none⟩),.pointer (some ⟨bx,0,none⟩),.pointer (some ⟨bx,0,none⟩),.slice (some ⟨gt,0,none⟩) ts.length bP,XK,u16,XL,XM,XN,XO,XP,XQ,XR,XS,XT,XU,XV,XW,XX,XY,XZ,u32,X1,X2,X3,X4,X6,X7,X8,X9,Ya,Yb,Yc,Yd,Ye,Yf,Yg,Yh,Yi,Yj,Yk,Yl,Ym,Yn,Yo,Yp,Yq,Yr,Ys,Yt,Yu,Yv,Yw,u64,Yx,Yy,Yz,YA,YC,YD,YE,YF,YG,YH,YI,YJ,YK,YL,YM,YN,YO,YP,YQ,YR,YS,YT,YU,YV,YW,YX,YY,YZ,Y4,Y5,Y6,Y7,Y8,Y9,Za,Ac,Ad,Ae,Af,Ag,Ah,Ai,Aj,Ak,Al,Am,Ao,Ap,Aq,Ar,As,At,Au,Av,Ax,Ay,Az,AA,AB,AC,AE,AG,AH,AJ,AL,AO,AP,AR,AU,AV,AW,AX,AY,AZ,A1,A2,A3,A4,A5,A6,A7,A8,Ba,Bb,Bc,Bd,Be,Bf,Bg,Bh,Bi,Bj,Bk,Bl,Bm,Bn,Bo,Bp,Bq,Br,Bt,Bu,Bv,Bw,Bx,Bz,BA,BB,BD,BF,BG,BH,BJ,BK,BL,BM,BN,BO,BP,BQ,BR,BS,BT,BU,BV,BW,BX,BZ,B0,B1,B4,B5,B6,B8,B9,Ca,Cb,Cc,Ce,Cf,Cg,Ch,Ci,Cj,Ck,Cl,Cm,Cn,Co,Cp,Cq,Cr,Cs,Ct,Cu,Cv,Cw,Cy,Cz,CA,CC,CD,CH,CJ,CL,CN,CO,CQ,CR,CV,CW,CX,CY,CZ,C1,C3,C4,C5,C6,C7,C8,C9,Da,Db,Dc],[]⟩ wr:=by
 obtain⟨il,d1,d2,hrun,nv,nm,na,nr,nx,hT,hk,hm⟩:=hI;have pf:=ae cR;have nB:=ae qp;clear cR qp;have d9:=List.drop_eq_getElem_cons hlt;rw[d9]at hrun;obtain⟨c0,c1,c2,c3⟩:=hm i hlt;have cR:=pf.out ts[i] (List.getElem_mem hlt);have U5:=hT;obtain⟨g,vE,om⟩:=U5;have eS:=vE.place.2;have ck:=Nat.lt_of_lt_of_le ip hk.size;have JS:=ae (kK hlt);generalize ts[i]=t at*;have HG:=ae hrun;have HT:=ae hT;have mU:=ae vE;have rP:=ae om;have HK:=ae hk;have HM:=ae hm;have HD:=ae d9;have Ky:=ae nx;have Jl:=cR.kind;have nJ:=cR.line;clear hrun hT vE om hk hm d9 cR nx;have a1:((t.k:Int) !=101)=true:=by simp;omega
 obtain⟨asT,ahc,s2,d,a,r',hgf,hN⟩:=Hx.r7 HG.out k1 e1 e2 e3 e4;have HN:=ae hN;have ahd:=ae hgf;clear hN hgf k1
 conv=>arg 2;whnf
 have hoF:¬fresh F w gt:=λh=>h.elim nB.out (λh=>by omega)
 have lZ:Below wr.heap.size wr (wr.alloc (.cells #[.int .u8 t.k,.string t.s,.int .i64 t.n,.int .i64 t.line] 130)):=(Below.refl _ _).alloc (Nat.le_refl _) _;have b4:=mU.out.cellAt.2.2.2.2.1;have wS:=ae (HT.out.below lZ);have asU:=ae (show(((s.rows):Int)==24)=(s.rows==24) by grind);generalize gI:s.aS (s.rows==24) 1 t.line=s1;have tH:=ae gI;have asV:s1.rows=s.rows:=by rw[<-gI,Hx.St.dC]
 have nG:s1.vars.length<=10000:=by rw[<-gI,Hx.St.bR];omega
 have ha1:s1.atoms.length<=i+1:=by rw[<-gI,Hx.St.bN];omega
 have hW:s.ff t={s1 with rows:=s1.rows+1}:=by unfold Hx.St.ff;rw[gI]
 rw[hW]at ahd;clear gI lZ hW;have oA:i+1<=ts.length:=by omega
 go_wp2_with fail
 go_cut []from 15 to 249 (λwx=>db wx base bx (.slice (some ⟨gt,0,none⟩) ts.length bP) gt ts s1 (fresh F w)/\Kp F w wx/\br wx gt ts)
 case first=>
  first|go_region_with (go_at_call 140;refine(dI _ base bx (.slice (some ⟨gt,0,none⟩) ts.length bP) gt ts s (fresh F w) _ 1 t ?_).mono ?_;exact wS.out.below ⟨rfl,rfl,rfl,Nat.le_refl _,λ_ _=>rfl⟩;rintro e w1 ⟨rfl,dw,iH⟩)|fail
  all_goals
   have uN:=ae (fu (λ_ h=>h) ((HK.out.alloc _).drew) dw (eM HM.out _ ck) ip nB.out);rw[asU.out,tH.out]at uN;clear dw iH;go_wp2_with fail;go_meet
   case rel=>exact uN.out
 case rest=>
  have uN:=ae hcut;clear hcut b4 wS;obtain⟨g1,T1,F1⟩:=uN.out.1;have b4:=T1.cellAt.2.2.2.2.1;have f4:=T1.free 4;have zP:=T1.place.2;clear T1 F1;have wr1:IntKind.i64.wrap ((s1.rows)+1)=(s1.rows)+1:=IntWalk.i64_in _ (by omega);have wi1:IntKind.i64.wrap ((i)+1)=(i)+1:=IntWalk.i64_in _ (by omega);have neg:gt≠bx:=λe=>hoF (e▸(uN.out.1.tv 0).2)
  have TT:=Nat.lt_of_lt_of_le ip uN.out.2.1.size;have hTW:db (wc.setCell ⟨bx,4,none⟩ (.int .i64 ((s.rows+1:Nat)))) base bx (.slice (some ⟨gt,0,none⟩) ts.length bP) gt ts {s1 with rows:=s1.rows+1} (fresh F w):=by have:=(uN.out.1.tv (s.rows+1)).1;rw[asV];exact this
  have HTW:=ae hTW;have HMW:=ae (uN.out.2.2.setOther ⟨bx,4,none⟩ neg TT (.int .i64 ((s.rows+1:Nat))));have yg:Hid (Kp F w (wc.setCell ⟨bx,4,none⟩ (.int .i64 ((s.rows+1:Nat))))):=ae (uN.out.2.1.setCell (by rcases(uN.out.1.tv 0).2 with h|h;exact .inl h;exact .inr h) _);have asW:gt<(wc.setCell ⟨bx,4,none⟩ (.int .i64 ((s.rows+1:Nat)))).heap.size:=by simpa[]using TT
  clear hTW;go_wp2_with fail;rw[show((s.rows)+1)=((s.rows+1:Nat):Int) by omega,show((i)+1)=((i+1:Nat):Int) by omega];refine(P9 _ base bx gt bP ts _ (fresh F w) HTW.out HMW.out hl pf.out asW hoF II (i+1) f t (by omega) oA JS.out (s2,d::a::r') ahd.out nG ha1).mono ?_;rintro e w3 ⟨j,rfl,hj,Kd,Xd,hR⟩;have d9:ts.drop j=d::a::r':=Xd;clear Xd;have NX3:=ae (fu (λ_ h=>h) yg.out hR HMW.out ip nB.out);have iP:j+2<=ts.length:=by have:=congrArg List.length d9;simp at this;omega
  have gg:∀k,ts[j+k]?=(d::a::r')[k]?:=λk=>by rw[<-d9,List.getElem?_drop]
  have G0:=ae (l6 (show j<ts.length by omega) (gg 0));have G1:=ae (l6 (show j+1<ts.length by omega) (gg 1));have HDR:=ae d9;clear gg d9 hR b4 f4 zP;obtain⟨_,d1',_,_⟩:=tF NX3.out.2.2 (by omega) G0.out;obtain⟨_,Ol,_,a3'⟩:=tF NX3.out.2.2 (by omega) G1.out;have alX:(0)<=(i:Int)+1:=by omega
  have alY:(i:Int)+1<=j:=by omega
  have aAA:(j:Int)<=bP:=by omega
  have aAB:((i:Int)+1).toNat=i+1:=by omega
  have aAC:(j:Int)<ts.length:=by omega
  have aAD:(j:Int)+1<ts.length:=by omega
  have aAE:((j:Int)+1).toNat=j+1:=by omega
  have wj1:IntKind.i64.wrap ((j)+1)=(j)+1:=IntWalk.i64_in _ (by omega);have wj2:IntKind.i64.wrap ((j)+2)=(j)+2:=IntWalk.i64_in _ (by omega);have wj3:IntKind.i64.wrap ((j)+3)=(j)+3:=IntWalk.i64_in _ (by omega);have O9:=Nat.lt_of_lt_of_le ip NX3.out.2.1.size;have aAF:((i+1:Nat))=(i:Int)+1:=by omega
  obtain⟨q,rfl⟩:∃q:Nat,inn=(q):=⟨inn.toNat,by omega⟩;simp only [Int.toNat_natCast]at HN;obtain⟨km,kv,kr,ka⟩:=Hx.M6 _ _ _ _ _ _ _ ahd.out;have amB:s1.af=s.af:=by rw[<-tH.out,Hx.St.bw]
  have amC:s1.vars=s.vars:=by rw[<-tH.out,Hx.St.bR]
  simp only at km kv kr ka;rw[amB]at km;rw[amC]at kv;have J5:q<s2.af.length:=by rw[km];omega
  have aaQ:s2.af.length<=10000:=by rw[km];omega
  have amD:∀h:q<s2.af.length,s2.af[q].rows.length<=10000:=λh=>by
   have:=Ky.out s2.af[q] (by simp_all);omega
  have HAR:Hid (∀r m,m∈Hx.cy s2.af q r->m.rows.length<=i+1):=ae (λr m hm=>by rw[km]at hm;exact Hx.oI s.af q i r Ky.out m hm);have nv2:s2.vars.length<=i:=by rw[kv];exact nv
  have nm2:s2.af.length<=i:=by rw[km];exact nm
  have nr2:s2.rows<=i+1:=by omega
  have na2:s2.atoms.length<=j:=by
   have h1:=congrArg List.length HDR.out;rw[List.length_drop]at h1;rw[<-h1,List.length_drop]at ka;omega
  have amE:=ae amD;clear km kv kr ka amB amC amD
  have TN:Hid (GSl gt ts (.slice (some ⟨gt,(i+1)*4,none⟩) (j-(i+1)) (bP-(i+1))) (Hx.xE (ts.drop (i+1)) (a::r'))):=ae ⟨i+1,j-(i+1),_,rfl,by omega,by
   have h1:=congrArg List.length HDR.out;simp only [List.length_drop,List.length_cons]at h1;simp only [Hx.xE,List.length_drop,List.length_cons];congr 1
   omega⟩
  cases nX:(d.s.toList==Hx.t6)with
  |true=>
   obtain⟨_,b,r2,rfl,J0⟩:=HN.out.resolve_right (λh=>by simp_all);have Kb:=ae J0;have XA:=ae nX;have Ea:j+3<=ts.length:=by have:=congrArg List.length HDR.out;simp at this;omega
   have HDN:=ae (show ts.drop (j+3)=r2 by have e:ts.drop (j+3)=(ts.drop j).drop 3:=by{rw[List.drop_drop]};rw[e,HDR.out];rfl);clear J0;go_wp2_with fail;refine Ep w base bx gt bP ts F ip nB.out q s2 _ _ NX3.out.1 NX3.out.2.1 NX3.out.2.2 J5 aaQ amE.out _ _ _ a.s a.line _ TN.out rfl _ ?_
   intros;rename_i hR
   have NX4:=ae hR;clear hR d1' Ol a3';go_wp2_with fail;refine Handed.intro f (by omega) (hJ f ?_);exact⟨j+3,q,deep,dear,{s2 with af:=Hx.cy s2.af q ⟨a.s,a.line,_⟩},by go_num,by go_num,by go_num,rfl,⟨by omega,by omega,by omega,by rw[HDN.out];exact Kb.out,by grind,by grind[Hx.cy,List.length_modify],by grind,by grind,λm hm=>by have:=HAR.out _ m hm;omega,NX4.out.1,NX4.out.2.1,NX4.out.2.2⟩⟩
  |false=>
   obtain⟨_,J0⟩:=HN.out.resolve_left (λh=>by simp_all);have Kb:=ae J0;have XA:=ae nX;have HDN:=ae (show ts.drop (j+2)=r' by have e:ts.drop (j+2)=(ts.drop j).drop 2:=by{rw[List.drop_drop]};rw[e,HDR.out];rfl);clear J0;go_wp2_with fail;refine Ep w base bx gt bP ts F ip nB.out q s2 _ _ NX3.out.1 NX3.out.2.1 NX3.out.2.2 J5 aaQ amE.out _ _ _ ⟨#[]⟩ 0 _ TN.out rfl _ ?_
   intros;rename_i hR
   have NX4:=ae hR;clear hR d1' Ol a3';go_wp2_with fail;refine Handed.intro f (by omega) (hJ f ?_);exact⟨j+2,q,deep,dear,{s2 with af:=Hx.cy s2.af q ⟨⟨#[]⟩,0,_⟩},by go_num,by go_num,by go_num,rfl,⟨by omega,by omega,by omega,by rw[HDN.out];exact Kb.out,by grind,by grind[Hx.cy,List.length_modify],by grind,by grind,λm hm=>by have:=HAR.out _ m hm;omega,NX4.out.1,NX4.out.2.1,NX4.out.2.2⟩⟩
theorem Ab(w:World)(base bx gt bP:Nat)(ts:List Hx.Tok)(F:Nat->Prop)(hl:ts.length<=3001)(cR:∀t∈ts,Hx.lD t)(ip:gt<w.heap.size)(qp:¬F gt)(S:Hx.St)(f i:Nat)(inn deep:Int)(dear:Bool)(s:Hx.St)(wr:World)(hI:QG ts w base bx (.slice (some ⟨gt,0,none⟩) ts.length bP) gt F S (f+1) i inn deep dear s wr)(hlt:i<ts.length)(k1:¬ts[i].k=101)(e1:(ts[i].s.toList==Hx.eE)=false)(e2:(ts[i].s.toList==Hx.aO)=true)
  (R:Ending->World->Prop) (J:Nat->Act->World->Prop) (K:Act->World->Prop) (hJ:SJ bx gt ts.length bP (JI ts w base bx (.slice (some ⟨gt,0,none⟩) ts.length bP) gt F S) J) (hK:∀a' w',Handed J (f+1) a' w'->K a' w'):
  Code.wp Tryz.prog mP (Exit.then K (Exit.inBlock 0 (bodyPost Tryz.prog Tryz.f93 R))) ⟨#[.pointer (some ⟨bx,0,none⟩),undef,.slice (some ⟨gt,0,none⟩) ts.length bP,.int .i64 i,.int .i64 inn,.int .i64 deep,.bool dear,u7,u8,u9,XJ,.pointer (some ⟨bx,0,none⟩),.pointer (some ⟨bx,0,none⟩),.pointer (some ⟨bx,0,none⟩),.slice (some ⟨gt,0,none⟩) ts.length bP,XK,u16,XL,XM,XN,XO,XP,XQ,XR,XS,XT,XU,XV,XW,XX,XY,XZ,u32,X1,X2,X3,X4,X6,X7,X8,X9,Ya,Yb,Yc,Yd,Ye,Yf,Yg,Yh,Yi,Yj,Yk,Yl,Ym,Yn,Yo,Yp,Yq,Yr,Ys,Yt,Yu,Yv,Yw,u64,Yx,Yy,Yz,YA,YC,YD,YE,YF,YG,YH,YI,YJ,YK,YL,YM,YN,YO,YP,YQ,YR,YS,YT,YU,YV,YW,YX,YY,YZ,Y4,Y5,Y6,Y7,Y8,Y9,Za,Ac,Ad,Ae,Af,Ag,Ah,Ai,Aj,Ak,Al,Am,Ao,Ap,Aq,Ar,As,At,Au,Av,Ax,Ay,Az,AA,AB,AC,AE,AG,AH,AJ,AL,AO,AP,AR,AU,AV,AW,AX,AY,AZ,A1,A2,A3,A4,A5,A6,A7,A8,Ba,Bb,Bc,Bd,Be,Bf,Bg,Bh,Bi,Bj,Bk,Bl,Bm,Bn,Bo,Bp,Bq,Br,Bt,Bu,Bv,Bw,Bx,Bz,BA,BB,BD,BF,BG,BH,BJ,BK,BL,BM,BN,BO,BP,BQ,BR,BS,BT,BU,BV,BW,BX,BZ,B0,B1,B4,B5,B6,B8,B9,Ca,Cb,Cc,Ce,Cf,Cg,Ch,Ci,Cj,Ck,Cl,Cm,Cn,Co,Cp,Cq,Cr,Cs,Ct,Cu,Cv,Cw,Cy,Cz,CA,CC,CD,CH,CJ,CL,CN,CO,CQ,CR,CV,CW,CX,CY,CZ,C1,C3,C4,C5,C6,C7,C8,C9,Da,Db,Dc],[]⟩ wr:=by
 obtain⟨il,d1,d2,hrun,nv,nm,na,nr,nx,hT,hk,hm⟩:=hI;have pf:=ae cR;have nB:=ae qp;clear cR qp;have d9:=List.drop_eq_getElem_cons hlt;rw[d9]at hrun;obtain⟨c0,c1,c2,c3⟩:=hm i hlt;have cR:=pf.out ts[i] (List.getElem_mem hlt);have U5:=hT;obtain⟨g,vE,om⟩:=U5;have eS:=vE.place.2;have ck:=Nat.lt_of_lt_of_le ip hk.size;have JS:=ae (kK hlt);generalize ts[i]=t at*;have HG:=ae hrun;have HT:=ae hT;have mU:=ae vE;have rP:=ae om;have HK:=ae hk;have HM:=ae hm;have HD:=ae d9;have Ky:=ae nx;have Jl:=cR.kind;have nJ:=cR.line;clear hrun hT vE om hk hm d9 cR nx;have a1:((t.k:Int) !=101)=true:=by simp;omega
 have HN:=ae (Hx.lE HG.out k1 e1 e2);clear k1
 conv=>arg 2;whnf
 go_wp2;refine Handed.intro f (by omega) (hJ f ?_);exact⟨i+1,inn,deep,true,s,by go_num,rfl,rfl,rfl,⟨by omega,by omega,by omega,HN.out,by omega,by omega,by omega,by omega,λm hm=>by have:=Ky.out m hm;omega,HT.out.alloc _,HK.out.alloc _,eM HM.out _ ck⟩⟩
theorem MF(w:World)(base bx gt bP:Nat)(ts:List Hx.Tok)(F:Nat->Prop)(hl:ts.length<=3001)(cR:∀t∈ts,Hx.lD t)(ip:gt<w.heap.size)(qp:¬F gt)(S:Hx.St)(f i:Nat)(inn deep:Int)(dear:Bool)(s:Hx.St)(wr:World)(hI:QG ts w base bx (.slice (some ⟨gt,0,none⟩) ts.length bP) gt F S (f+1) i inn deep dear s wr)(hlt:i<ts.length)(k1:¬ts[i].k=101)(e1:(ts[i].s.toList==Hx.eE)=false)(e2:(ts[i].s.toList==Hx.aO)=false)(e3:(ts[i].s.toList==Hx.cS)=false)(e4:(ts[i].s.toList==Hx.dB)=false)
  (R:Ending->World->Prop) (J:Nat->Act->World->Prop) (K:Act->World->Prop) (hJ:SJ bx gt ts.length bP (JI ts w base bx (.slice (some ⟨gt,0,none⟩) ts.length bP) gt F S) J) (hK:∀a' w',Handed J (f+1) a' w'->K a' w'):
  Code.wp Tryz.prog mP (Exit.then K (Exit.inBlock 0 (bodyPost Tryz.prog Tryz.f93 R))) ⟨#[.pointer (some ⟨bx,0,none⟩),undef,.slice (some ⟨gt,0,none⟩) ts.length bP,.int .i64 i,.int .i64 inn,.int .i64 deep,.bool dear,u7,u8,u9,XJ,.pointer (some ⟨bx,0,none⟩),.pointer (some ⟨bx,0,none⟩),.pointer (some ⟨bx,0,none⟩),.slice (some ⟨gt,0,none⟩) ts.length bP,XK,u16,XL,XM,XN,XO,XP,XQ,XR,XS,XT,XU,XV,XW,XX,XY,XZ,u32,X1,X2,X3,X4,X6,X7,X8,X9,Ya,Yb,Yc,Yd,Ye,Yf,Yg,Yh,Yi,Yj,Yk,Yl,Ym,Yn,Yo,Yp,Yq,Yr,Ys,Yt,Yu,Yv,Yw,u64,Yx,Yy,Yz,YA,YC,YD,YE,YF,YG,YH,YI,YJ,YK,YL,YM,YN,YO,YP,YQ,YR,YS,YT,YU,YV,YW,YX,YY,YZ,Y4,Y5,Y6,Y7,Y8,Y9,Za,Ac,Ad,Ae,Af,Ag,Ah,Ai,Aj,Ak,Al,Am,Ao,Ap,Aq,Ar,As,At,Au,Av,Ax,Ay,Az,AA,AB,AC,AE,AG,AH,AJ,AL,AO,AP,AR,AU,AV,AW,AX,AY,AZ,A1,A2,A3,A4,A5,A6,A7,A8,Ba,Bb,Bc,Bd,Be,Bf,Bg,Bh,Bi,Bj,Bk,Bl,Bm,Bn,Bo,Bp,Bq,Br,Bt,Bu,Bv,Bw,Bx,Bz,BA,BB,BD,BF,BG,BH,BJ,BK,BL,BM,BN,BO,BP,BQ,BR,BS,BT,BU,BV,BW,BX,BZ,B0,B1,B4,B5,B6,B8,B9,Ca,Cb,Cc,Ce,Cf,Cg,Ch,Ci,Cj,Ck,Cl,Cm,Cn,Co,Cp,Cq,Cr,Cs,Ct,Cu,Cv,Cw,Cy,Cz,CA,CC,CD,CH,CJ,CL,CN,CO,CQ,CR,CV,CW,CX,CY,CZ,C1,C3,C4,C5,C6,C7,C8,C9,Da,Db,Dc],[]⟩ wr:=by
 obtain⟨il,d1,d2,hrun,nv,nm,na,nr,nx,hT,hk,hm⟩:=hI;have pf:=ae cR;have nB:=ae qp;clear cR qp;have d9:=List.drop_eq_getElem_cons hlt;rw[d9]at hrun;obtain⟨c0,c1,c2,c3⟩:=hm i hlt;have cR:=pf.out ts[i] (List.getElem_mem hlt);have U5:=hT;obtain⟨g,vE,om⟩:=U5;have eS:=vE.place.2;have ck:=Nat.lt_of_lt_of_le ip hk.size;have JS:=ae (kK hlt);generalize ts[i]=t at*;have HG:=ae hrun;have HT:=ae hT;have mU:=ae vE;have rP:=ae om;have HK:=ae hk;have HM:=ae hm;have HD:=ae d9;have Ky:=ae nx;have Jl:=cR.kind;have nJ:=cR.line;clear hrun hT vE om hk hm d9 cR nx;have a1:((t.k:Int) !=101)=true:=by simp;omega
 obtain⟨asT,ahc,hN⟩:=Hx.r8 HG.out k1 e1 e2 e3 e4;have HN:=ae hN;clear hN k1
 conv=>arg 2;whnf
 obtain⟨q,rfl⟩:∃q:Nat,inn=(q):=⟨inn.toNat,by omega⟩;simp only [Int.toNat_natCast]at ahc HN;have IW:=mU.out.af;have iq:g.ms.length=s.af.length:=by rw[<-IW];simp
 have hq:q<g.ms.length:=by omega
 have hou:(s.af[q]'ahc).outer=g.ms[q].m.outer:=by simp[<-IW]
 obtain⟨gm,cm,nP,aAG,ag7,aAH,aAI,hcc⟩:=aR (mU.out.mem.own 2 _ rfl) (by grind);simp only at nP;have hcell:=hcc (q*5+2) (by grind);have hfl:=wV MM.cells 5 g.ms (λ_=>rfl) q 2 hq (by omega);simp only at hcell;rw[hfl]at hcell;have asY:wr.cell? ⟨gm,q*5+2,none⟩=some (.int .i64 g.ms[q].m.outer):=hcell;have b2:=mU.out.cellAt.2.2.1;rw[nP]at b2;have hql:(q:Int)<g.ms.length:=by omega
 rw[hou]at HN;generalize g.ms[q].m.outer=ou at*;clear hcc hfl hcell IW hou nP iq;go_wp2;refine Handed.intro f (by omega) (hJ f ?_);exact⟨i+1,ou,deep-1,dear,s,by go_num,rfl,by go_num,rfl,⟨by omega,by omega,by omega,HN.out,by omega,by omega,by omega,by omega,λm hm=>by have:=Ky.out m hm;omega,HT.out.alloc _,HK.out.alloc _,eM HM.out _ ck⟩⟩
