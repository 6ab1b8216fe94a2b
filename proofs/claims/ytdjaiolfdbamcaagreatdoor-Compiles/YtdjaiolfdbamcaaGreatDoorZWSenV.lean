/- The walk of helmref's sense. -/
import Derived.Test.YtdjaiolfdbamcaaGreatDoorZWGuard
import Derived.Deep.CutRange
import Derived.Deep.DrawnRows
set_option maxRecDepth 1000000
set_option maxHeartbeats 40000000
namespace Go.Proofs.YtdjaiolfdbamcaaGreatDoor
variable {s s1 s2:Hx.St}{a:Hx.Tok}{W w:World}{base bx gt:Nat}{vt:Value}{ts:List Hx.Tok}{F:Nat->Prop}
section
open Go.RowKit
theorem Tryz.infoMode:(Tryz.prog.info? 111).map (λi=>(i.zero,i.size,i.bytes))=some (some (.agg #[.string ⟨#[]⟩,.int .i64 0,.int .i64 0,.bool false,.slice none 0 0]),5,64):=by kernel_rfl
theorem Tryz.infoVar:(Tryz.prog.info? 189).map (λi=>(i.zero,i.size,i.bytes))=some (some (.agg #[.string ⟨#[]⟩,.int .i64 0,.int .i64 0]),3,32):=by kernel_rfl
theorem QI{s3 s4:Hx.St}{b d:Hx.Tok}(h1:s.aS (((s.vars.length:Nat):Int)==3) 1 a.line=s1)(h2:s1.aS (decide (0<=Hx.place a.s 0 (s1.vars.map (·.name)))) 3 a.line=s2)(h3:s2.number b (-1000)=s3)(h4:s3.number d b.n=s4):
  {s4 with vars:=s4.vars++[⟨a.s,b.n,d.n⟩]}=s.addVar a b d:=by
 have e1:(((s.vars.length):Int)==3)=(s.vars.length==3):=by rw[Bool.eq_iff_iff];simp;omega
 have e2:decide (0<=Hx.place a.s 0 (s1.vars.map (·.name)))=s.hasVar a.s:=by rw[Hx.Oy,<-h1];simp only [Hx.St.hasVar,Hx.St.bR]
 rw[e2]at h2;rw[e1]at h1;subst h1 h2 h3 h4;rfl
theorem MQ{inn deep:Int}{dear:Bool}(h1:s.aS (s.af.length==12||deep==6) 1 a.line=s1)(h2:s1.aS (s1.dx a.s) 3 a.line=s2):
  {s2 with af:=s2.af++[⟨a.s,a.line,inn,dear,[]⟩]}=s.bT a inn deep dear:=by
 have e2:s1.dx a.s=s.dx a.s:=by rw[<-h1];simp only [Hx.St.dx,Hx.St.bw]
 rw[e2]at h2;subst h1 h2;rfl
theorem FT(s:Hx.St)(a:Hx.Tok)(i d:Int)(b:Bool):(s.bT a i d b).vars=s.vars:=by simp[Hx.St.bT,Hx.St.bR]
theorem l8(s:Hx.St)(a:Hx.Tok)(i d:Int)(b:Bool):(s.bT a i d b).af=s.af++[⟨a.s,a.line,i,b,[]⟩]:=by simp[Hx.St.bT,Hx.St.bw]
theorem Dd(s:Hx.St)(a:Hx.Tok)(i d:Int)(b:Bool):(s.bT a i d b).atoms=s.atoms:=by simp[Hx.St.bT,Hx.St.bN]
theorem FU(s:Hx.St)(a:Hx.Tok)(i d:Int)(b:Bool):(s.bT a i d b).rows=s.rows:=by simp[Hx.St.bT,Hx.St.dC]
theorem JY(s:Hx.St)(a b d:Hx.Tok):(s.addVar a b d).vars.length=s.vars.length+1:=by simp[Hx.St.addVar,Hx.St.jL,Hx.St.bR]
theorem tG(s:Hx.St)(a b d:Hx.Tok):(s.addVar a b d).af=s.af:=by simp[Hx.St.addVar,Hx.St.iT,Hx.St.bw]
theorem FV(s:Hx.St)(a b d:Hx.Tok):(s.addVar a b d).atoms=s.atoms:=by simp[Hx.St.addVar,Hx.St.iU,Hx.St.bN]
theorem JZ(s:Hx.St)(a b d:Hx.Tok):(s.addVar a b d).rows=s.rows:=by simp[Hx.St.addVar,Hx.St.oF,Hx.St.dC]
theorem db.tv(h:db w base bx vt gt ts s F)(n:Nat):db (w.setCell ⟨bx,4,none⟩ (.int .i64 n)) base bx vt gt ts {s with rows:=n} F/\F bx:=by
 obtain⟨g,h,hF⟩:=h;have ny:(bL bx vt g s)[0]?=some (Rw.box 117 bx [vt,g.vv,g.vm,g.va,.int .i64 s.rows,.int .i64 s.code,.int .i64 s.line]):=rfl;have m:=h.mem.store (j:=4) ny rfl (.int .i64 n);refine⟨⟨g,⟨?_,h.af,h.atoms,h.slices,h.guards,by simp only [World.setCell,Array.size_modify];exact h.low⟩,?_⟩,h.vF hF⟩
 ·grind[bL,Rw.box]
 ·intro k hk
  obtain⟨i,r,hr,e⟩:=hk
  match i,hr with
  |0,hr=>cases hr;exact hF k ⟨0,_,rfl,e⟩
  |i+1,hr=>exact hF k ⟨i+1,r,hr,e⟩
structure QG(ts:List Hx.Tok)(w:World)(base bx:Nat)(vt:Value)(gt:Nat)(F:Nat->Prop)(S:Hx.St)(k i:Nat)(inn deep:Int)(dear:Bool)(s:Hx.St)(wr:World):Prop where
 il:i<=ts.length
 d1:-(i:Int)<=deep
 d2:deep<=i
 run:Hx.dk k (ts.drop i) inn deep dear s=some S
 nv:s.vars.length<=i
 nm:s.af.length<=i
 na:s.atoms.length<=i
 nr:s.rows<=i
 nx:∀m∈s.af,m.rows.length<=i
 jU:db wr base bx vt gt ts s (fresh F w)
 kp:Kp F w wr
 tok:br wr gt ts
def JI(ts:List Hx.Tok)(w:World)(base bx:Nat)(vt:Value)(gt:Nat)(F:Nat->Prop)(S:Hx.St)(k:Nat)(v3 v4 v5 v6:Value)(wr:World):Prop:=
 ∃(i:Nat)(inn deep:Int)(dear:Bool)(s:Hx.St),v3=.int .i64 i/\v4=.int .i64 inn/\v5=.int .i64 deep/\v6=.bool dear/\QG ts w base bx vt gt F S k i inn deep dear s wr
theorem eM{wr:World}(h:br wr gt ts)(o:Obj)(hl:gt<wr.heap.size):br (wr.alloc o) gt ts:=h.kept (F:=λ_=>False) ((Kp.refl _ _).alloc o) hl (λh=>h)
theorem tF(h:br W gt ts){i:Nat}(hi:i<ts.length){t:Hx.Tok}(e:ts[i]=t):
  W.cell? ⟨gt,i*4,none⟩=some (.int .u8 t.k)/\W.cell? ⟨gt,i*4+1,none⟩=some (.string t.s)/\W.cell? ⟨gt,i*4+2,none⟩=some (.int .i64 t.n)/\W.cell? ⟨gt,i*4+3,none⟩=some (.int .i64 t.line):=by
 have:=h i hi;grind
theorem db.setOther(h:db w base bx vt gt ts s F)(p:Addr)(hp:¬F p.block)(u:Value):db (w.setCell p u) base bx vt gt ts s F:=by
 obtain⟨g,h1,h2⟩:=h;refine⟨g,⟨h1.mem.kept ((Kp.refl (λk=>k=p.block) w).setCell (.inl rfl) u) (λk hk e=>hp (e▸h2 k hk)),h1.af,h1.atoms,h1.slices,h1.guards,by simpa[World.setCell]using h1.low⟩,h2⟩
theorem br.setOther(h:br w gt ts)(p:Addr)(hp:gt≠p.block)(hl:gt<w.heap.size)(u:Value):br (w.setCell p u) gt ts:=
 h.kept (F:=λk=>k=p.block) ((Kp.refl (λk=>k=p.block) w).setCell (p:=p) (.inl rfl) u) hl hp
theorem fu{w2:World}{G:Nat->Prop}(hG:∀k,G k->fresh F w k)(hk:Kp F w W)(h:l5 W base bx vt gt ts G w2 s2)(hm:br W gt ts)(ip:gt<w.heap.size)(qp:¬F gt):
  db w2 base bx vt gt ts s2 (fresh F w)/\Kp F w w2/\br w2 gt ts:=by
 refine⟨h.1.mono (λk hq=>hq.elim (hG k) (λh=>.inr (Nat.le_trans hk.size h))),hk.trans h.2 hG,?_⟩;exact hm.kept h.2 (Nat.lt_of_lt_of_le ip hk.size) (λh=>(hG _ h).elim qp (λh=>by omega))
def jC:Code->Option Code
 | .loop c=>some c
 | .seq a b=>match jC a with
  |some c=>some c
  |none=>jC b
 | .block _ c=>jC c
 | .scope c=>jC c
 | .cond _ a b=>match jC a with
  |some c=>some c
  |none=>jC b
 |_=>none
noncomputable def mP:Code:=((Tryz.f93.body.bind jC).getD .skip)
def lO(n:Nat):Code->Option Code
 | .region k ops b=>match Nat.beq k n with
  |true=>some (.region k ops b)
  |false=>none
 | .loop c=>lO n c
 | .seq a b=>match lO n a with
  |some c=>some c
  |none=>lO n b
 | .block _ c=>lO n c
 | .scope c=>lO n c
 | .cond _ a b=>match lO n a with
  |some c=>some c
  |none=>lO n b
 |_=>none
noncomputable def JV (n:Nat):Code:=((Tryz.f93.body.bind (lO n)).getD .skip)
def SJ(bx gt m bP:Nat)(R:Nat->Value->Value->Value->Value->World->Prop)(J:Nat->Act->World->Prop):Prop:=
 ∀(k:Nat){u3 u4 u5 u6 u7 u8 u9 XJ XK u16 XL XM XN XO XP XQ XR XS XT XU XV XW XX XY XZ u32 X1 X2 X3 X4 X6 X7 X8 X9 Ya Yb Yc Yd Ye Yf Yg Yh Yi Yj Yk Yl Ym Yn Yo Yp Yq Yr Ys Yt Yu Yv Yw u64 Yx Yy Yz YA YC YD YE YF YG YH YI YJ YK YL YM YN YO YP YQ YR YS YT YU YV YW YX YY YZ Y4 Y5 Y6 Y7 Y8 Y9 Za Ac Ad Ae Af Ag Ah Ai Aj Ak Al Am Ao Ap Aq Ar As At Au Av Ax Ay Az AA AB AC AE AG AH AJ AL AO AP AR AU AV AW AX AY AZ A1 A2 A3 A4 A5 A6 A7 A8 Ba Bb Bc Bd Be Bf Bg Bh Bi Bj Bk Bl Bm Bn Bo Bp Bq Br Bt Bu Bv Bw Bx Bz BA BB BD BF BG BH BJ BK BL BM BN BO BP BQ BR BS BT BU BV BW BX BZ B0 B1 B4 B5 B6 B8 B9 Ca Cb Cc Ce Cf Cg Ch Ci Cj Ck Cl Cm Cn Co Cp Cq Cr Cs Ct Cu Cv Cw Cy Cz CA CC CD CH CJ CL CN CO CQ CR CV CW CX CY CZ C1 C3 C4 C5 C6 C7 C8 C9 Da Db Dc:Value}{w':World},R k u3 u4 u5 u6 w'->J k ⟨#[.pointer (some ⟨bx,0,none⟩),undef,.slice (some ⟨gt,0,none⟩) m bP,u3,u4,u5,u6,u7,u8,u9,XJ,.pointer (some ⟨bx,0,none⟩),.pointer (some ⟨bx,0,none⟩),.pointer (some ⟨bx,0,none⟩),.slice (some ⟨gt,0,none⟩) m bP,XK,u16,XL,XM,XN,XO,XP,XQ,XR,XS,XT,XU,XV,XW,XX,XY,XZ,u32,X1,X2,X3,X4,X6,X7,X8,X9,Ya,Yb,Yc,Yd,Ye,Yf,Yg,Yh,Yi,Yj,Yk,Yl,Ym,Yn,Yo,Yp,Yq,Yr,Ys,Yt,Yu,Yv,Yw,u64,Yx,Yy,Yz,YA,YC,YD,YE,YF,YG,YH,YI,YJ,YK,YL,YM,YN,YO,YP,YQ,YR,YS,YT,YU,YV,YW,YX,YY,YZ,Y4,Y5,Y6,Y7,Y8,Y9,Za,Ac,Ad,Ae,Af,Ag,Ah,Ai,Aj,Ak,Al,Am,Ao,Ap,Aq,Ar,As,At,Au,Av,Ax,Ay,Az,AA,AB,AC,AE,AG,AH,AJ,AL,AO,AP,AR,AU,AV,AW,AX,AY,AZ,A1,A2,A3,A4,A5,A6,A7,A8,Ba,Bb,Bc,Bd,Be,Bf,Bg,Bh,Bi,Bj,Bk,Bl,Bm,Bn,Bo,Bp,Bq,Br,Bt,Bu,Bv,Bw,Bx,Bz,BA,BB,BD,BF,BG,BH,BJ,BK,BL,BM,BN,BO,BP,BQ,BR,BS,BT,BU,BV,BW,BX,BZ,B0,B1,B4,B5,B6,B8,B9,Ca,Cb,Cc,Ce,Cf,Cg,Ch,Ci,Cj,Ck,Cl,Cm,Cn,Co,Cp,Cq,Cr,Cs,Ct,Cu,Cv,Cw,Cy,Cz,CA,CC,CD,CH,CJ,CL,CN,CO,CQ,CR,CV,CW,CX,CY,CZ,C1,C3,C4,C5,C6,C7,C8,C9,Da,Db,Dc],[]⟩ w'
theorem JX{P:Program}{c:Code}{Q:Exit->Act->World->Prop}{a:Act}(h:∀K:Act->World->Prop,(∀a' w',Q .normal a' w'->K a' w')->Code.wp P c (Exit.then K (λ_ _ _=>False)) a w):Code.wp P c Q a w:=
 wp_mono (h (λa' w'=>Q .normal a' w') (λ_ _ h=>h)) (λe _ _ h=>by cases e<;>first|exact h|exact(h:False).elim)
end
section
open Go.RowKit
attribute [local go_sem↓] Go.wp_at_zero Go.wp_at_succ
variable {v1 v5 v7 v8 v9 v10 v11 v12 v13 v14 v15 v16 v17 v18 v19 v20 v21 v22 v23 v24 v25 v26 v27 v28 v29 v30 v31 v32 v33 v34 v35 v36 v37 v38 v39 v40 v41 v42 v43 v44 v45 v46 v47 v48 v49 v50 v51 v52 v53 v54 v55 v56 v57 v58 v59 v60 v61 v62 v63 v64 v65 v66 v67 v68 v69 v70 v71 v72 v73 v74 v75 v76 v77 v78 v79 v80 v81 v82 v83 v84 v85 v86 v87 v88 v89 v90 v91 v92 v93 v94 v95 v96 v97 v98 v99 VQ VR VS VT VU v105 VV v107 VW v109 VX VY VZ V0 V1 V2 V4 v117 V5 V6 V7 V8 V9 Wa v124 Wb Wc v127 Wd Wf v130 v131 Wh Wi Wj Wk Wl Wm v138 v139 Wn v141 Wo v143 Wp v145 v146 aco v148 acp acq acr v152 acs v154 acu acv v157 acw v159 v160 acy v162 acz v164 acA acB v167 v168 acC Wq v171 Ws v173 Wt v175 Wu Wv Ww Wx Wy Wz v182 v183 WA WB WC WD WE WF WG WH WI v193 v194 WJ v196 WK v198 WL WM v201 WN v203 WO WQ v206 WR v208 WS v210 WT v212 WU WV WW WX WY v218 WZ W4 W5 v222 W7 W8 Xa v226 v227 v228 v229 Xb Xc v232 v233 v234 acD v236 acE acF acG acH acI acJ acK acL acM acN acO acP acQ:Value}
theorem QH(w:World)(base bx gt bP:Nat)(ts:List Hx.Tok)(F:Nat->Prop)(hl:ts.length<=3001)(ip:gt<w.heap.size)(qp:¬F gt)(i:Nat)(inn:Int)(dear:Bool)(s2 s3:Hx.St)(ta:Hx.Tok)(W:World)(hT:db W base bx (.slice (some ⟨gt,0,none⟩) ts.length bP) gt ts s2 (fresh F w))(hk:Kp F w W)(hm:br W gt ts)(XD:i+3<=ts.length)(G1:∀h:i+1<ts.length,ts[i+1]=ta)(Ra:s2.af.length<=10000)(hS3:{s2 with af:=s2.af++[⟨ta.s,ta.line,inn,dear,[]⟩]}=s3)
  (Q:Exit->Act->World->Prop) (hK:∀⦃ast asu asv asw asx asy asz asA asB asC asD asE asF asG asH asI asJ asK asL asM asN asO asP asQ:Value⦄⦃wy:World⦄,db wy base bx (.slice (some ⟨gt,0,none⟩) ts.length bP) gt ts s3 (fresh F w)/\Kp F w wy/\br wy gt ts->Q .normal ⟨#[.pointer (some ⟨bx,0,none⟩),v1,.slice (some ⟨gt,0,none⟩) ts.length bP,.int .i64 i,.int .i64 inn,v5,.bool dear,v7,v8,v9,v10,v11,v12,v13,v14,v15,v16,v17,v18,v19,v20,v21,v22,v23,v24,v25,v26,v27,v28,v29,v30,v31,v32,v33,v34,v35,v36,v37,v38,v39,v40,v41,v42,v43,v44,v45,v46,v47,v48,v49,v50,v51,v52,v53,v54,v55,v56,v57,v58,v59,v60,v61,v62,v63,v64,v65,v66,v67,v68,v69,v70,v71,v72,v73,v74,v75,v76,v77,v78,v79,v80,v81,v82,v83,v84,v85,v86,v87,v88,v89,v90,v91,v92,v93,v94,v95,v96,v97,v98,v99,VQ,VR,VS,VT,VU,v105,VV,v107,VW,v109,VX,VY,VZ,V0,V1,V2,V4,v117,V5,V6,V7,V8,V9,Wa,v124,Wb,Wc,v127,Wd,Wf,v130,v131,Wh,Wi,Wj,Wk,Wl,Wm,v138,v139,Wn,v141,Wo,v143,Wp,v145,ast,asu,asv,asw,asx,asy,asz,asA,asB,asC,asD,asE,asF,asG,asH,asI,asJ,asK,asL,asM,asN,asO,asP,asQ,Wq,v171,Ws,v173,Wt,v175,Wu,Wv,Ww,Wx,Wy,Wz,v182,v183,WA,WB,WC,WD,WE,WF,WG,WH,WI,v193,v194,WJ,v196,WK,v198,WL,WM,v201,WN,v203,WO,WQ,v206,WR,v208,WS,v210,WT,v212,WU,WV,WW,WX,WY,v218,WZ,W4,W5,v222,W7,W8,Xa,v226,v227,v228,v229,Xb,Xc,v232,v233,v234,acD,v236,acE,acF,acG,acH,acI,acJ,acK,acL,acM,acN,acO,acP,acQ],[]⟩ wy):
  Code.wp Tryz.prog (JV 25) Q ⟨#[.pointer (some ⟨bx,0,none⟩),v1,.slice (some ⟨gt,0,none⟩) ts.length bP,.int .i64 i,.int .i64 inn,v5,.bool dear,v7,v8,v9,v10,v11,v12,v13,v14,v15,v16,v17,v18,v19,v20,v21,v22,v23,v24,v25,v26,v27,v28,v29,v30,v31,v32,v33,v34,v35,v36,v37,v38,v39,v40,v41,v42,v43,v44,v45,v46,v47,v48,v49,v50,v51,v52,v53,v54,v55,v56,v57,v58,v59,v60,v61,v62,v63,v64,v65,v66,v67,v68,v69,v70,v71,v72,v73,v74,v75,v76,v77,v78,v79,v80,v81,v82,v83,v84,v85,v86,v87,v88,v89,v90,v91,v92,v93,v94,v95,v96,v97,v98,v99,VQ,VR,VS,VT,VU,v105,VV,v107,VW,v109,VX,VY,VZ,V0,V1,V2,V4,v117,V5,V6,V7,V8,V9,Wa,v124,Wb,Wc,v127,Wd,Wf,v130,v131,Wh,Wi,Wj,Wk,Wl,Wm,v138,v139,Wn,v141,Wo,v143,Wp,v145,v146,aco,v148,acp,acq,acr,v152,acs,v154,acu,acv,v157,acw,v159,v160,acy,v162,acz,v164,acA,acB,v167,v168,acC,Wq,v171,Ws,v173,Wt,v175,Wu,Wv,Ww,Wx,Wy,Wz,v182,v183,WA,WB,WC,WD,WE,WF,WG,WH,WI,v193,v194,WJ,v196,WK,v198,WL,WM,v201,WN,v203,WO,WQ,v206,WR,v208,WS,v210,WT,v212,WU,WV,WW,WX,WY,v218,WZ,W4,W5,v222,W7,W8,Xa,v226,v227,v228,v229,Xb,Xc,v232,v233,v234,acD,v236,acE,acF,acG,acH,acI,acJ,acK,acL,acM,acN,acO,acP,acQ],[]⟩ W:=by
 have rF:=Nat.lt_of_lt_of_le ip hk.size;obtain⟨x0,x1,x2,x3⟩:=tF hm (show i+1<ts.length by omega) (G1 _);have amc:(i:Int)+1<ts.length:=by omega
 have dA:0<=(i:Int)+1:=by omega
 have w1':IntKind.i64.wrap ((i:Int)+1)=(i:Int)+1:=IntWalk.i64_in _ (by omega);have t1':((i:Int)+1).toNat=i+1:=by omega
 obtain⟨⟨vv6,vm6,va6,vP,amu⟩,T6,F6⟩:=hT;have hO6:=T6.mem.own 2 _ rfl;simp only at hO6;obtain⟨av6,cv6,ag9,_,_⟩:=dv hO6;subst ag9;have u1:=T6.cellAt.2.2.1;simp only at u1;have uf:=T6.free 2;have ag6:vP.length=s2.af.length:=by
  have h1:=congrArg List.length T6.af;simpa using h1
 have aAt:vP.length<=10000:=by omega
 have HO6:=ae hO6;have HT7:=ae T6;have HF7:=ae F6;have yg:=ae hk;have HMW:=ae hm;have nB:=ae qp;have Oc:=ae hS3;have HQ:=ae hK;have amy:=T6.place.2;have aez:=T6.low;clear hO6 T6 F6 ag6 hk hm qp hS3 hK;obtain⟨i0,dl,L8,Jg,Jh⟩:=info_parts Tryz.infoMode;refine JX (λK NM=>?_);have FY:=ae NM;clear NM
 conv=>arg 2;whnf
 go_region_law (refine aD rfl _ _ 114 rfl base 111 i0 _ 5 64 Tryz.underlying114 dl L8 Jg Jh rfl (by decide) _ vP.length (vP.flatMap MM.cells) rfl (by exact ah HO6.out ⟨rfl,rfl,rfl,by simp,λk hk=>Below.heap_alloc _ _ _ hk⟩) ⟨_,0,none⟩ 1 1 [.string ta.s,.int .i64 ta.line,.int .i64 inn,.bool dear,.slice none 0 0] rfl rfl (aF _ _ (by simp) [_,_,_,_,_] _) (by intro u hu;simp at hu;rcases hu with rfl|rfl|rfl|rfl|rfl<;>rfl) (by unfold maxLen;omega) (by omega) (by simp;omega) ?_;intro v' w7 bE ax bu;obtain⟨Ge,Gf,rfl,_,_⟩:=dv bE;obtain⟨jy,e5,e6⟩:=TabIs.bT (x:=⟨ta.s,ta.line,inn,dear,[]⟩) (HT7.out.below (by exact⟨rfl,rfl,rfl,by simp,λk hk=>Below.heap_alloc _ _ _ hk⟩)) HF7.out rfl ax bE bu;have jc:=ae jy;clear jy bE ax bu)
 all_goals
  have Zb:=ae (fu (λ_ h=>h) (by exact⟨yg.out.os,yg.out.tape,yg.out.output,(yg.out.alloc _).size,(yg.out.alloc _).block⟩) jc.out (by exact eM HMW.out _ rF) ip nB.out);rw[Oc.out]at Zb;clear jc e5 e6;exact FY.out _ _ (HQ.out Zb.out)
end
section
open Go.RowKit
attribute [local go_sem↓] Go.wp_at_zero Go.wp_at_succ
variable {u7 u8 u9 XJ XK u16 XL XM XN XO XP XQ XR XS XT XU XV XW XX XY XZ u32 X1 X2 X3 X4 X6 X7 X8 X9 Ya Yb Yc Yd Ye Yf Yg Yh Yi Yj Yk Yl Ym Yn Yo Yp Yq Yr Ys Yt Yu Yv Yw u64 Yx Yy Yz YA YC YD YE YF YG YH YI YJ YK YL YM YN YO YP YQ YR YS YT YU YV YW YX YY YZ Y4 Y5 Y6 Y7 Y8 Y9 Za Ac Ad Ae Af Ag Ah Ai Aj Ak Al Am Ao Ap Aq Ar As At Au Av Ax Ay Az AA AB AC AE AG AH AJ AL AO AP AR AU AV AW AX AY AZ A1 A2 A3 A4 A5 A6 A7 A8 Ba Bb Bc Bd Be Bf Bg Bh Bi Bj Bk Bl Bm Bn Bo Bp Bq Br Bt Bu Bv Bw Bx Bz BA BB BD BF BG BH BJ BK BL BM BN BO BP BQ BR BS BT BU BV BW BX BZ B0 B1 B4 B5 B6 B8 B9 Ca Cb Cc Ce Cf Cg Ch Ci Cj Ck Cl Cm Cn Co Cp Cq Cr Cs Ct Cu Cv Cw Cy Cz CA CC CD CH CJ CL CN CO CQ CR CV CW CX CY CZ C1 C3 C4 C5 C6 C7 C8 C9 Da Db Dc:Value}
theorem Qz(w:World)(base bx gt bP:Nat)(ts:List Hx.Tok)(F:Nat->Prop)(hl:ts.length<=3001)(cR:∀t∈ts,Hx.lD t)(ip:gt<w.heap.size)(qp:¬F gt)(S:Hx.St)(f i:Nat)(inn deep:Int)(dear:Bool)(s:Hx.St)(wr:World)(hI:QG ts w base bx (.slice (some ⟨gt,0,none⟩) ts.length bP) gt F S (f+1) i inn deep dear s wr)(hlt:i<ts.length)(k1:¬ts[i].k=101)(e1:(ts[i].s.toList==Hx.eE)=true)
  (R:Ending->World->Prop) (J:Nat->Act->World->Prop) (K:Act->World->Prop) (hJ:SJ bx gt ts.length bP (JI ts w base bx (.slice (some ⟨gt,0,none⟩) ts.length bP) gt F S) J) (hK:∀a' w',Handed J (f+1) a' w'->K a' w'):
  Code.wp Tryz.prog mP (Exit.then K (Exit.inBlock 0 (bodyPost Tryz.prog Tryz.f93 R))) ⟨#[.pointer (some ⟨bx,0,none⟩),undef,.slice (some ⟨gt,0,none⟩) ts.length bP,.int .i64 i,.int .i64 inn,.int .i64 deep,.bool dear,u7,u8,u9,XJ,.pointer (some ⟨bx,0,none⟩),.pointer (some ⟨bx,0,none⟩),.pointer (some ⟨bx,0,none⟩),.slice (some ⟨gt,0,none⟩) ts.length bP,XK,u16,XL,XM,XN,XO,XP,XQ,XR,XS,XT,XU,XV,XW,XX,XY,XZ,u32,X1,X2,X3,X4,X6,X7,X8,X9,Ya,Yb,Yc,Yd,Ye,Yf,Yg,Yh,Yi,Yj,Yk,Yl,Ym,Yn,Yo,Yp,Yq,Yr,Ys,Yt,Yu,Yv,Yw,u64,Yx,Yy,Yz,YA,YC,YD,YE,YF,YG,YH,YI,YJ,YK,YL,YM,YN,YO,YP,YQ,YR,YS,YT,YU,YV,YW,YX,YY,YZ,Y4,Y5,Y6,Y7,Y8,Y9,Za,Ac,Ad,Ae,Af,Ag,Ah,Ai,Aj,Ak,Al,Am,Ao,Ap,Aq,Ar,As,At,Au,Av,Ax,Ay,Az,AA,AB,AC,AE,AG,AH,AJ,AL,AO,AP,AR,AU,AV,AW,AX,AY,AZ,A1,A2,A3,A4,A5,A6,A7,A8,Ba,Bb,Bc,Bd,Be,Bf,Bg,Bh,Bi,Bj,Bk,Bl,Bm,Bn,Bo,Bp,Bq,Br,Bt,Bu,Bv,Bw,Bx,Bz,BA,BB,BD,BF,BG,BH,BJ,BK,BL,BM,BN,BO,BP,BQ,BR,BS,BT,BU,BV,BW,BX,BZ,B0,B1,B4,B5,B6,B8,B9,Ca,Cb,Cc,Ce,Cf,Cg,Ch,Ci,Cj,Ck,Cl,Cm,Cn,Co,Cp,Cq,Cr,Cs,Ct,Cu,Cv,Cw,Cy,Cz,CA,CC,CD,CH,CJ,CL,CN,CO,CQ,CR,CV,CW,CX,CY,CZ,C1,C3,C4,C5,C6,C7,C8,C9,Da,Db,Dc],[]⟩ wr:=by
 obtain⟨il,d1,d2,hrun,nv,nm,na,nr,nx,hT,hk,hm⟩:=hI;have pf:=ae cR;have nB:=ae qp;clear cR qp;have d9:=List.drop_eq_getElem_cons hlt;rw[d9]at hrun;obtain⟨c0,c1,c2,c3⟩:=hm i hlt;have cR:=pf.out ts[i] (List.getElem_mem hlt);have U5:=hT;obtain⟨g,vE,om⟩:=U5;have eS:=vE.place.2;have ck:=Nat.lt_of_lt_of_le ip hk.size;have JS:=ae (kK hlt);generalize ts[i]=t at*;have HG:=ae hrun;have HT:=ae hT;have mU:=ae vE;have rP:=ae om;have HK:=ae hk;have HM:=ae hm;have HD:=ae d9;have Ky:=ae nx;have Jl:=cR.kind;have nJ:=cR.line;clear hrun hT vE om hk hm d9 cR nx;have a1:((t.k:Int) !=101)=true:=by simp;omega
 obtain⟨ta,tb,tc,td,te,r',PJ,hN⟩:=Hx.wI HG.out k1 e1;have HN:=ae hN;have HR:=ae PJ;clear hN PJ k1
 conv=>arg 2;whnf
 have gg:∀k,ts[i+1+k]?=(ta::tb::tc::td::te::r')[k]?:=λk=>by rw[<-HR.out,List.getElem?_drop]
 have hl6:i+6<=ts.length:=by have:=congrArg List.length HR.out;simp at this;omega
 have G1:=ae (l6 (show i+1<ts.length by omega) (gg 0));have G2:=ae (l6 (show i+2<ts.length by omega) (gg 1));have G4:=ae (l6 (show i+4<ts.length by omega) (gg 3));have H6:=ae (show ts.drop (i+6)=r' by have e:ts.drop (i+6)=(ts.drop (i+1)).drop 5:=by{rw[List.drop_drop]};rw[e,HR.out];rfl);clear gg;have MP:=pf.out ta (by rw[<-G1.out];simp);have acR:=pf.out tb (by rw[<-G2.out];simp);have acS:=pf.out td (by rw[<-G4.out];simp);have ka:=MP.kind;have kb:=acR.kind;have kd:=acS.kind;have la:=MP.line;have lb1:=acR.lo;have lb2:=acR.hi;have ld1:=acS.lo;have ld2:=acS.hi;clear MP acR acS;obtain⟨av,cv,nR,_,_⟩:=dv (mU.out.mem.own 1 _ rfl);simp only at nR;have b1:=mU.out.cellAt.2.1;rw[nR]at b1;clear nR;obtain⟨x0,x1,x2,x3⟩:=tF HM.out (by omega) G1.out;have amc:(i:Int)+1<ts.length:=by omega
 have zr:(i:Int)+2<ts.length:=by omega
 have ak6:(i:Int)+4<ts.length:=by omega
 have dA:0<=(i:Int)+1:=by omega
 have eg:0<=(i:Int)+2:=by omega
 have hz4:0<=(i:Int)+4:=by omega
 have w1':IntKind.i64.wrap ((i)+1)=(i)+1:=IntWalk.i64_in _ (by omega);have w2':IntKind.i64.wrap ((i)+2)=(i)+2:=IntWalk.i64_in _ (by omega);have w4':IntKind.i64.wrap ((i)+4)=(i)+4:=IntWalk.i64_in _ (by omega);have t1':((i:Int)+1).toNat=i+1:=by omega
 have t2':((i:Int)+2).toNat=i+2:=by omega
 have t4':((i:Int)+4).toNat=i+4:=by omega
 have pQ:¬fresh F w gt:=λh=>h.elim nB.out (λh=>by omega)
 have lZ:Below wr.heap.size wr (wr.alloc (.cells #[.int .u8 t.k,.string t.s,.int .i64 t.n,.int .i64 t.line] 130)):=(Below.refl _ _).alloc (Nat.le_refl _) _;have YB:=ae ((lZ.cell eS).trans b1);have Y0:=ae ((lZ.cell ck).trans x0);have Y1:=ae ((lZ.cell ck).trans x1);have Y2:=ae ((lZ.cell ck).trans x2);have Y3:=ae ((lZ.cell ck).trans x3);have NW:=ae (Nat.lt_of_lt_of_le ck lZ.size);have wS:=ae (HT.out.below lZ);have five:(1)<5:=by omega
 clear lZ;go_wp2_with fail
 go_region_held3 (λW=>W.cell? ⟨bx,1,none⟩=some (.slice av s.vars.length cv)/\W.cell? ⟨gt,(i+1)*4,none⟩=some (.int .u8 ta.k)/\W.cell? ⟨gt,(i+1)*4+1,none⟩=some (.string ta.s)/\W.cell? ⟨gt,(i+1)*4+2,none⟩=some (.int .i64 ta.n)/\W.cell? ⟨gt,(i+1)*4+3,none⟩=some (.int .i64 ta.line)) (first|go_keep|(exact⟨by assumption,by assumption,by assumption,by assumption,by assumption⟩))
  ((go_at_call 140;refine(dI _ base bx (.slice (some ⟨gt,0,none⟩) ts.length bP) gt ts s (fresh F w) _ 1 ta ?_).mono ?_;exact wS.out.below ⟨rfl,rfl,rfl,Nat.le_refl _,λ_ _=>rfl⟩;rintro e w1 ⟨rfl,dw,iH⟩;have z1:=(iH 1 five).trans YB.out;have z4:=(dw.2.cell NW.out pQ).trans Y0.out;have z5:=(dw.2.cell NW.out pQ).trans Y1.out;have z6:=(dw.2.cell NW.out pQ).trans Y2.out;have z7:=(dw.2.cell NW.out pQ).trans Y3.out))
 have uN:=ae (fu (λ_ h=>h) ((HK.out.alloc _).drew) dw (eM HM.out _ ck) ip nB.out);have DK:=Nat.lt_of_lt_of_le ip uN.out.2.1.size;generalize gI:s.aS (((s.vars.length:Nat):Int)==3) 1 ta.line=s1 at*;have tH:=ae gI;have nG:s1.vars.length<=10000:=by rw[<-gI,Hx.St.bR];omega
 clear dw iH z1 gI YB Y0 Y1 Y2 Y3 wS x0 x1 x2 x3 b1;have HZ:Hid (_/\_/\_/\_):=⟨z4,z5,z6,z7⟩;go_wp2_with fail
 go_region_held3 (λW=>W.cell? ⟨gt,(i+1)*4,none⟩=some (.int .u8 ta.k)/\W.cell? ⟨gt,(i+1)*4+1,none⟩=some (.string ta.s)/\W.cell? ⟨gt,(i+1)*4+2,none⟩=some (.int .i64 ta.n)/\W.cell? ⟨gt,(i+1)*4+3,none⟩=some (.int .i64 ta.line)) (first|go_keep|(exact⟨by assumption,by assumption,by assumption,by assumption⟩))
  (first
   |(go_at_call 141;refine(yJ _ base bx (.slice (some ⟨gt,0,none⟩) ts.length bP) gt ts s1 (fresh F w) ta.s ?_ nG).mono ?_;exact uN.out.1.below ⟨rfl,rfl,rfl,Nat.le_refl _,λ_ _=>rfl⟩;rintro e w' ⟨rfl,rfl⟩)
   |(go_at_call 140;refine(dI _ base bx (.slice (some ⟨gt,0,none⟩) ts.length bP) gt ts s1 (fresh F w) _ 3 ta ?_).mono ?_;exact uN.out.1.below ⟨rfl,rfl,rfl,Nat.le_refl _,λ_ _=>rfl⟩;rintro e w2 ⟨rfl,fv,lQ⟩;have y4:=(fv.2.cell DK pQ).trans HZ.out.1;have y5:=(fv.2.cell DK pQ).trans HZ.out.2.1;have y6:=(fv.2.cell DK pQ).trans HZ.out.2.2.1;have y7:=(fv.2.cell DK pQ).trans HZ.out.2.2.2))
 have JT:=ae (fu (λ_ h=>h) uN.out.2.1.drew fv uN.out.2.2 ip nB.out);have rF:=Nat.lt_of_lt_of_le ip JT.out.2.1.size;generalize jT:s1.aS (decide (0<=Hx.place ta.s 0 (s1.vars.map (·.name)))) 3 ta.line=s2 at*;have Dl:=ae jT;clear fv lQ jT HZ z4 z5 z6 z7;obtain⟨p0,p1,p2,p3⟩:=tF JT.out.2.2 (by omega) G2.out;go_wp2_with fail;have Jn:¬tight (fresh F w) w2 w2.heap.size:=λh=>Nat.lt_irrefl _ h.2
 refine(rq _ base bx (.slice (some ⟨gt,0,none⟩) ts.length bP) gt ts s2 (tight (fresh F w) w2) tb (-1000) (JT.out.1.tight.alloc _)).mono ?_;rintro e w3 ⟨rfl,ft⟩;have NX3:=ae (fu (λ_ h=>h.1) (JT.out.2.1.alloc _) ft (eM JT.out.2.2 _ rF) ip nB.out);have O9:=Nat.lt_of_lt_of_le ip NX3.out.2.1.size;have eC:w2.heap.size<w3.heap.size:=Nat.lt_of_lt_of_le (by simp) ft.2.size;have q0:w3.cell? ⟨w2.heap.size,0,none⟩=some (.string ta.s):=by rw[ft.2.cell (by simp) Jn];simp
 have q1:w3.cell? ⟨w2.heap.size,1,none⟩=some (.int .i64 0):=by rw[ft.2.cell (by simp) Jn];simp
 have q2:w3.cell? ⟨w2.heap.size,2,none⟩=some (.int .i64 0):=by rw[ft.2.cell (by simp) Jn];simp
 have qf1:w3.frozen? ⟨w2.heap.size,1,none⟩=false:=by rw[ft.2.frozen (by simp) Jn];simp
 have qf2:w3.frozen? ⟨w2.heap.size,2,none⟩=false:=by rw[ft.2.frozen (by simp) Jn];simp
 have nL:=ae ft.1;generalize oS:s2.number tb (-1000)=s3 at*;have Oc:=ae oS;clear ft oS p0 p1 p2 p3;go_wp2_with fail;have nG3:¬fresh (tight (fresh F w) w2) (w2.alloc (.cells #[.string ta.s,.int .i64 0,.int .i64 0] 189)) w2.heap.size:=λh=>h.elim Jn (λh=>by simp at h;omega)
 have sG3:∀k,fresh (tight (fresh F w) w2) (w2.alloc (.cells #[.string ta.s,.int .i64 0,.int .i64 0] 189)) k->fresh F w k:=λk h=>h.elim (λh=>h.1) (λh=>.inr (Nat.le_trans JT.out.2.1.size (Nat.le_trans (by simp) h)))
 have PS:=ae (nL.out.setOther ⟨w2.heap.size,1,none⟩ nG3 (.int .i64 tb.n));have ne4:gt≠w2.heap.size:=by omega
 have HM4:=ae (NX3.out.2.2.setOther ⟨w2.heap.size,1,none⟩ ne4 O9 (.int .i64 tb.n));have pT:=ae (NX3.out.2.1.setCell (p:=⟨w2.heap.size,1,none⟩) (.inr JT.out.2.1.size) (.int .i64 tb.n));obtain⟨p0,p1,p2,p3⟩:=tF HM4.out (by omega) G4.out;have r0:(w3.setCell ⟨w2.heap.size,1,none⟩ (.int .i64 tb.n)).cell? ⟨w2.heap.size,0,none⟩=some (.string ta.s):=by rw[bX _ _ _ _ (by simp)];exact q0
 have r1:(w3.setCell ⟨w2.heap.size,1,none⟩ (.int .i64 tb.n)).cell? ⟨w2.heap.size,1,none⟩=some (.int .i64 tb.n):=World.cell?_setCell_same' _ _ _ (by grind);have r2:(w3.setCell ⟨w2.heap.size,1,none⟩ (.int .i64 tb.n)).cell? ⟨w2.heap.size,2,none⟩=some (.int .i64 0):=by rw[bX _ _ _ _ (by simp)];exact q2
 have rf:(w3.setCell ⟨w2.heap.size,1,none⟩ (.int .i64 tb.n)).frozen? ⟨w2.heap.size,2,none⟩=false:=by simpa using qf2
 have ahb:(w3.setCell ⟨w2.heap.size,1,none⟩ (.int .i64 tb.n)).heap.size=w3.heap.size:=by simp[]
 generalize hW4:w3.setCell ⟨w2.heap.size,1,none⟩ (.int .i64 tb.n)=w4 at*;generalize fresh (tight (fresh F w) w2) (w2.alloc (.cells #[.string ta.s,.int .i64 0,.int .i64 0] 189))=G3 at*;have er:w2.heap.size<w4.heap.size:=by rw[ahb];exact eC
 have hg4:gt<w4.heap.size:=by rw[ahb];exact O9
 clear hW4 ahb q0 q1 q2 qf1 qf2 nL NX3 Jn;have nGg:¬G3 gt:=λh=>pQ (sG3 _ h)
 go_region_held3 (λW=>W.cell? ⟨gt,(i+4)*4,none⟩=some (.int .u8 td.k)/\W.cell? ⟨gt,(i+4)*4+1,none⟩=some (.string td.s)/\W.cell? ⟨gt,(i+4)*4+2,none⟩=some (.int .i64 td.n)/\W.cell? ⟨gt,(i+4)*4+3,none⟩=some (.int .i64 td.line)/\W.cell? ⟨w2.heap.size,1,none⟩=some (.int .i64 tb.n)) (first|go_keep|(exact⟨(by first|assumption|(rw[bX _ _ _ _ (λe=>ne4 (congrArg Addr.block e).symm)];omega)|(rw[bX _ _ _ _ (by simp)];assumption)),(by first|assumption|(rw[bX _ _ _ _ (λe=>ne4 (congrArg Addr.block e).symm)];omega)|(rw[bX _ _ _ _ (by simp)];assumption)),(by first|assumption|(rw[bX _ _ _ _ (λe=>ne4 (congrArg Addr.block e).symm)];omega)|(rw[bX _ _ _ _ (by simp)];assumption)),(by first|assumption|(rw[bX _ _ _ _ (λe=>ne4 (congrArg Addr.block e).symm)];omega)|(rw[bX _ _ _ _ (by simp)];assumption)),(by first|assumption|(rw[bX _ _ _ _ (λe=>ne4 (congrArg Addr.block e).symm)];assumption)|grind[bX])⟩))
  ((go_at_call 142;refine(rq _ base bx (.slice (some ⟨gt,0,none⟩) ts.length bP) gt ts s3 G3 td tb.n ?_).mono ?_;exact PS.out.below ⟨rfl,rfl,rfl,Nat.le_refl _,λ_ _=>rfl⟩;rintro e w5 ⟨rfl,fP⟩;have y4:=(fP.2.cell hg4 nGg).trans p0;have y5:=(fP.2.cell hg4 nGg).trans p1;have y6:=(fP.2.cell hg4 nGg).trans p2;have y7:=(fP.2.cell hg4 nGg).trans p3;have y8:=(fP.2.cell er nG3).trans r1;have y9:=(fP.2.cell er nG3).trans r0;have Xv:=(fP.2.cell er nG3).trans r2;have y11:=(fP.2.frozen er nG3).trans rf))
 have nG5:¬fresh G3 w4.drew w2.heap.size:=λh=>h.elim nG3 (λh=>by have:w4.heap.size<=w2.heap.size:=h;omega)
 have sG5:∀k,fresh G3 w4.drew k->fresh F w k:=λk h=>h.elim (sG3 k) (λh=>.inr (Nat.le_trans pT.out.size h))
 have HT6:=ae (fP.1.setOther ⟨w2.heap.size,2,none⟩ nG5 (.int .i64 td.n));have hg5:=Nat.lt_of_lt_of_le hg4 fP.2.size;have oy:=Nat.lt_of_lt_of_le er fP.2.size;have HM6:=ae (((show br w4.drew gt ts from HM4.out).kept fP.2 hg4 nGg).setOther ⟨w2.heap.size,2,none⟩ ne4 hg5 (.int .i64 td.n));have Gb:=ae ((pT.out.drew.trans fP.2 sG3).setCell (p:=⟨w2.heap.size,2,none⟩) (.inr JT.out.2.1.size) (.int .i64 td.n));have v0:(w5.setCell ⟨w2.heap.size,2,none⟩ (.int .i64 td.n)).cell? ⟨w2.heap.size,0,none⟩=some (.string ta.s):=by rw[bX _ _ _ _ (by simp)];exact y9
 have v1:(w5.setCell ⟨w2.heap.size,2,none⟩ (.int .i64 td.n)).cell? ⟨w2.heap.size,1,none⟩=some (.int .i64 tb.n):=by rw[bX _ _ _ _ (by simp)];exact y8
 have v2:(w5.setCell ⟨w2.heap.size,2,none⟩ (.int .i64 td.n)).cell? ⟨w2.heap.size,2,none⟩=some (.int .i64 td.n):=World.cell?_setCell_same' _ _ _ (by grind);have qQ:w2.heap.size<(w5.setCell ⟨w2.heap.size,2,none⟩ (.int .i64 td.n)).heap.size:=by simpa[]using oy
 generalize w5.setCell ⟨w2.heap.size,2,none⟩ (.int .i64 td.n)=w6 at*;generalize hs4:s3.number td tb.n=s4 at*;have HS4:=ae hs4;clear fP hs4 y4 y5 y6 y7 y8 y9 Xv y11 r0 r1 r2 rf p0 p1 p2 p3 PS HM4 pT;generalize fresh G3 w4.drew=G5 at*;obtain⟨⟨vv6,vm6,va6,vP,amu⟩,T6,F6⟩:=HT6.out;have hO6:w6.ownsRow base 189 3 vv6 s4.vars.length (s4.vars.flatMap lg):=T6.mem.own 1 _ rfl;obtain⟨av6,cv6,ag9,_,_⟩:=dv hO6;subst ag9;have u1:w6.cell? ⟨bx,1,none⟩=some (.slice av6 s4.vars.length cv6):=T6.cellAt.2.1;have TS:=T6.place.2;have HO6:=ae hO6;have HT7:=ae T6;have HF7:=ae F6;have aez:=T6.low;have hg6:=Nat.lt_of_lt_of_le ip Gb.out.size;have kz:s4.vars.length<=10000:=by rw[<-HS4.out,Hx.St.jL,<-Oc.out,Hx.St.jL,<-Dl.out,Hx.St.bR];exact nG
 clear hO6 T6 F6;obtain⟨i0,dl,L8,Jg,Jh⟩:=info_parts Tryz.infoVar;go_wp2_with fail
 go_region_law (refine aD rfl _ _ 113 rfl base 189 i0 _ 3 32 Tryz.underlying113 dl L8 Jg Jh rfl (by decide) _ s4.vars.length (s4.vars.flatMap lg) rfl (by exact ah HO6.out ⟨rfl,rfl,rfl,by simp,λk hk=>Below.heap_alloc _ _ _ hk⟩) ⟨_,0,none⟩ 1 1 [.string ta.s,.int .i64 tb.n,.int .i64 td.n] rfl rfl (aF _ _ (by simp) [_,_,_] _) (by intro u hu;simp at hu;rcases hu with rfl|rfl|rfl<;>rfl) (by unfold maxLen;omega) (by omega) (by simp;omega) ?_;intro v' w7 bE ax bu;obtain⟨Ge,Gf,rfl,_,_⟩:=dv bE;obtain⟨jy,e5,e6⟩:=TabIs.addVar (x:=⟨ta.s,tb.n,td.n⟩) (HT7.out.below (by exact⟨rfl,rfl,rfl,by simp,λk hk=>Below.heap_alloc _ _ _ hk⟩)) HF7.out ax bE bu;have jc:=ae jy;clear jy bE ax bu)
 all_goals
  have Zb:=ae (fu sG5 (by exact⟨Gb.out.os,Gb.out.tape,Gb.out.output,(Gb.out.alloc _).size,(Gb.out.alloc _).block⟩) jc.out (by exact eM HM6.out _ hg6) ip nB.out);rw[QI tH.out Dl.out Oc.out HS4.out]at Zb;clear jc e5 e6;go_wp2;refine Handed.intro f (by omega) (hJ f ?_);exact⟨i+6,inn,deep,dear,s.addVar ta tb td,by go_num,rfl,rfl,rfl,⟨by omega,by omega,by omega,by rw[H6.out];exact HN.out,by rw[JY];omega,by rw[tG];omega,by rw[FV];omega,by rw[JZ];omega,λm hm=>by rw[tG]at hm;have:=Ky.out m hm;omega,Zb.out.1,Zb.out.2.1,Zb.out.2.2⟩⟩
