/- The walk of the checker's checkGuard. -/
import Derived.Test.YtdjaiolfdbamcaaGreatDoorZWChk7
set_option maxRecDepth 20000
set_option maxHeartbeats 8000000
namespace Go.Proofs.YtdjaiolfdbamcaaGreatDoor
variable {w:World}{base c i m tb:Nat}{va vm vt vv:Value}{a:Option Addr}{vs:List az}{gs:List MG}{F:Nat->Prop}
section
open Go.RowKit
theorem Tryz.taOr(W:World)(v:Value):(Instr.typeAssert (.iface 300 v) 230 300 true).run Tryz.prog W=.ok (.tuple #[v,.bool true]) W:=by kernel_rfl
theorem Tryz.taAndOr(W:World)(v:Value):(Instr.typeAssert (.iface 301 v) 230 300 true).run Tryz.prog W=.ok (.tuple #[.agg #[.nilIface,.nilIface],.bool false]) W:=by kernel_rfl
theorem Tryz.taAnd(W:World)(v:Value):(Instr.typeAssert (.iface 301 v) 230 301 true).run Tryz.prog W=.ok (.tuple #[v,.bool true]) W:=by kernel_rfl
theorem Tryz.taNotOr(W:World)(v:Value):(Instr.typeAssert (.iface 303 v) 230 300 true).run Tryz.prog W=.ok (.tuple #[.agg #[.nilIface,.nilIface],.bool false]) W:=by kernel_rfl
theorem Tryz.taNotAnd(W:World)(v:Value):(Instr.typeAssert (.iface 303 v) 230 301 true).run Tryz.prog W=.ok (.tuple #[.agg #[.nilIface,.nilIface],.bool false]) W:=by kernel_rfl
theorem Tryz.taNot(W:World)(v:Value):(Instr.typeAssert (.iface 303 v) 230 303 true).run Tryz.prog W=.ok (.tuple #[v,.bool true]) W:=by kernel_rfl
theorem Tryz.taGroupOr(W:World)(v:Value):(Instr.typeAssert (.iface 305 v) 230 300 true).run Tryz.prog W=.ok (.tuple #[.agg #[.nilIface,.nilIface],.bool false]) W:=by kernel_rfl
theorem Tryz.taGroupAnd(W:World)(v:Value):(Instr.typeAssert (.iface 305 v) 230 301 true).run Tryz.prog W=.ok (.tuple #[.agg #[.nilIface,.nilIface],.bool false]) W:=by kernel_rfl
theorem Tryz.taGroupNot(W:World)(v:Value):(Instr.typeAssert (.iface 305 v) 230 303 true).run Tryz.prog W=.ok (.tuple #[.agg #[.nilIface],.bool false]) W:=by kernel_rfl
theorem Tryz.taGroup(W:World)(v:Value):(Instr.typeAssert (.iface 305 v) 230 305 true).run Tryz.prog W=.ok (.tuple #[v,.bool true]) W:=by kernel_rfl
theorem Tryz.taAtomOr(W:World)(v:Value):(Instr.typeAssert (.iface 307 v) 230 300 true).run Tryz.prog W=.ok (.tuple #[.agg #[.nilIface,.nilIface],.bool false]) W:=by kernel_rfl
theorem Tryz.taAtomAnd(W:World)(v:Value):(Instr.typeAssert (.iface 307 v) 230 301 true).run Tryz.prog W=.ok (.tuple #[.agg #[.nilIface,.nilIface],.bool false]) W:=by kernel_rfl
theorem Tryz.taAtomNot(W:World)(v:Value):(Instr.typeAssert (.iface 307 v) 230 303 true).run Tryz.prog W=.ok (.tuple #[.agg #[.nilIface],.bool false]) W:=by kernel_rfl
theorem Tryz.taAtomGroup(W:World)(v:Value):(Instr.typeAssert (.iface 307 v) 230 305 true).run Tryz.prog W=.ok (.tuple #[.agg #[.int .i64 0,.string ⟨#[]⟩,.int .i64 0,.int .i64 0,.nilIface],.bool false]) W:=by kernel_rfl
theorem Tryz.taAtom(W:World)(v:Value):(Instr.typeAssert (.iface 307 v) 230 307 true).run Tryz.prog W=.ok (.tuple #[v,.bool true]) W:=by kernel_rfl
theorem Tryz.taTrueOr(W:World)(v:Value):(Instr.typeAssert (.iface 370 v) 230 300 true).run Tryz.prog W=.ok (.tuple #[.agg #[.nilIface,.nilIface],.bool false]) W:=by kernel_rfl
theorem Tryz.taTrueAnd(W:World)(v:Value):(Instr.typeAssert (.iface 370 v) 230 301 true).run Tryz.prog W=.ok (.tuple #[.agg #[.nilIface,.nilIface],.bool false]) W:=by kernel_rfl
theorem Tryz.taTrueNot(W:World)(v:Value):(Instr.typeAssert (.iface 370 v) 230 303 true).run Tryz.prog W=.ok (.tuple #[.agg #[.nilIface],.bool false]) W:=by kernel_rfl
theorem Tryz.taTrueGroup(W:World)(v:Value):(Instr.typeAssert (.iface 370 v) 230 305 true).run Tryz.prog W=.ok (.tuple #[.agg #[.int .i64 0,.string ⟨#[]⟩,.int .i64 0,.int .i64 0,.nilIface],.bool false]) W:=by kernel_rfl
theorem Tryz.taTrueAtom(W:World)(v:Value):(Instr.typeAssert (.iface 370 v) 230 307 true).run Tryz.prog W=.ok (.tuple #[.agg #[.bool false,.int .i64 0,.string ⟨#[]⟩,.int .i64 0,.int .i64 0,.int .i64 0,.string ⟨#[]⟩,.int .i64 0,.int .i64 0,.int .i64 0,.string ⟨#[]⟩,.int .i64 0,.int .i64 0],.bool false]) W:=by kernel_rfl
theorem I8(s:CS)(k:AK):s.atoms.length<=(s.addAtom k).atoms.length:=by grind[CS.addAtom]
theorem yC(vs:List az)(g:Hx.G):∀d s,s.atoms.length<=(m6 vs g d s).atoms.length:=by
 induction g with
 |or l r h1 h2=>intro d s;exact Nat.le_trans (h1 d s) (h2 d _)
 |and l r h1 h2=>intro d s;exact Nat.le_trans (h1 d s) (h2 d _)
 |not g h=>intro d s;exact h d s
 |group t g h=>intro d s;exact h (d+1) (s.ref _ 1 t.line)
 |gZ=>intro d s;exact Nat.le_refl _
 |atom w n o i ok=>intro d s;exact I8 s (dm w n o i)
theorem bI(g:Hx.G):∃T x,eH g=.iface T x:=by cases g<;>exact⟨_,_,rfl⟩
theorem CI.L0{s:CS}(h:CI w c tb s va):¬CF c va w.heap.size:=by
 rintro(e|e)
 ·have:=h.lt;omega
 ·have:=(h.own.lt _ e).2;omega
theorem ale(d:Nat):decide ((6:Int)<=(d:Int))=decide (6<=d):=by grind
theorem yD(c tb base:Nat)(vt vv vm:Value)(vs:List az)(gs:List MG)(kz:vs.length<=3001)(g:Hx.G):∀(w:World)(s:CS)(va:Value)(d:Nat),CI w c tb s va->PT w base tb vt vs gs (λk=>k<c) vv vm->d+g.deep<=10000->(m6 vs g d s).atoms.length<=10000->
  Calls Tryz.prog 160 #[.pointer (some ⟨c,0,none⟩),eH g,.int .i64 d] w λe w'=>Fq w c tb va (m6 vs g d s) e w':=by
 induction g with
 |or l r qi qj=>
  intro w s va d h hT hd hlen;obtain⟨Tl,xl,ck⟩:=bI l;obtain⟨Tr,xr,mK⟩:=bI r;rw[show eH (.or l r)=.iface 300 (.agg #[.iface Tl xl,.iface Tr xr]) by rw[<-ck,<-mK];rfl];rw[ck]at qi;rw[mK]at qj;have HL:=ae qi;have HR:=ae qj;have nW:=Nat.le_trans (yC vs r d _) hlen;have kq:(m6 vs r d (m6 vs l d s)).atoms.length<=10000:=hlen;have tO:d+l.deep<=10000:=by simp only [Hx.G.deep]at hd;omega
  have Rg:d+r.deep<=10000:=by simp only [Hx.G.deep]at hd;omega
  have Nk:=h.L0;have hB:Below w.heap.size w (w.alloc (.cells #[.iface Tl xl,.iface Tr xr] 300)):=(Below.refl _ _).alloc (Nat.le_refl _) _;have fM:=ae (heap_alloc_new w (.cells #[.iface Tl xl,.iface Tr xr] 300));have ki:=ae (h.below hB);have HT:=ae (hT.below hB);have I9:Hid (Kp (CF c va) w (w.alloc (.cells #[.iface Tl xl,.iface Tr xr] 300))):=ae (Kp.aK hB);have H0:=ae h;have tj:=ae hT;clear ck mK qi qj h hT hB hlen;have Iy:=Tryz.taOr;go_enter Tryz.func160,Tryz.ntmps160;go_wp2_with fail;refine(HL.out _ s va d ki.out HT.out tO nW).mono ?_;intro e w1 dw;obtain rfl:=dw.ret;have zP:=(dw.kept.block w.heap.size (by simp) Nk).trans fM.out;have x1:=fS zP;obtain⟨Eb,iH,nG⟩:=dw.ci;have ot:=ae iH;have jW:=ae (I9.out.trans dw.kept (λ_ e=>.inl e));have mU:=ae (tj.out.iF (H0.out.toBelow jW.out));have HV1:Hid (∀k,Eb.ownBlock=some k->va.ownBlock=some k\/w.heap.size<=k):=ae (λk e=>(nG k e).imp id (λh=>Nat.le_trans (by simp) h));clear dw zP iH nG;go_wp2_with fail;refine(HR.out w1 (m6 vs l d s) Eb d ot.out mU.out Rg kq).mono ?_;intro e w2 fv;obtain rfl:=fv.ret;have mR:=ae (Fq.trans jW.out HV1.out fv);clear fv;go_wp2_with fail;go_end0;exact mR.out
 |and l r qi qj=>
  intro w s va d h hT hd hlen;obtain⟨Tl,xl,ck⟩:=bI l;obtain⟨Tr,xr,mK⟩:=bI r;rw[show eH (.and l r)=.iface 301 (.agg #[.iface Tl xl,.iface Tr xr]) by rw[<-ck,<-mK];rfl];rw[ck]at qi;rw[mK]at qj;have HL:=ae qi;have HR:=ae qj;have nW:=Nat.le_trans (yC vs r d _) hlen;have kq:(m6 vs r d (m6 vs l d s)).atoms.length<=10000:=hlen;have tO:d+l.deep<=10000:=by simp only [Hx.G.deep]at hd;omega
  have Rg:d+r.deep<=10000:=by simp only [Hx.G.deep]at hd;omega
  have Nk:=h.L0;have hB:Below w.heap.size w (w.alloc (.cells #[.iface Tl xl,.iface Tr xr] 301)):=(Below.refl _ _).alloc (Nat.le_refl _) _;have fM:=ae (heap_alloc_new w (.cells #[.iface Tl xl,.iface Tr xr] 301));have ki:=ae (h.below hB);have HT:=ae (hT.below hB);have I9:Hid (Kp (CF c va) w (w.alloc (.cells #[.iface Tl xl,.iface Tr xr] 301))):=ae (Kp.aK hB);have H0:=ae h;have tj:=ae hT;clear ck mK qi qj h hT hB hlen;have Iy:=Tryz.taAndOr;have Ny:=Tryz.taAnd;go_enter Tryz.func160,Tryz.ntmps160;go_wp2_with fail;refine(HL.out _ s va d ki.out HT.out tO nW).mono ?_;intro e w1 dw;obtain rfl:=dw.ret;have zP:=(dw.kept.block w.heap.size (by simp) Nk).trans fM.out;have x1:=fS zP;obtain⟨Eb,iH,nG⟩:=dw.ci;have ot:=ae iH;have jW:=ae (I9.out.trans dw.kept (λ_ e=>.inl e));have mU:=ae (tj.out.iF (H0.out.toBelow jW.out));have HV1:Hid (∀k,Eb.ownBlock=some k->va.ownBlock=some k\/w.heap.size<=k):=ae (λk e=>(nG k e).imp id (λh=>Nat.le_trans (by simp) h));clear dw zP iH nG;go_wp2_with fail;refine(HR.out w1 (m6 vs l d s) Eb d ot.out mU.out Rg kq).mono ?_;intro e w2 fv;obtain rfl:=fv.ret;have mR:=ae (Fq.trans jW.out HV1.out fv);clear fv;go_wp2_with fail;go_end0;exact mR.out
 |not g ih=>
  intro w s va d h hT hd hlen;obtain⟨Tl,xl,ck⟩:=bI g;rw[show eH (.not g)=.iface 303 (.agg #[.iface Tl xl]) by rw[<-ck];rfl];rw[ck]at ih;have HL:=ae ih;have hB:Below w.heap.size w (w.alloc (.cells #[.iface Tl xl] 303)):=(Below.refl _ _).alloc (Nat.le_refl _) _;have ki:=ae (h.below hB);have HT:=ae (hT.below hB);have I9:Hid (Kp (CF c va) w (w.alloc (.cells #[.iface Tl xl] 303))):=ae (Kp.aK hB);clear ck ih h hT hB;have Iy:=Tryz.taNotOr;have Ny:=Tryz.taNotAnd;have TQ:=Tryz.taNot;go_enter Tryz.func160,Tryz.ntmps160;go_wp2_with fail;refine(HL.out _ s va d ki.out HT.out hd hlen).mono ?_;intro e w1 dw;obtain rfl:=dw.ret;have zk:=ae (Fq.trans I9.out (λk e=>.inl e) dw);clear dw;go_wp2_with fail;go_end0;exact zk.out
 |group t g ih=>
  intro w s va d h hT hd hlen;obtain⟨Tl,xl,ck⟩:=bI g;rw[show eH (.group t g)=.iface 305 (.agg #[.int .i64 (ao t.k),.string t.s,.int .i64 t.n,.int .i64 t.line,.iface Tl xl]) by rw[<-ck];rfl];rw[ck]at ih;have HL:=ae ih;have zQ:d+1+g.deep<=10000:=by simp only [Hx.G.deep]at hd;omega
  have hdi:(d:Int)<=10000:=by omega
  have Nk:=h.L0;have lP:=h.lt;have hB:Below w.heap.size w (w.alloc (.cells #[.int .i64 (ao t.k),.string t.s,.int .i64 t.n,.int .i64 t.line,.iface Tl xl] 305)):=(Below.refl _ _).alloc (Nat.le_refl _) _;have fM:=ae (heap_alloc_new w (.cells #[.int .i64 (ao t.k),.string t.s,.int .i64 t.n,.int .i64 t.line,.iface Tl xl] 305));have ki:=ae (h.below hB);have HT:=ae (hT.below hB);have I9:Hid (Kp (CF c va) w (w.alloc (.cells #[.int .i64 (ao t.k),.string t.s,.int .i64 t.n,.int .i64 t.line,.iface Tl xl] 305))):=ae (Kp.aK hB);have H0:=ae h;have tj:=ae hT;have alf:(m6 vs g (d+1) (s.ref (decide ((6)<=(d:Int))) 1 t.line)).atoms.length<=10000:=by rw[ale];exact hlen
  have HE:=ae (show m6 vs (.group t g) d s=m6 vs g (d+1) (s.ref (decide ((6)<=(d:Int))) 1 t.line) by rw[ale];rfl);rw[HE.out];clear ck ih h hT hB hlen;have Iy:=Tryz.taGroupOr;have Ny:=Tryz.taGroupAnd;have TQ:=Tryz.taGroupNot;have ta3:=Tryz.taGroup;go_enter Tryz.func160,Tryz.ntmps160;go_wp2_with fail;refine(cN _ c tb (s.rows) va s.cl _ 1 t ki.out.box).mono ?_;intro e w1 dw;obtain rfl:=dw.ret;have zP:=(dw.kept.block w.heap.size (by simp) (λe=>by omega)).trans fM.out;have x1:=oh zP;have ot:=ae (ki.out.ref dw);have jW:=ae (I9.out.trans dw.kept (λ_ e=>.inl (.inl e)));have mU:=ae (tj.out.iF (H0.out.toBelow jW.out));clear dw zP;go_wp2_with fail;rw[show((d)+1)=((d+1:Nat):Int) by omega];refine(HL.out w1 _ va (d+1) ot.out.1 mU.out zQ alf).mono ?_;intro e w2 fv;obtain rfl:=fv.ret;have mR:=ae (Fq.trans jW.out (λk e=>.inl e) fv);clear fv;go_wp2_with fail;go_end0;exact mR.out
 |gZ=>
  intro w s va d h hT hd hlen;rw[show eH .gZ=.iface 370 (.agg #[])from rfl];have H0:=ae h;clear h hT;have Iy:=Tryz.taTrueOr;have Ny:=Tryz.taTrueAnd;have TQ:=Tryz.taTrueNot;have ta3:=Tryz.taTrueGroup;have ta4:=Tryz.taTrueAtom;go_enter Tryz.func160,Tryz.ntmps160;go_wp2_with fail;go_end0;exact⟨rfl,Kp.refl _ _,va,H0.out,λ_ e=>.inl e⟩
 |atom was n o i ok=>
  intro w s va d h hT hd hlen;rw[show eH (.atom was n o i ok)=.iface 307 (.agg #[.bool was.isSome,.int .i64 (ao n.k),.string n.s,.int .i64 n.n,.int .i64 n.line,.int .i64 (ao o.k),.string o.s,.int .i64 o.n,.int .i64 o.line,.int .i64 (ao i.k),.string i.s,.int .i64 i.n,.int .i64 i.line])from rfl];have hB:Below w.heap.size w (w.alloc (.cells #[.bool was.isSome,.int .i64 (ao n.k),.string n.s,.int .i64 n.n,.int .i64 n.line,.int .i64 (ao o.k),.string o.s,.int .i64 o.n,.int .i64 o.line,.int .i64 (ao i.k),.string i.s,.int .i64 i.n,.int .i64 i.line] 307)):=(Below.refl _ _).alloc (Nat.le_refl _) _;have HL:=ae (zR _ c tb base vt vv vm vs gs s va was n o i (h.below hB) (hT.below hB) kz hlen);have I9:Hid (Kp (CF c va) w _):=ae (Kp.aK hB);clear h hT hB;have Iy:=Tryz.taAtomOr;have Ny:=Tryz.taAtomAnd;have TQ:=Tryz.taAtomNot;have ta3:=Tryz.taAtomGroup;have ta4:=Tryz.taAtom;go_enter Tryz.func160,Tryz.ntmps160;go_wp2_with fail;refine HL.out.mono ?_;intro e w1 dw;obtain rfl:=dw.ret;have zk:=ae (Fq.trans I9.out (λk e=>.inl e) dw);clear dw;go_wp2_with fail;go_end0;exact zk.out
end
section
open Go.RowKit
attribute [local go_sem↓] Go.wp_at_zero Go.wp_at_succ
theorem XE.front(h:XE w (.slice a m c) m vs)(hi:i<=m)(h0:0<m):XE w (.slice a i c) i vs:=by
 rcases h with⟨_,e⟩|⟨g,cap,iq,e,hg,hc⟩
 ·omega
 ·cases e
  exact .inr ⟨g,_,Nat.le_trans hi iq,rfl,λh=>hg (by omega),λk hk=>hc k (by omega)⟩
theorem aqP(d:Nat):decide ((3:Int)<=(d:Int))=decide (3<=d):=by grind
theorem Ja(vs:List az)(i:Nat)(s:CS)(h:i<vs.length):de vs i (vs.drop i) s=de vs (i+1) (vs.drop (i+1)) (oL vs i vs[i] s):=by
 rw[List.drop_eq_getElem_cons h];rfl
theorem zS(w:World)(c tb base:Nat)(vt vv vm:Value)(vs:List az)(gs:List MG)(s:CS)(va:Value)(h:CI w c tb s va)(hT:PT w base tb vt vs gs (λk=>k<c) vv vm)(kz:vs.length<=3001):
  Calls Tryz.prog 105 #[.pointer (some ⟨c,0,none⟩)] w λe w'=>Fq w c tb va (de vs 0 vs s) e w':=by
 have H0:=ae h;have tj:=ae hT;obtain⟨vav,cvv,nR,_,_⟩:=aj (hT.mem.own 1 _ rfl);simp only at nR;subst nR;have x0:=dt h.box;obtain⟨_,x1,_,_,_,Ev,htc⟩:=hT.cells;have HVS:=ae hT.vsl;have lP:=h.lt;clear h hT;go_enter Tryz.func105,Tryz.ntmps105;go_wp2_with fail;clear x0 x1
 go_loopg [12] (vs.length) (λk v12 wr=>∃(i:Nat)(s1:CS),i+k=vs.length/\v12=.int .i64 i/\Kp (CF c va) w wr/\CI wr c tb s1 va/\de vs i (vs.drop i) s1=de vs 0 vs s)
 case atStart=>exact⟨0,s,by omega,rfl,Kp.refl _ _,H0.out,rfl⟩
 case round=>
  obtain⟨i,s1,hi,rfl,hk,vS,hF⟩:=hrel;have HK:=ae hk;have ki:=ae vS;have HF:=ae hF;clear hk vS hF
  by_cases hlt:i<vs.length
  ·have mQ:(i:Int)<vs.length:=by omega
   have dl:(0:Int)<=i:=by omega
   have nS:=ae (tj.out.iF (H0.out.toBelow HK.out));have hsr:=HK.out.size;obtain⟨gv,aj0,_,e,ck,hcc⟩:=nS.out.vsl.resolve_left (λh=>by omega)
   cases e
   have Ui:=ck (by omega);have tq:=hcc i hlt;obtain⟨v,hv⟩:∃v,v=vs[i]:=⟨_,rfl⟩;rw[<-hv]at tq;have z0:wr.cell? ⟨gv,i*12,none⟩=some (.int .i64 (ao v.name.k)):=tq 0 (by omega);have z1:wr.cell? ⟨gv,i*12+1,none⟩=some (.string v.name.s):=tq 1 (by omega);have z2:wr.cell? ⟨gv,i*12+2,none⟩=some (.int .i64 v.name.n):=tq 2 (by omega);have z3:wr.cell? ⟨gv,i*12+3,none⟩=some (.int .i64 v.name.line):=tq 3 (by omega);have z4:wr.cell? ⟨gv,i*12+4,none⟩=some (.int .i64 (ao v.first.k)):=tq 4 (by omega);have z5:wr.cell? ⟨gv,i*12+5,none⟩=some (.string v.first.s):=tq 5 (by omega);have z6:wr.cell? ⟨gv,i*12+6,none⟩=some (.int .i64 v.first.n):=tq 6 (by omega);have z7:wr.cell? ⟨gv,i*12+7,none⟩=some (.int .i64 v.first.line):=tq 7 (by omega);have z8:wr.cell? ⟨gv,i*12+8,none⟩=some (.int .i64 (ao v.last.k)):=tq 8 (by omega);have z9:wr.cell? ⟨gv,i*12+9,none⟩=some (.string v.last.s):=tq 9 (by omega);have z10:wr.cell? ⟨gv,i*12+10,none⟩=some (.int .i64 v.last.n):=tq 10 (by omega);have z11:wr.cell? ⟨gv,i*12+11,none⟩=some (.int .i64 v.last.line):=tq 11 (by omega);have lj:=ae (show de vs (i+1) (vs.drop (i+1)) (oL vs i v s1)=de vs 0 vs s by rw[<-HF.out,Ja vs i s1 hlt,<-hv]);have HE5:=ae (show oL vs i v s1=((((s1.ref (decide ((3)<=(i:Int))) 1 v.name.line).ref ((vs.take i).any (bK v.name.s)) 3 v.name.line).ref (iA v.first.n) 4 v.first.line).ref (iA v.last.n) 4 v.last.line).ref (decide (v.last.n<v.first.n)) 4 v.last.line by rw[aqP];rfl);have gf:Below wr.heap.size wr (wr.alloc (.cells #[.int .i64 (ao v.name.k),.string v.name.s,.int .i64 v.name.n,.int .i64 v.name.line,.int .i64 (ao v.first.k),.string v.first.s,.int .i64 v.first.n,.int .i64 v.first.line,.int .i64 (ao v.last.k),.string v.last.s,.int .i64 v.last.n,.int .i64 v.last.line] 166)):=(Below.refl _ _).alloc (Nat.le_refl _) _;have fM:=ae (heap_alloc_new wr (.cells #[.int .i64 (ao v.name.k),.string v.name.s,.int .i64 v.name.n,.int .i64 v.name.line,.int .i64 (ao v.first.k),.string v.first.s,.int .i64 v.first.n,.int .i64 v.first.line,.int .i64 (ao v.last.k),.string v.last.s,.int .i64 v.last.n,.int .i64 v.last.line] 166));have HCB:=ae (ki.out.below gf);have I9:Hid (Kp (CF c va) wr _):=ae (Kp.aK gf);have Dq:=ki.out.lt;have ql:¬wr.heap.size=c:=by omega
   have N7:(i:Int)<=cvv:=by omega
   clear hcc tq ck gf hv;go_wp2_with fail;refine(cN _ c tb (s1.rows) va s1.cl _ 1 v.name HCB.out.box).mono ?_;intro e w1 dw;obtain rfl:=dw.ret;have ot:=ae (HCB.out.ref dw).1;have jW:=ae (I9.out.trans dw.kept (λ_ e=>.inl (.inl e)));have b6:=ae ((dw.kept.block wr.heap.size (by simp) ql).trans fM.out);have mU:=ae (nS.out.iF (ki.out.toBelow jW.out));have nW:wr.heap.size<w1.heap.size:=Nat.lt_of_lt_of_le (by simp) dw.kept.size;have iH:c<w1.heap.size:=by omega
   generalize s1.ref (decide ((3:Int)<=(i:Int))) 1 v.name.line=s2 at*;clear dw z0 z1 z2 z3 z4 z5 z6 z7 z8 z9 z10 z11 fM HCB;obtain⟨a0,a1,a2,a3,a4,a5,a6,a7,a8,a9,Fs,Ft⟩:=tr b6.out;clear a4 a5 a6 a7 a8 a9 Fs Ft;obtain⟨_,v1,_,_,_,Fu,_⟩:=mU.out.cells;have y0:=dt ot.out.box;have ntc:¬tb=c:=by omega
   have CK:=ae (λY hY=>
    rp Y (.slice (some ⟨gv,0,none⟩) i cvv) i vs v.name.s ((mU.out.below hY).vsl.front (Nat.le_of_lt hlt) (by omega)) (by omega))
   generalize (vs.take i).any (bK v.name.s)=bv at*;go_wp2_with fail
   go_region_held3 (λY=>Y.cell? ⟨c,0,none⟩=some (.pointer (some ⟨tb,0,none⟩))/\Y.cell? ⟨tb,1,none⟩=some (.slice (some ⟨gv,0,none⟩) vs.length cvv)/\Y.cell? ⟨wr.heap.size,0,none⟩=some (.int .i64 (ao v.name.k))/\Y.cell? ⟨wr.heap.size,1,none⟩=some (.string v.name.s)/\Y.cell? ⟨wr.heap.size,2,none⟩=some (.int .i64 v.name.n)/\Y.cell? ⟨wr.heap.size,3,none⟩=some (.int .i64 v.name.line)) (first|go_keep|(exact⟨by with_reducible assumption,by with_reducible assumption,by with_reducible assumption,by with_reducible assumption,by with_reducible assumption,by with_reducible assumption⟩))
    (first
     |(go_at_call 157;refine(CK.out _ ?_).mono ?_;exact⟨rfl,rfl,rfl,Nat.le_refl _,λ_ _=>rfl⟩;rintro e w2 ⟨rfl,aT⟩;have q0:=(aT.cell iH).trans y0;have q1:=(aT.cell Fu).trans v1;have q2:=(aT.cell nW).trans a0;have q3:=(aT.cell nW).trans a1;have q4:=(aT.cell nW).trans a2;have q5:=(aT.cell nW).trans a3;have kq:=Nat.lt_of_lt_of_le nW aT.size;have RN:=Nat.lt_of_lt_of_le Fu aT.size)
     |(go_at_call 156;refine(cN _ c tb (s2.rows) va s2.cl _ 3 v.name ?_).mono ?_;exact(aT.block c iH).trans ot.out.box;intro e w3 ft;obtain rfl:=ft.ret;have p0:=dt ft.box;have p1:=(ft.kept.cell RN ntc).trans q1;have p2:=(ft.kept.cell kq ql).trans q2;have p3:=(ft.kept.cell kq ql).trans q3;have p4:=(ft.kept.cell kq ql).trans q4;have p5:=(ft.kept.cell kq ql).trans q5))
   have uy:Below w1.heap.size w1 w2:=⟨aT.os,aT.tape,aT.output,aT.size,aT.block⟩;have rN:=ae ((ot.out.below uy).ref ft).1;have kj:=ae ((jW.out.below uy).trans ft.kept (λ_ e=>.inl (.inl e)));have ji:=ae ((ft.kept.block wr.heap.size kq ql).trans ((aT.block wr.heap.size nW).trans b6.out));have XD:=Nat.lt_of_lt_of_le kq ft.kept.size;generalize s2.ref bv 3 v.name.line=s3 at*;clear aT uy ft y0 v1 a0 a1 a2 a3 q0 q1 q2 q3 q4 q5 p0 p1 p2 p3 p4 p5 CK jW b6 ot;obtain⟨a0,a1,a2,a3,a4,a5,a6,a7,a8,a9,Fs,Ft⟩:=tr ji.out;clear a0 a1 a2 a3 a8 a9 Fs Ft;go_wp2_with fail;refine(ja w3 c tb _ _ _ v.first rN.out.box).mono ?_;intro e w4 UO;obtain rfl:=UO.ret;have HC4:=ae (rN.out.ref UO).1;have pT:=ae (kj.out.trans UO.kept (λ_ e=>.inl (.inl e)));have nY:=ae ((UO.kept.block wr.heap.size XD ql).trans ji.out);have PU:=Nat.lt_of_lt_of_le XD UO.kept.size;generalize s3.ref (iA v.first.n) 4 v.first.line=s4 at*;clear UO a4 a5 a6 a7 kj ji rN;obtain⟨a0,a1,a2,a3,a4,a5,a6,a7,a8,a9,Fs,Ft⟩:=tr nY.out;clear a0 a1 a2 a3 a4 a5 a6 a7;go_wp2_with fail;refine(ja w4 c tb _ _ _ v.last HC4.out.box).mono ?_;intro e w5 fP;obtain rfl:=fP.ret;have HC5:=ae (HC4.out.ref fP).1;have zm:=ae (pT.out.trans fP.kept (λ_ e=>.inl (.inl e)));have vT:=ae ((fP.kept.block wr.heap.size PU ql).trans nY.out);generalize s4.ref (iA v.last.n) 4 v.last.line=s5 at*;clear fP a8 a9 Fs Ft pT nY HC4;obtain⟨a0,a1,a2,a3,a4,a5,a6,a7,a8,a9,Fs,Ft⟩:=tr vT.out;clear a0 a1 a2 a3 a4 a5 a7;go_wp2_with fail;refine(cN w5 c tb (s5.rows) va s5.cl _ 4 v.last HC5.out.box).mono ?_;intro e w6 Gc;obtain rfl:=Gc.ret;have HC6:=ae (HC5.out.ref Gc).1;have Gb:=ae (zm.out.trans Gc.kept (λ_ e=>.inl (.inl e)));generalize s5.ref (decide (v.last.n<v.first.n)) 4 v.last.line=s6 at*;clear Gc a6 a8 a9 Fs Ft zm vT HC5;go_wp2_with fail
   go_roundg (vs.length-(i+1))
   case measure=>omega
   case rel=>exact⟨i+1,s6,by omega,by go_num,HK.out.trans Gb.out (λ_ e=>.inl e),HC6.out,by rw[<-HE5.out];exact lj.out⟩
  ·have mQ:¬(i:Int)<vs.length:=by omega
   have HE:=ae (show s1=de vs 0 vs s by rw[<-HF.out,List.drop_of_length_le (by omega)];rfl);go_wp2_with fail;go_end0;exact⟨rfl,HK.out,va,by rw[<-HE.out];exact ki.out,λ_ e=>.inl e⟩
end
section
open Go.RowKit
theorem PT.TU(h:PT w base tb vt vs gs F vv vm):XF w vm gs.length gs:=by
 have ho:w.ownsRow base 164 1 vm gs.length (gs.map λm=>dz m.bZ):=h.mem.own 2 _ rfl
 by_cases h0:0<gs.length
 ·obtain⟨g,cap,hv,_,hl,_,_,hcc⟩:=aR ho h0
  exact .inr ⟨g,cap,Nat.le_refl _,hv,λ_=>hl,λi hi=>⟨(hcc i (by omega)).trans (by simp[hi,dz]),(h.bG hi).1 1 (by omega),(h.bG hi).2.2.2.1⟩⟩
 ·have e:gs.length=0:=by omega
  rcases ho.2 with⟨h1,_⟩|⟨g,cap,cur,h1,_⟩
  ·exact .inl ⟨h1,e⟩
  ·exact .inr ⟨g,cap,Nat.le_refl _,h1,λh=>absurd h h0,λi hi=>absurd hi (by omega)⟩
theorem XF.front(h:XF w (.slice a m c) m gs)(hi:i<=m)(h0:0<m):XF w (.slice a i c) i gs:=by
 rcases h with⟨_,e⟩|⟨g,cap,iq,e,hg,hc⟩
 ·omega
 ·cases e
  exact .inr ⟨g,_,Nat.le_trans hi iq,rfl,λh=>hg (by omega),λk hk=>hc k (by omega)⟩
theorem UQ(vs:List az)(g:Hx.G):∀d s,(m6 vs g d s).rows=s.rows:=by
 induction g with
 |or l r h1 h2=>intro d s;exact(h2 d _).trans (h1 d s)
 |and l r h1 h2=>intro d s;exact(h2 d _).trans (h1 d s)
 |not g h=>intro d s;exact h d s
 |group t g h=>intro d s;exact h (d+1) (s.ref _ 1 t.line)
 |gZ=>intro d s;rfl
 |atom w n o i ok=>grind[CS.addAtom,m6,dJ,CS.ref]
theorem yE(vs:List az)(s:CS)(r:Hx.bD):(eJ vs s r).rows=s.rows+1:=UQ vs r.g 0 _
theorem Jb(vs:List az)(s:CS)(r:Hx.bD):s.atoms.length<=(eJ vs s r).atoms.length:=yC vs r.g 0 ({s with rows:=s.rows+1}.ref (decide (24<s.rows+1)) 1 r.wh.line)
theorem pW(vs:List az)(l:List Hx.bD):∀s:CS,(l.foldl (eJ vs) s).rows=s.rows+l.length:=by
 induction l with
 |nil=>intro s;rfl
 |cons r l ih=>intro s;rw[List.foldl_cons,ih,yE,List.length_cons];omega
theorem yF(vs:List az)(l:List Hx.bD):∀s:CS,s.atoms.length<=(l.foldl (eJ vs) s).atoms.length:=by
 induction l with
 |nil=>simp
 |cons r l ih=>grind[Nat.le_trans,Jb]
theorem Jc(vs:List az)(gs:List MG)(i:Nat)(m:MG)(s:CS):s.rows<=(dK vs gs i m s).rows:=by
 unfold dK;rw[pW];exact Nat.le_add_right _ _
theorem Fv(vs:List az)(gs:List MG)(i:Nat)(m:MG)(s:CS):s.atoms.length<=(dK vs gs i m s).atoms.length:=
 yF vs m.a.rows ((s.ref _ _ _).ref _ _ _)
theorem tu(vs:List az)(gs:List MG)(l:List MG):∀(i:Nat)(s:CS),s.rows<=(cK vs gs i l s).rows:=by
 induction l with
 |nil=>intro i s;exact Nat.le_refl _
 |cons m r ih=>intro i s;exact Nat.le_trans (Jc vs gs i m s) (ih (i+1) _)
theorem zT(vs:List az)(gs:List MG)(l:List MG):∀(i:Nat)(s:CS),s.atoms.length<=(cK vs gs i l s).atoms.length:=by
 induction l with
 |nil=>intro i s;exact Nat.le_refl _
 |cons m r ih=>intro i s;exact Nat.le_trans (Fv vs gs i m s) (ih (i+1) _)
theorem CI.tv{s:CS}(h:CI w c tb s va)(n:Nat):CI (w.setCell ⟨c,1,none⟩ (.int .i64 n)) c tb {s with rows:=n} va:=
 ⟨aE h.box,((Kp.refl (λk=>k=c) w).setCell (p:=⟨c,1,none⟩) (.inl rfl) _).own h.own (λk e hk=>by have:=(h.own.lt k e).1;omega)⟩
theorem PT.dS(h:PT w base tb vt vs gs F vv vm)(hi:i<gs.length):
  ∃ar cr,gs[i].vr=.slice ar gs[i].a.rows.length cr/\∀j (hj:j<gs[i].a.rows.length),∃gr,ar=some ⟨gr,0,none⟩/\gr<w.heap.size/\∀k,k<10->w.cell? ⟨gr,j*10+k,none⟩=(fO gs[i].a.rows[j])[k]?:=by
 have ho:w.ownsRow base 232 10 gs[i].vr gs[i].a.rows.length (gs[i].a.rows.flatMap fO):=h.mem.own _ _ (uz hi);obtain⟨ar,cr,hv,_,_⟩:=aj ho;refine⟨ar,cr,hv,λj hj=>?_⟩;obtain⟨g,cap,oR,_,hl,_,_,hcc⟩:=aR ho (by omega);rw[hv]at oR
 cases oR
 exact⟨g,rfl,hl,λk hk=>(hcc (j*10+k) (by omega)).trans (sP fO 10 gs[i].a.rows (λr=>by cases hd:r.dest<;>simp[fO,oW,hd]) j k hj hk)⟩
theorem ad9(i d:Nat):(decide ((12:Int)<=(i:Int))||decide ((6:Int)<=(d:Int)))=(decide (12<=i)||decide (6<=d)):=by
 grind
end
section
open Go.RowKit
attribute [local go_sem↓] Go.wp_at_zero Go.wp_at_succ
theorem Fw(gs:List MG)(i:Nat)(s:CS)(h:i<gs.length):dT gs (gs.drop i) s=dT gs (gs.drop (i+1)) (gs[i].a.rows.foldl (λs r=>s.ref (cg gs r) 3 (da r)) s):=by
 rw[List.drop_eq_getElem_cons h];rfl
def qH(r:Hx.bD):Hx.Tok:=match r.dest with|none=>⟨101,⟨#[]⟩,0,0⟩|some a=>a
theorem Jd(r:Hx.bD):oW r.dest=[.bool r.dest.isNone,.int .i64 (ao (qH r).k),.string (qH r).s,.int .i64 (qH r).n,.int .i64 (qH r).line]:=by
 unfold qH;cases r.dest<;>rfl
theorem L3(r:Hx.bD):((qH r).line:Int)=da r:=by grind[qH,da]
theorem P1(gs:List MG)(r:Hx.bD):cg gs r=(!r.dest.isNone&& !(gs.any (dV (qH r).s))):=by grind[qH,cg]
theorem uE(w:World)(c tb base:Nat)(vt vv vm:Value)(vs:List az)(gs:List MG)(s:CS)(va:Value)(h:CI w c tb s va)(hT:PT w base tb vt vs gs (λk=>k<c) vv vm)(ck:gs.length<=3001)(F3:∀m∈gs,m.a.rows.length<=10000):
  Calls Tryz.prog 107 #[.pointer (some ⟨c,0,none⟩)] w λe w'=>Fq w c tb va (dT gs gs s) e w':=by
 have H0:=ae h;have tj:=ae hT;have Oi:=ae F3;obtain⟨avm,Gd,nP,UR,_⟩:=aj (hT.mem.own 2 _ rfl);simp only at nP UR;subst nP;obtain⟨_,_,x2,_,_,Ev,htc⟩:=hT.cells;have x0:=dt h.box;clear h hT F3;go_enter Tryz.func107,Tryz.ntmps107;go_wp2_with fail;clear x0 x2
 go_loopg [14] (gs.length) (λk v14 wr=>∃(i:Nat)(s1:CS),i+k=gs.length/\v14=.int .i64 i/\Kp (CF c va) w wr/\CI wr c tb s1 va/\dT gs (gs.drop i) s1=dT gs gs s)
 case atStart=>exact⟨0,s,by omega,rfl,Kp.refl _ _,H0.out,rfl⟩
 case round=>
  obtain⟨i,s1,hi,rfl,hk,vS,hF⟩:=hrel;have HK:=ae hk;have ki:=ae vS;have HF:=ae hF;clear hk vS hF
  by_cases hlt:i<gs.length
  ·have mQ:(i:Int)<gs.length:=by omega
   have dl:(0:Int)<=i:=by omega
   have nS:=ae (tj.out.iF (H0.out.toBelow HK.out));obtain⟨gm,IB,_,e,QY,Pu⟩:=nS.out.TU.resolve_left (λh=>by omega)
   cases e
   obtain⟨g0,_,_⟩:=Pu i hlt;have Xy:=ae (λX (hX:PT X base tb vt vs gs (λk=>k<c) vv (.slice (some ⟨gm,0,none⟩) gs.length Gd))=>(hX.bG hlt).1);have T9:=ae (λX (hX:PT X base tb vt vs gs (λk=>k<c) vv (.slice (some ⟨gm,0,none⟩) gs.length Gd))=>hX.dS hlt);have lj:=ae (Fw gs i s1 hlt);have hmr:=Oi.out _ (List.getElem_mem hlt);generalize hm:gs[i]=m at*;have m7:wr.cell? ⟨m.bZ,7,none⟩=some m.vr:=Xy.out wr nS.out 7 (by omega);obtain⟨ar,cr,Lx,_⟩:=T9.out wr nS.out;rw[Lx]at m7;have HVR:=ae Lx;clear Lx Pu hm;go_wp2_with fail;clear m7 g0
   go_loopg [23] (m.a.rows.length) (λk v23 wq=>∃(j:Nat)(s2:CS),j+k=m.a.rows.length/\v23=.int .i64 j/\Kp (CF c va) w wq/\CI wq c tb s2 va/\(m.a.rows.drop j).foldl (λs r=>s.ref (cg gs r) 3 (da r)) s2=m.a.rows.foldl (λs r=>s.ref (cg gs r) 3 (da r)) s1)
   case atStart=>exact⟨0,s1,by omega,rfl,HK.out,ki.out,rfl⟩
   case round=>
    obtain⟨j,s2,hj,rfl,fW,alg,hF2⟩:=hrel;have iG:=ae fW;have agx:=ae alg;have Fe:=ae hF2;clear fW alg hF2
    by_cases Q9:j<m.a.rows.length
    ·have agy:(j:Int)<m.a.rows.length:=by omega
     have zg:(0:Int)<=j:=by omega
     have HTq:=ae (tj.out.iF (H0.out.toBelow iG.out));obtain⟨ar',cr',hv',hrr⟩:=T9.out wr HTq.out;rw[HVR.out]at hv'
     cases hv'
     obtain⟨gr,rfl,mK,hcc⟩:=hrr j Q9;obtain⟨r,hr⟩:∃r,r=m.a.rows[j]:=⟨_,rfl⟩;rw[<-hr]at hcc;obtain⟨Tg,xg,hg⟩:=bI r.g;simp only [fO,hg,Jd]at hcc;have alh:=ae (show(m.a.rows.drop (j+1)).foldl (λs r=>s.ref (cg gs r) 3 (da r)) (s2.ref (cg gs r) 3 (da r))=m.a.rows.foldl (λs r=>s.ref (cg gs r) 3 (da r)) s1 by rw[<-Fe.out,List.drop_eq_getElem_cons Q9,List.foldl_cons,<-hr]);have HDB:=ae (P1 gs r);have HDL:=ae (L3 r);generalize qH r=t at*;generalize hst:r.dest.isNone=st at*;have z0:wr.cell? ⟨gr,j*10,none⟩=some (.int .i64 (ao r.wh.k)):=hcc 0 (by omega);have z1:wr.cell? ⟨gr,j*10+1,none⟩=some (.string r.wh.s):=hcc 1 (by omega);have z2:wr.cell? ⟨gr,j*10+2,none⟩=some (.int .i64 r.wh.n):=hcc 2 (by omega);have z3:wr.cell? ⟨gr,j*10+3,none⟩=some (.int .i64 r.wh.line):=hcc 3 (by omega);have z4:wr.cell? ⟨gr,j*10+4,none⟩=some (.iface Tg xg):=hcc 4 (by omega);have z5:wr.cell? ⟨gr,j*10+5,none⟩=some (.bool st):=hcc 5 (by omega);have z6:wr.cell? ⟨gr,j*10+6,none⟩=some (.int .i64 (ao t.k)):=hcc 6 (by omega);have z7:wr.cell? ⟨gr,j*10+7,none⟩=some (.string t.s):=hcc 7 (by omega);have z8:wr.cell? ⟨gr,j*10+8,none⟩=some (.int .i64 t.n):=hcc 8 (by omega);have z9:wr.cell? ⟨gr,j*10+9,none⟩=some (.int .i64 t.line):=hcc 9 (by omega);have ql:¬wr.heap.size=c:=by have:=agx.out.lt;omega
     have hB:Below wr.heap.size wr (wr.alloc (.cells #[.int .i64 (ao r.wh.k),.string r.wh.s,.int .i64 r.wh.n,.int .i64 r.wh.line,.iface Tg xg,.bool st,.int .i64 (ao t.k),.string t.s,.int .i64 t.n,.int .i64 t.line] 232)):=(Below.refl _ _).alloc (Nat.le_refl _) _;have fM:=ae (heap_alloc_new wr (.cells #[.int .i64 (ao r.wh.k),.string r.wh.s,.int .i64 r.wh.n,.int .i64 r.wh.line,.iface Tg xg,.bool st,.int .i64 (ao t.k),.string t.s,.int .i64 t.n,.int .i64 t.line] 232));have HX:=ae (agx.out.below hB);have HTX:=ae (HTq.out.below hB);have HKX:Hid (Kp (CF c va) w (wr.alloc (.cells #[.int .i64 (ao r.wh.k),.string r.wh.s,.int .i64 r.wh.n,.int .i64 r.wh.line,.iface Tg xg,.bool st,.int .i64 (ao t.k),.string t.s,.int .i64 t.n,.int .i64 t.line] 232))):=ae (iG.out.alloc _);have wP:wr.heap.size<(wr.alloc (.cells #[.int .i64 (ao r.wh.k),.string r.wh.s,.int .i64 r.wh.n,.int .i64 r.wh.line,.iface Tg xg,.bool st,.int .i64 (ao t.k),.string t.s,.int .i64 t.n,.int .i64 t.line] 232)).heap.size:=by simp
     clear hcc hg hr hrr hst hB;go_wp2_with fail;generalize wr.alloc (.cells #[.int .i64 (ao r.wh.k),.string r.wh.s,.int .i64 r.wh.n,.int .i64 r.wh.line,.iface Tg xg,.bool st,.int .i64 (ao t.k),.string t.s,.int .i64 t.n,.int .i64 t.line] 232)=X at*;clear z0 z1 z2 z3 z4 z5 z6 z7 z8 z9;obtain⟨a0,a1,a2,a3,a4,a5,a6,a7,a8,a9⟩:=Fx fM.out;clear a0 a1 a2 a3 a4;obtain⟨_,_,v2,_,_,Fu,_⟩:=HTX.out.cells;have Xu:=HX.out.lt;have ntc:¬tb=c:=by omega
     cases st with
     |true=>
      have HB:=ae (show s2.ref false 3 t.line=s2.ref (cg gs r) 3 (da r) by rw[HDB.out,HDL.out];rfl);refine wp_region_held_drew (S:=λY=>Y.cell? ⟨wr.heap.size,5,none⟩=some (.bool true)/\Y.cell? ⟨wr.heap.size,6,none⟩=some (.int .i64 (ao t.k))/\Y.cell? ⟨wr.heap.size,7,none⟩=some (.string t.s)/\Y.cell? ⟨wr.heap.size,8,none⟩=some (.int .i64 t.n)/\Y.cell? ⟨wr.heap.size,9,none⟩=some (.int .i64 t.line)) (by kernel_rfl) ⟨a5,a6,a7,a8,a9⟩ (λhHeld=>?_);refine wpAnyH_take (i:=0) (v:=?_) rfl (by kernel_rfl) (by kernel_rfl) (by kernel_rfl) (λ_ _ _ h=>h) (Or.inl ⟨by rfl,?_⟩) hHeld ?_;rotate_left
      ·intro w gO;(try dsimp only at gO);go_simp;(try with_reducible rfl)
      (try simp only [Act.put,qA,qB,qC,qD,qE])
      refine wpAnyH_take (i:=1) (v:=?_) rfl (by kernel_rfl) (by kernel_rfl) (by kernel_rfl) (λ_ _ _ h=>h) (Or.inl ⟨by rfl,?_⟩) hHeld ?_;rotate_left
      ·intro w gO;(try dsimp only at gO);go_simp;(try with_reducible rfl)
      (try simp only [Act.put,qA,qB,qC,qD,qE,qF])
      refine wpAnyH_take (i:=2) (v:=?_) rfl (by kernel_rfl) (by kernel_rfl) (by kernel_rfl) (λ_ _ _ h=>h) (Or.inl ⟨by rfl,?_⟩) hHeld ?_;rotate_left
      ·intro w gO;(try dsimp only at gO);go_simp;(try with_reducible rfl)
      (try simp only [Act.put,qA,qB,qC,qD,qE,qF])
      refine wpAnyH_take (i:=3) (v:=?_) rfl (by kernel_rfl) (by kernel_rfl) (by kernel_rfl) (λ_ _ _ h=>h) (Or.inl ⟨by rfl,?_⟩) hHeld ?_;rotate_left
      ·intro w gO;(try dsimp only at gO);go_simp;(try with_reducible rfl)
      (try simp only [Act.put,qA,qB,qC,qD,qE,qF])
      refine wpAnyH_take (i:=4) (v:=?_) rfl (by kernel_rfl) (by kernel_rfl) (by kernel_rfl) (λ_ _ _ h=>h) (Or.inl ⟨by rfl,?_⟩) hHeld ?_;rotate_left
      ·intro w gO;(try dsimp only at gO);go_simp;(try with_reducible rfl)
      (try simp only [Act.put,qA,qB,qC,qD,qE,qF])
      refine wpAnyH_take (i:=5) rfl (by kernel_rfl) (by kernel_rfl) (by kernel_rfl) (λ_ _ _ h=>h) (Or.inr ⟨by rfl,rfl⟩) hHeld ?_
      (try simp only [Act.put,qA,qB,qC,qD,qE,qF])
      refine wpAnyH_take (i:=6) rfl (by kernel_rfl) (by kernel_rfl) (by kernel_rfl) (λ_ _ _ h=>h) (Or.inr ⟨by rfl,rfl⟩) hHeld ?_
      (try simp only [Act.put,qA,qB,qC,qD,qE,qF])
      refine wpAnyH_take (i:=7) rfl (by kernel_rfl) (by kernel_rfl) (by kernel_rfl) (λ_ _ _ h=>h) (Or.inr ⟨by rfl,rfl⟩) hHeld ?_
      (try simp only [Act.put,qA,qB,qC,qD,qE,qF])
      refine wpAnyH_take (i:=8) rfl (by kernel_rfl) (by kernel_rfl) (by kernel_rfl) (λ_ _ _ h=>h) (Or.inr ⟨by rfl,rfl⟩) hHeld ?_
      (try simp only [Act.put,qA,qB,qC,qD,qE,qF])
      refine wpAnyH_take (i:=9) rfl (by kernel_rfl) (by kernel_rfl) (by kernel_rfl) (λ_ _ _ h=>h) (Or.inr ⟨by rfl,rfl⟩) hHeld ?_
      (try simp only [Act.put,qA,qB,qC,qD,qE,qF])
      refine wpAnyH_take (i:=10) rfl (by kernel_rfl) (by kernel_rfl) (by kernel_rfl) (λ_ _ _ h=>h) (Or.inr ⟨by rfl,rfl⟩) hHeld ?_
      (try simp only [Act.put,qA,qB,qC,qD,qE,qF])
      refine wpAnyH_take (i:=11) rfl (by kernel_rfl) (by kernel_rfl) (by kernel_rfl) (λ_ _ _ h=>h) (Or.inr ⟨by rfl,rfl⟩) hHeld ?_
      (try simp only [Act.put,qA,qB,qC,qD,qE,qF])
      refine wpAnyH_take (i:=12) rfl (by kernel_rfl) (by kernel_rfl) (by kernel_rfl) (λ_ _ _ h=>h) (Or.inr ⟨by rfl,rfl⟩) hHeld ?_
      (try simp only [Act.put,qA,qB,qC,qD,qE,qF])
      refine wpAnyH_take (i:=13) rfl (by kernel_rfl) (by kernel_rfl) (by kernel_rfl) (λ_ _ _ h=>h) (Or.inr ⟨by rfl,rfl⟩) hHeld ?_
      (try simp only [Act.put,qA,qB,qC,qD,qE,qF])
      refine wpAnyH_take (i:=14) rfl (by kernel_rfl) (by kernel_rfl) (by kernel_rfl) (λ_ _ _ h=>h) (Or.inr ⟨by rfl,rfl⟩) hHeld ?_
      (try simp only [Act.put,qA,qB,qC,qD,qE,qF])
      refine wpAnyH_take (i:=15) rfl (by kernel_rfl) (by kernel_rfl) (by kernel_rfl) (λ_ _ _ h=>h) (Or.inr ⟨by rfl,rfl⟩) hHeld ?_
      (try simp only [Act.put,qA,qB,qC,qD,qE,qF])
      refine wpAnyH_take (i:=16) rfl (by kernel_rfl) (by kernel_rfl) (by kernel_rfl) (λ_ _ _ h=>h) (Or.inr ⟨by rfl,rfl⟩) hHeld ?_
      (try simp only [Act.put,qA,qB,qC,qD,qE,qF])
      refine wpAnyH_take (i:=17) (v:=?_) rfl (by kernel_rfl) (by kernel_rfl) (by kernel_rfl) (λ_ _ _ h=>h) (Or.inl ⟨by rfl,?_⟩) hHeld ?_;rotate_left
      ·intro w gO;(try dsimp only at gO);go_simp;(try with_reducible rfl)
      (try simp only [Act.put,qA,qB,qC,qD,qE,qF])
      refine wpAnyH_take (i:=18) (v:=?_) rfl (by kernel_rfl) (by kernel_rfl) (by kernel_rfl) (λ_ _ _ h=>h) (Or.inl ⟨by rfl,?_⟩) hHeld ?_;rotate_left
      ·intro w gO;(try dsimp only at gO);go_simp;(try with_reducible rfl)
      (try simp only [Act.put,qA,qB,qC,qD,qE,qF])
      refine wpAnyH_take (i:=19) (v:=?_) rfl (by kernel_rfl) (by kernel_rfl) (by kernel_rfl) (λ_ _ _ h=>h) (Or.inl ⟨by rfl,?_⟩) hHeld ?_;rotate_left
      ·intro w gO;(try dsimp only at gO);go_simp;(try with_reducible rfl)
      (try simp only [Act.put,qA,qB,qC,qD,qE,qF])
      refine wpAnyH_ready (rs:=[20]) (by kernel_rfl) (by simp) ?_;refine AllReadyH.cons rfl (λK hK=>?_) AllReadyH.nil
      go_simp
      refine(cN _ c tb (s2.rows) va s2.cl _ 3 t ?_).mono ?_
      ·exact HX.out.box
      intro e w5 fP;obtain rfl:=fP.ret;have HC5:=ae (CI.ref (show CI X.drew c tb s2 va from⟨HX.out.box,HX.out.own⟩) fP).1;have zm:=ae (HKX.out.drew.trans fP.kept (λ_ e=>.inl (.inl e)));refine hK.out _ _ ⟨(fP.kept.cell wP ql).trans a5,(fP.kept.cell wP ql).trans a6,(fP.kept.cell wP ql).trans a7,(fP.kept.cell wP ql).trans a8,(fP.kept.cell wP ql).trans a9⟩ (λ_=>?_);clear hK K fP
      (try simp only [Act.put,qA,qB,qC,qD,qE,qF])
      refine wpAnyH_done (by kernel_rfl) ?_ _;go_wp2_with fail
      go_roundg (m.a.rows.length-(j+1))
      case measure=>omega
      case rel=>exact⟨j+1,s2.ref (cg gs r) 3 (da r),by omega,by go_num,zm.out,by rw[<-HB.out];exact HC5.out,alh.out⟩
     |false=>
      have HB:=ae (show s2.ref (!(gs.any (dV t.s))) 3 t.line=s2.ref (cg gs r) 3 (da r) by rw[HDB.out,HDL.out];rfl);have y0:=dt HX.out.box
      have CK:=ae (λY hY=>by
       have:=vC Y (.slice (some ⟨gm,0,none⟩) gs.length Gd) gs.length gs t.s (HTX.out.below hY).TU ck;rw[List.take_length]at this
       exact this)
      generalize gs.any (dV t.s)=bv at*
      go_region_held3 (λY=>Y.cell? ⟨c,0,none⟩=some (.pointer (some ⟨tb,0,none⟩))/\Y.cell? ⟨tb,2,none⟩=some (.slice (some ⟨gm,0,none⟩) gs.length Gd)/\Y.cell? ⟨wr.heap.size,5,none⟩=some (.bool false)/\Y.cell? ⟨wr.heap.size,6,none⟩=some (.int .i64 (ao t.k))/\Y.cell? ⟨wr.heap.size,7,none⟩=some (.string t.s)/\Y.cell? ⟨wr.heap.size,8,none⟩=some (.int .i64 t.n)/\Y.cell? ⟨wr.heap.size,9,none⟩=some (.int .i64 t.line)) (first|go_keep|(exact⟨by with_reducible assumption,by with_reducible assumption,by with_reducible assumption,by with_reducible assumption,by with_reducible assumption,by with_reducible assumption,by with_reducible assumption⟩))
       (first
        |(go_at_call 159;refine(CK.out _ ?_).mono ?_;exact⟨rfl,rfl,rfl,Nat.le_refl _,λ_ _=>rfl⟩;rintro e w4 ⟨rfl,er⟩;have q0:=(er.cell Xu).trans y0;have q1:=(er.cell Fu).trans v2;have q5:=(er.cell wP).trans a5;have q6:=(er.cell wP).trans a6;have q7:=(er.cell wP).trans a7;have q8:=(er.cell wP).trans a8;have q9:=(er.cell wP).trans a9;have PU:=Nat.lt_of_lt_of_le wP er.size;have UT:=Nat.lt_of_lt_of_le Fu er.size)
        |(go_at_call 156;refine(cN _ c tb (s2.rows) va s2.cl _ 3 t ?_).mono ?_;exact(er.block c Xu).trans HX.out.box;intro e w5 fP;obtain rfl:=fP.ret;have p0:=dt fP.box;have p1:=(fP.kept.cell UT ntc).trans q1;have p5:=(fP.kept.cell PU ql).trans q5;have p6:=(fP.kept.cell PU ql).trans q6;have p7:=(fP.kept.cell PU ql).trans q7;have p8:=(fP.kept.cell PU ql).trans q8;have p9:=(fP.kept.cell PU ql).trans q9))
      have yG:Below X.heap.size X w4:=⟨er.os,er.tape,er.output,er.size,er.block⟩;have HC5:=ae ((HX.out.below yG).ref fP).1;have zm:=ae ((HKX.out.below yG).trans fP.kept (λ_ e=>.inl (.inl e)));clear er yG fP y0 v2 q0 q1 q5 q6 q7 q8 q9 p0 p1 p5 p6 p7 p8 p9 a5 a6 a7 a8 a9;go_wp2_with fail
      go_roundg (m.a.rows.length-(j+1))
      case measure=>omega
      case rel=>exact⟨j+1,s2.ref (cg gs r) 3 (da r),by omega,by go_num,zm.out,by rw[<-HB.out];exact HC5.out,alh.out⟩
    ·have agy:¬(j:Int)<m.a.rows.length:=by omega
     have HE:=ae (show s2=m.a.rows.foldl (λs r=>s.ref (cg gs r) 3 (da r)) s1 by rw[<-Fe.out,List.drop_of_length_le (by omega)];rfl);go_wp2_with fail
     go_roundg (gs.length-(i+1))
     case measure=>omega
     case rel=>exact⟨i+1,s2,by omega,by go_num,iG.out,agx.out,by rw[<-HF.out,lj.out,HE.out]⟩
  ·have mQ:¬(i:Int)<gs.length:=by omega
   have HE:=ae (show s1=dT gs gs s by rw[<-HF.out,List.drop_of_length_le (by omega)];rfl);go_wp2_with fail;go_end0;exact⟨rfl,HK.out,va,by rw[<-HE.out];exact ki.out,λ_ e=>.inl e⟩
