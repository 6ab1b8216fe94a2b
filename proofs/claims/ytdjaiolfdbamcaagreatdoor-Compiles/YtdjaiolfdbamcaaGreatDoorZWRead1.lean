/- What Read answers, by the text alone; and the walk of the program's Read. -/
import Derived.Test.YtdjaiolfdbamcaaGreatDoorZWChk13
set_option maxRecDepth 20000
set_option maxHeartbeats 4000000
namespace Go.Proofs.YtdjaiolfdbamcaaGreatDoor
open Go.RowKit
variable {w:World}{b:Nat}{c l:Int}{T:TypeId}
def kE(s:ByteArray)(code line:Nat):Prop:=
 (3000<s.size/\code=1/\line=0)\/(s.size<=3000/\((Hx.lex s.data.toList=.inl line/\code=2)\/∃ts,Hx.lex s.data.toList=.inr ts/\
  ((Hx.F5 [Hx.b9] ts line/\1<=line/\code=2)\/(Hx.F5 [Hx.b9] ts 0/\∃n S,Hx.dk n ts (-1) 0 false Hx.St.zero=some S/\(fi S).code=code/\(fi S).line=line/\code≠0))))
def gM(s:ByteArray)(ts:List Hx.Tok):Prop:=
 s.size<=3000/\Hx.lex s.data.toList=.inr ts/\Hx.F5 [Hx.b9] ts 0/\∃n S,Hx.dk n ts (-1) 0 false Hx.St.zero=some S/\(fi S).code=0
theorem MB{base e:Nat}{v:Value}{ts:List Hx.Tok}(h:w.ownsRow base e 4 v ts.length (Aa ts))(hn:0<ts.length):∃g cap,v=.slice (some ⟨g,0,none⟩) ts.length cap/\base<=g/\g<w.heap.size/\kC w g ts:=by
 obtain⟨g,cap,hv,yh,hg,_,_,hc⟩:=aR h hn;have hf:=λi hi j hj=>sP FN 4 ts (λ_=>rfl) i j hi hj
 exact⟨g,cap,hv,yh,hg,λi hi=>⟨(hc (i*4+0) (by omega)).trans (hf i hi 0 (by omega)),(hc (i*4+1) (by omega)).trans (hf i hi 1 (by omega)),(hc (i*4+2) (by omega)).trans (hf i hi 2 (by omega)),(hc (i*4+3) (by omega)).trans (hf i hi 3 (by omega))⟩⟩
structure FC(w:World)(b:Nat)(c l:Int):Prop where
 c0:w.cell? ⟨b,0,none⟩=some (.int .i64 c)
 c1:w.cell? ⟨b,1,none⟩=some (.int .i64 l)
 c2:w.cell? ⟨b,2,none⟩=some (.string ⟨#[]⟩)
 c3:w.cell? ⟨b,3,none⟩=some (.slice none 0 0)
 c4:w.cell? ⟨b,4,none⟩=some (.slice none 0 0)
 f0:w.frozen? ⟨b,0,none⟩=false
 f1:w.frozen? ⟨b,1,none⟩=false
 f2:w.frozen? ⟨b,2,none⟩=false
 f3:w.frozen? ⟨b,3,none⟩=false
 f4:w.frozen? ⟨b,4,none⟩=false
theorem f9(h:w.heap[b]?=some (.cells (ay c l) T (0,0))):FC w b c l:=
 ⟨Lib.cell_of_heap h 0,Lib.cell_of_heap h 1,Lib.cell_of_heap h 2,Lib.cell_of_heap h 3,Lib.cell_of_heap h 4,Lib.frozen_of_heap h 0,Lib.frozen_of_heap h 1,Lib.frozen_of_heap h 2,Lib.frozen_of_heap h 3,Lib.frozen_of_heap h 4⟩
theorem uM{c' l':Int}(h:w.heap[b]?=some (.cells (ay c l) T (0,0))):(qq w b (.int .i64 c') (.int .i64 l') (.string ⟨#[]⟩) (.slice none 0 0) (.slice none 0 0)).heap[b]?=some (.cells (ay c' l') T (0,0)):=
 aE (o:=4) (aE (o:=3) (aE (o:=2) (aE (o:=1) (aE (o:=0) h))))
def Io(ts:List Hx.Tok)(vs:List az)(ms:List Hx.MA):Prop:=xO ts vs ms/\∃n,Hx.dk n ts (-1) 0 false Hx.St.zero=some ((fY Hx.St.zero vs).cT ms)
def ag1(w:World)(tb:Nat)(ts:List Hx.Tok):Prop:=
 ∃(base:Nat)(vt vv vm:Value)(vs:List az)(gs:List MG),PT w base tb vt vs gs (λk=>k<w.heap.size) vv vm/\Links gs/\Io ts vs (gs.map (·.a))/\(jl vs gs).cl.1=0/\vs.length<=3001/\gs.length<=3001
def alV(s:ByteArray)(w:World)(e:Ending)(w':World):Prop:=
 Below w.heap.size w w'/\((∃code line:Nat,e=.returned (.tuple #[.pointer none,.agg (ay code line)])/\kE s code line/\code≠0)\/
  ∃(tb gt cap:Nat)(ts:List Hx.Tok),e=.returned (.tuple #[.pointer (some ⟨tb,0,none⟩),.agg (ay 0 0)])/\w'.cell? ⟨tb,0,none⟩=some (.slice (some ⟨gt,0,none⟩) ts.length cap)/\kC w' gt ts/\gt<w'.heap.size/\gM s ts/\ag1 w' tb ts)
theorem UF(s:ByteArray)(w:World)(hs:s.size<=maxLen)(rk:fg w)(ic:∀W,Below w.heap.size w W->Lib.TabIs Tryz.prog W "internal/strconv.uint64pow10" .u64 Lib.pow10Tab):
  Calls Tryz.prog 44 #[.string s] w λe w'=>alV s w e w':=by
 unfold maxLen at hs;have gf:Below w.heap.size w (w.alloc (.cells (ay 0 0) 34)):=(Below.refl _ _).alloc (Nat.le_refl _) _;have ov:(w.alloc (.cells (ay 0 0) 34)).heap[w.heap.size]?=some (.cells (ay 0 0) 34 (0,0)):=heap_alloc_new w _;have dA:(w.alloc (.cells (ay 0 0) 34)).heap.size=w.heap.size+1:=by simp
 have UE:fg (w.alloc (.cells (ay 0 0) 34)):=rk.below gf (Nat.le_refl _);have FO:=ae ic;clear ic
 by_cases arR:3000<s.size
 ·have mX:(3000:Int)<s.size:=by omega
  clear gf ov dA UE;go_enter Tryz.func44,Tryz.ntmps44;go_wp2_with fail;refine bodyPost_ret (v:=.tuple #[.pointer none,.agg #[.int .i64 1,.int .i64 0,.string ⟨#[]⟩,.slice none 0 0,.slice none 0 0]]) (by simp[results,Tryz.results44,go_sem]) rfl ?_;exact⟨(Below.refl _ _).alloc (Nat.le_refl _) _,.inl ⟨1,0,rfl,.inl ⟨arR,rfl,rfl⟩,by decide⟩⟩
 ·have mX:¬(3000:Int)<s.size:=by omega
  have Lu:=ae (VE s (w.alloc (.cells (ay 0 0) 34)) (by omega) UE (λW hW=>FO.out W (gf.trans (hW.mono (by omega)))));have b6:=ae gf;have og:=ae ov;clear gf ov;rw[dA]at Lu;go_enter Tryz.func44,Tryz.ntmps44;go_wp2_with fail;refine Lu.out.mono ?_;rintro e w2 ⟨hp,aT⟩;have kc:=b6.out.trans (aT.mono (by omega));have mY:=(aT.block w.heap.size (by omega)).trans og.out;have jT:=aT.size;rw[dA]at jT
  cases kg:Hx.lex s.data.toList with
  |inl line=>
   rw[kg]at hp;have ER:e=.returned (.tuple #[.slice none 0 0,.agg (ay 2 line)]):=hp;subst ER;have Q8:=ae kg;have ym:=heap_alloc_new w2 (.cells (ay 2 line) 34);have rG:=(((Below.refl w2.heap.size w2).alloc (Nat.le_refl _) (.cells (ay 2 line) 34)).block w.heap.size (by omega)).trans mY;have mc:=kc.alloc (by omega) (.cells (ay 2 line) 34);clear hp aT kc mY kg;unfold ay at ym rG mc|-;go_wp2_with fail;generalize w2.alloc (.cells #[.int .i64 2,.int .i64 line,.string ⟨#[]⟩,.slice none 0 0,.slice none 0 0] 34)=X at*;obtain⟨a0,a1,a2,a3,a4,_,_,_,_,_⟩:=f9 (c:=2) (l:=line) ym;obtain⟨y0,y1,y2,y3,y4,z0,z1,z2,z3,z4⟩:=f9 (c:=0) (l:=0) rG;have fM:Hid (Below w.heap.size w X.drew):=ae ⟨mc.os,mc.tape,mc.output,mc.size,mc.block⟩;clear rG ym mc
   go_region
   all_goals
    go_wp2_with fail;refine bodyPost_ret (v:=.tuple #[.pointer none,.agg #[.int .i64 2,.int .i64 line,.string ⟨#[]⟩,.slice none 0 0,.slice none 0 0]]) (by simp[results,Tryz.results44,go_sem, *]) rfl ?_;exact⟨dh fM.out,.inl ⟨2,line,rfl,.inr ⟨by omega,.inl ⟨Q8.out,rfl⟩⟩,by decide⟩⟩
  |inr ts=>
   rw[kg]at hp;obtain⟨v,rfl,aJ⟩:=hp;obtain⟨Fh,zI,h0,kM,_⟩:=Hx.yc s.data.toList (by simp;omega) ts kg;obtain⟨gt,cap,rfl,yh,hg,hm⟩:=MB aJ h0;have arS:gt≠w.heap.size:=by omega
   have Q8:=ae kg;have arT:=ae kM;have ym:=heap_alloc_new w2 (.cells (ay 0 0) 34);have lS:Below w2.heap.size w2 (w2.alloc (.cells (ay 0 0) 34)):=(Below.refl _ _).alloc (Nat.le_refl _) _;have rG:=(lS.block w.heap.size (by omega)).trans mY;have mc:=kc.alloc (by omega) (.cells (ay 0 0) 34);have hmX:kC (w2.alloc (.cells (ay 0 0) 34)) gt ts:=λi hi=>⟨(lS.cell hg).trans (hm i hi).1,(lS.cell hg).trans (hm i hi).2.1,(lS.cell hg).trans (hm i hi).2.2.1,(lS.cell hg).trans (hm i hi).2.2.2⟩
   have hgX:gt<(w2.alloc (.cells (ay 0 0) 34)).heap.size:=Nat.lt_of_lt_of_le hg lS.size;have TH:(w2.alloc (.cells (ay 0 0) 34)).heap.size=w2.heap.size+1:=by simp
   have LA:=ae (PZ (w2.alloc (.cells (ay 0 0) 34)) gt cap ts hmX hgX h0 Fh);have wA:=Fh.oM;clear aJ kg aT kc mY hm zI Fh kM lS;rw[show(ay 0 0:Array Value)=#[.int .i64 0,.int .i64 0,.string ⟨#[]⟩,.slice none 0 0,.slice none 0 0]from rfl]at*;go_wp2_with fail;generalize w2.alloc (.cells #[.int .i64 0,.int .i64 0,.string ⟨#[]⟩,.slice none 0 0,.slice none 0 0] 34)=X at*;refine LA.out.mono ?_;rintro e w4 ⟨er,Iq⟩;have hs4:=er.size;have hF4:=(er.block w2.heap.size (by omega)).trans ym;have hR4:=(er.block w.heap.size (by omega)).trans rG;have hB4:=mc.trans (er.mono (by omega));clear LA ym rG mc;rcases Iq with⟨line,rfl,hrun,t,ht,rfl⟩|⟨tb,vs,gs,vv,vm,rfl,uC,hmA,hL,hrun,htd,kz,ck,n,qo⟩
   ·have JF:=ae hrun
    have nW:1<=t.line:=arT.out t ht;have Is:=uM (c':=2) (l':=t.line) (c:=0) (l:=0) hF4;have DT:=kF (Kp.refl (λk=>k=w2.heap.size) w4) (.inl rfl) (.int .i64 2) (.int .i64 t.line) (.string ⟨#[]⟩) (.slice none 0 0) (.slice none 0 0);have hY0:=(DT.block w.heap.size (by omega) (by omega)).trans hR4;have DY:Below w.heap.size w (qq w4 w2.heap.size (.int .i64 2) (.int .i64 t.line) (.string ⟨#[]⟩) (.slice none 0 0) (.slice none 0 0)):=hB4.trans (DT.toBelow (λk e=>by omega) (by omega));obtain⟨y0,y1,y2,y3,y4,z0,z1,z2,z3,z4⟩:=f9 (c:=0) (l:=0) hF4;have Q7:=ae Is;have HY0:=ae hY0;have fR:=ae DY;clear Is hY0 DY DT hF4 hR4 hB4 er hrun ht;unfold ay;go_wp2_with fail;show Code.wp _ _ _ _ (qq w4 w2.heap.size (.int .i64 2) (.int .i64 t.line) (.string ⟨#[]⟩) (.slice none 0 0) (.slice none 0 0));generalize qq w4 w2.heap.size (.int .i64 2) (.int .i64 t.line) (.string ⟨#[]⟩) (.slice none 0 0) (.slice none 0 0)=Y at*;clear y0 y1 y2 y3 y4 z0 z1 z2 z3 z4;obtain⟨a0,a1,a2,a3,a4,_,_,_,_,_⟩:=f9 (c:=2) (l:=t.line) Q7.out;obtain⟨y0,y1,y2,y3,y4,z0,z1,z2,z3,z4⟩:=f9 (c:=0) (l:=0) HY0.out;have HBD:Hid (Below w.heap.size w Y.drew):=ae ⟨fR.out.os,fR.out.tape,fR.out.output,fR.out.size,fR.out.block⟩
    go_region
    all_goals
     go_wp2_with fail;refine bodyPost_ret (v:=.tuple #[.pointer none,.agg #[.int .i64 2,.int .i64 t.line,.string ⟨#[]⟩,.slice none 0 0,.slice none 0 0]]) (by simp[results,Tryz.results44,go_sem, *]) rfl ?_;exact⟨dh HBD.out,.inl ⟨2,t.line,rfl,.inr ⟨by omega,.inr ⟨ts,Q8.out,.inl ⟨JF.out,nW,rfl⟩⟩⟩,by decide⟩⟩
   ·obtain⟨hEq,hAt,hRo⟩:=xJ vs gs hL
    have HTD:Hid (Io ts vs (gs.map (·.a))):=ae ⟨htd,n,qo⟩;have D3:=Sv n _ _ _ _ _ _ qo;have alX:=D3.1;have alY:=D3.2;rw[show Hx.St.zero.atoms.length=0 from rfl]at alX;rw[show Hx.St.zero.rows=0 from rfl]at alY;have JF:=ae hrun;have ab9:=ae qo;have DT:=kF (Kp.refl (λk=>k=w2.heap.size) w4) (.inl rfl) (.int .i64 0) (.int .i64 0) (.string ⟨#[]⟩) (.slice none 0 0) (.slice none 0 0);have Is:=uM (c':=0) (l':=0) (c:=0) (l:=0) hF4;have hY0:=(DT.block w.heap.size (by omega) (by omega)).trans hR4;have DY:Below w.heap.size w (qq w4 w2.heap.size (.int .i64 0) (.int .i64 0) (.string ⟨#[]⟩) (.slice none 0 0) (.slice none 0 0)):=hB4.trans (DT.toBelow (λk e=>by omega) (by omega));have Qx:=uC.kept DT (λk hF e=>by omega);have Ev:=uC.cells.2.2.2.2.2.1;have VF:gt<w4.heap.size:=by omega
    have hmY:kC (qq w4 w2.heap.size (.int .i64 0) (.int .i64 0) (.string ⟨#[]⟩) (.slice none 0 0) (.slice none 0 0)) gt ts:=λi hi=>⟨(DT.cell VF (by omega)).trans (hmA i hi).1,(DT.cell VF (by omega)).trans (hmA i hi).2.1,(DT.cell VF (by omega)).trans (hmA i hi).2.2.1,(DT.cell VF (by omega)).trans (hmA i hi).2.2.2⟩
    have CK:=P4 _ _ tb _ vv vm vs gs _ Qx hL kz ck (by rw[hAt];omega) (by rw[hRo];omega);have HCK:=ae CK;generalize ((fY Hx.St.zero vs).cT (gs.map (·.a)))=S at*;obtain⟨cc,ll,iH,lQ,lA,hc4⟩:∃cc ll:Nat,(jl vs gs).cl.1=cc/\(jl vs gs).cl.2=ll/\(fi S).code=cc/\(fi S).line=ll:=⟨_,_,hEq.1.symm,hEq.2.symm,rfl,rfl⟩;rw[iH,lQ]at HCK;have htb:=Qx.cells.1;have arW:=Qx.cells.2.2.2.2.2.1;have aca:gt<(qq w4 w2.heap.size (.int .i64 0) (.int .i64 0) (.string ⟨#[]⟩) (.slice none 0 0) (.slice none 0 0)).heap.size:=Nat.lt_of_lt_of_le VF DT.size;have hsY:=DT.size;have htF:w2.heap.size<tb:=by have:=Qx.cells.2.2.2.2.2.2;omega
    obtain⟨y0,y1,y2,y3,y4,z0,z1,z2,z3,z4⟩:=f9 (c:=0) (l:=0) hF4;have Q7:=ae Is;have HY0:=ae hY0;have fR:=ae DY;have HTB:=ae htb;have Ek:=ae hmY;have rN:=ae lA;have ot:=ae iH;have IF:=ae Qx;have Rc:=ae hL;have HC4:=ae hc4;clear CK hEq hAt hRo D3 hrun qo DT Is hY0 DY Qx uC hmA hmY htb iH lQ lA hc4 hF4 hR4 hB4 er hL htd;unfold ay dz;go_wp2_with fail;refine HCK.out.mono ?_;generalize hYY:qq w4 w2.heap.size (.int .i64 0) (.int .i64 0) (.string ⟨#[]⟩) (.slice none 0 0) (.slice none 0 0)=Y at*;rintro e w6 ⟨rfl,qQ⟩;clear hYY HCK y0 y1 y2 y3 y4 z0 z1 z2 z3 z4;have hs6:=qQ.size;have hF6:=(qQ.block w2.heap.size (by omega)).trans Q7.out;have hR6:=(qQ.block w.heap.size (by omega)).trans HY0.out;have hB6:=fR.out.trans (qQ.mono (by omega));have ht6:=(qQ.cell (p:=⟨tb,0,none⟩) arW).trans HTB.out;have hm6:kC w6 gt ts:=λi hi=>⟨(qQ.cell aca).trans (Ek.out i hi).1,(qQ.cell aca).trans (Ek.out i hi).2.1,(qQ.cell aca).trans (Ek.out i hi).2.2.1,(qQ.cell aca).trans (Ek.out i hi).2.2.2⟩
    have hP6:=IF.out.below qQ;have Ie:=kF (Kp.refl (λk=>k=w2.heap.size) w6) (.inl rfl) (.int .i64 cc) (.int .i64 ll) (.string ⟨#[]⟩) (.slice none 0 0) (.slice none 0 0);have hZ1:=uM (c':=cc) (l':=ll) (c:=0) (l:=0) hF6;have hZ0:=(Ie.block w.heap.size (by omega) (by omega)).trans hR6;have hBZ:Below w.heap.size w (qq w6 w2.heap.size (.int .i64 cc) (.int .i64 ll) (.string ⟨#[]⟩) (.slice none 0 0) (.slice none 0 0)):=hB6.trans (Ie.toBelow (λk e=>by omega) (by omega));have htZ:=(Ie.cell (b:=tb) (o:=0) (by omega) (by omega)).trans ht6;have hgZ:gt≠w2.heap.size:=by omega
    have hmZ:kC (qq w6 w2.heap.size (.int .i64 cc) (.int .i64 ll) (.string ⟨#[]⟩) (.slice none 0 0) (.slice none 0 0)) gt ts:=λi hi=>⟨(Ie.cell (by omega) hgZ).trans (hm6 i hi).1,(Ie.cell (by omega) hgZ).trans (hm6 i hi).2.1,(Ie.cell (by omega) hgZ).trans (hm6 i hi).2.2.1,(Ie.cell (by omega) hgZ).trans (hm6 i hi).2.2.2⟩
    have hsZ:=Ie.size;have HPZ:=ae (hP6.kept Ie (λk hF e=>by omega));obtain⟨y0,y1,y2,y3,y4,z0,z1,z2,z3,z4⟩:=f9 (c:=0) (l:=0) hF6;have vR:=ae hZ1;have HZ0:=ae hZ0;have nV:=ae hBZ;have HTZ:=ae htZ;have Xx:=ae hmZ;clear qQ hP6 IF hF6 hR6 hB6 ht6 hm6 Ie hZ1 hZ0 hBZ htZ hmZ;unfold ay;go_upto_region 10 with(fail);show Code.wp _ _ _ _ (qq w6 w2.heap.size (.int .i64 cc) (.int .i64 ll) (.string ⟨#[]⟩) (.slice none 0 0) (.slice none 0 0));generalize qq w6 w2.heap.size (.int .i64 cc) (.int .i64 ll) (.string ⟨#[]⟩) (.slice none 0 0) (.slice none 0 0)=Z at*;clear y0 y1 y2 y3 y4 z0 z1 z2 z3 z4;obtain⟨a0,a1,a2,a3,a4,_,_,_,_,_⟩:=f9 (c:=cc) (l:=ll) vR.out;obtain⟨y0,y1,y2,y3,y4,z0,z1,z2,z3,z4⟩:=f9 (c:=0) (l:=0) HZ0.out
    by_cases FX:cc=0
    ·have hcb:((cc:Int) !=0)=false:=by simp;omega
     have XA:Hid (gM s ts):=ae ⟨by omega,Q8.out,JF.out,n,S,ab9.out,by rw[rN.out];exact FX⟩;have arY:Hid ((jl vs gs).cl.1=0):=ae (by rw[ot.out,FX];rfl);clear FX;go_wp2_with fail;refine bodyPost_ret (v:=.tuple #[.pointer (some ⟨tb,0,none⟩),.agg #[.int .i64 0,.int .i64 0,.string ⟨#[]⟩,.slice none 0 0,.slice none 0 0]]) (by simp[results,Tryz.results44,go_sem, *]) rfl ?_;have Kj:=kF (Kp.refl (λk=>k=w.heap.size) Z) (.inl rfl) (.int .i64 0) (.int .i64 0) (.string ⟨#[]⟩) (.slice none 0 0) (.slice none 0 0);refine⟨dh nV.out,.inr ⟨tb,gt,cap,ts,rfl,(Kj.cell (b:=tb) (o:=0) (by omega) (by omega)).trans HTZ.out,λi hi=>?_,Nat.lt_of_lt_of_le (by omega) Kj.size,XA.out,_,_,_,_,vs,gs,(HPZ.out.kept Kj (λk hF e=>by omega)).lt,Rc.out,HTD.out,arY.out,kz,ck⟩⟩;have Ul:gt≠w.heap.size:=arS;exact⟨(Kj.cell (by omega) Ul).trans (Xx.out i hi).1,(Kj.cell (by omega) Ul).trans (Xx.out i hi).2.1,(Kj.cell (by omega) Ul).trans (Xx.out i hi).2.2.1,(Kj.cell (by omega) Ul).trans (Xx.out i hi).2.2.2⟩
    ·have hcb:((cc:Int) !=0)=true:=by simp;omega
     have HFO:Hid (kE s cc ll):=ae (.inr ⟨by omega,.inr ⟨ts,Q8.out,.inr ⟨JF.out,n,S,ab9.out,rN.out,HC4.out,FX⟩⟩⟩);have HC0:=ae FX;have HBD:Hid (Below w.heap.size w Z.drew):=ae ⟨nV.out.os,nV.out.tape,nV.out.output,nV.out.size,nV.out.block⟩;clear FX;go_wp2_with fail
     go_region
     all_goals
      go_wp2_with fail;refine bodyPost_ret (v:=.tuple #[.pointer none,.agg #[.int .i64 cc,.int .i64 ll,.string ⟨#[]⟩,.slice none 0 0,.slice none 0 0]]) (by simp[results,Tryz.results44,go_sem, *]) rfl ?_;exact⟨dh HBD.out,.inl ⟨cc,ll,rfl,HFO.out,HC0.out⟩⟩
