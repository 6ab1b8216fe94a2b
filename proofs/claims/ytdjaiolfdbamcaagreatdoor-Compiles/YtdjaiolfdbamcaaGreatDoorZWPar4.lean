/- Walks of the parser's next, skip, take. -/
import Derived.Test.YtdjaiolfdbamcaaGreatDoorZLexOk
set_option maxRecDepth 20000
set_option maxHeartbeats 400000
namespace Go.Proofs.YtdjaiolfdbamcaaGreatDoor
variable {w w' w1 w2:World}{A b cap d gt j j1 o tb:Nat}{l' ts:List Hx.Tok}{cs:Array Value}{T:TypeId}{v v0 v1 v2 v3:Value}{t:Hx.Tok}{was:Bool}
section
open Go.RowKit
structure fJ(w:World)(b gt cap tb:Nat)(ts:List Hx.Tok)(j:Nat):Prop where
 box:w.heap[b]?=some (.cells #[.slice (some ⟨gt,0,none⟩) ts.length cap,.int .i64 j,.pointer (some ⟨tb,0,none⟩)] 202 (0,0))
 gy:kC w gt ts
 lies:gt<w.heap.size
 ne:gt≠b
 lt:j<ts.length
 ok:Hx.S6 ts
theorem fJ.own(h:fJ w b gt cap tb ts j):b<w.heap.size:=(Array.getElem?_eq_some_iff.1 h.box).1
theorem fJ.kp{F:Nat->Prop}(h:fJ w b gt cap tb ts j)(hk:Kp F w w')(h1:¬F b)(h2:¬F gt):fJ w' b gt cap tb ts j:=
 ⟨(hk.block b h.own h1).trans h.box,λi hi=>⟨(hk.cell h.lies h2).trans (h.gy i hi).1,(hk.cell h.lies h2).trans (h.gy i hi).2.1,(hk.cell h.lies h2).trans (h.gy i hi).2.2.1,(hk.cell h.lies h2).trans (h.gy i hi).2.2.2⟩,
  Nat.lt_of_lt_of_le h.lies hk.size,h.ne,h.lt,h.ok⟩
theorem fJ.below(h:fJ w b gt cap tb ts j)(hb:Below w.heap.size w w'):fJ w' b gt cap tb ts j:=
 h.kp (F:=λ_=>False) (Kp.aK hb) id id
theorem gG(w:World)(b gt cap tb:Nat)(ts:List Hx.Tok)(j:Nat)(h:fJ w b gt cap tb ts j):
  Calls Tryz.prog 104 #[.pointer (some ⟨b,0,none⟩)] w λe w'=>e=.returned (zz (ts[j]'h.lt))/\Below w.heap.size w w':=by
 have HP:=ae h;obtain⟨t,ht⟩:∃t,t=ts[j]'h.lt:=⟨_,rfl⟩;rw[<-ht];obtain⟨p0,p1⟩:=iQ h.box;have hb:=h.own;have hg:=h.lies;obtain⟨q0,q1,q2,q3⟩:=h.gy j h.lt;rw[<-ht]at q0 q1 q2 q3;have hlt:(j:Int)<ts.length:=by have:=h.lt;omega
 have zg:(0:Int)<=j:=by omega
 obtain⟨kd,Fj⟩:∃kd,kd=ao t.k:=⟨_,rfl⟩;rw[<-Fj]at q0;have HKD:=ae Fj;clear Fj ht h;go_enter Tryz.func104,Tryz.ntmps104;go_wp2_with fail
 go_region_held3 (λW=>W.cell? ⟨b,0,none⟩=some (.slice (some ⟨gt,0,none⟩) ts.length cap)/\W.cell? ⟨b,1,none⟩=some (.int .i64 j)/\W.cell? ⟨gt,j*4,none⟩=some (.int .i64 kd)/\W.cell? ⟨gt,j*4+1,none⟩=some (.string t.s)/\W.cell? ⟨gt,j*4+2,none⟩=some (.int .i64 t.n)/\W.cell? ⟨gt,j*4+3,none⟩=some (.int .i64 t.line)) (go_keep) (fail)
 go_wp2_with fail;refine bodyPost_ret (v:=.agg #[.int .i64 kd,.string t.s,.int .i64 t.n,.int .i64 t.line]) (by simp[results,Tryz.results104,go_sem]) rfl ?_;refine⟨by rw[HKD.out];rfl,?_⟩;exact((Below.refl _ _).alloc (Nat.le_refl _) _).drew
theorem pU(t:Hx.Tok):zz t=.agg #[.int .i64 (ao t.k),.string t.s,.int .i64 t.n,.int .i64 t.line]:=rfl
theorem fJ.step(h:fJ w b gt cap tb ts j)(k:Nat)(hk:k<ts.length):fJ (w.setCell ⟨b,1,none⟩ (.int .i64 k)) b gt cap tb ts k:=by
 have hK:Kp (λx=>x=b) w (w.setCell ⟨b,1,none⟩ (.int .i64 k)):=(Kp.refl (λx=>x=b) w).setCell (.inl rfl) _;refine⟨?_,λi hi=>⟨(hK.cell h.lies h.ne).trans (h.gy i hi).1,(hK.cell h.lies h.ne).trans (h.gy i hi).2.1,(hK.cell h.lies h.ne).trans (h.gy i hi).2.2.1,(hK.cell h.lies h.ne).trans (h.gy i hi).2.2.2⟩,Nat.lt_of_lt_of_le h.lies hK.size,h.ne,hk,h.ok⟩;rw[setCell_eq_setRow w b 1 _ _ _ _ h.box,setRow_heap w b _ _ _ _ h.box];rfl
def ael(w:World)(b gt cap tb:Nat)(ts:List Hx.Tok)(j:Nat)(ok:Bool)(e:Ending)(w':World):Prop:=
 e=.returned (.bool ok)/\fJ w' b gt cap tb ts (if ok then j+1 else j)/\Kp (λk=>k=b) w w'
theorem Vb(w:World)(b gt cap tb:Nat)(ts:List Hx.Tok)(j:Nat)(m:ByteArray)(h:fJ w b gt cap tb ts j):
  Calls Tryz.prog 196 #[.pointer (some ⟨b,0,none⟩),.string m] w λe w'=>ael w b gt cap tb ts j (aq (ts[j]'h.lt) m.toList) e w':=by
 have HP:=ae h;have hn:aq (ts[j]'h.lt) m.toList=true->j+1<ts.length:=λe=>h.ok.fin j h.lt (λe2=>by grind[ao,aq])
 generalize hM:aq (ts[j]'h.lt) m.toList=ok at hn|-;have HM:=ae hM;have HN:=ae hn;have wA:=h.ok.oM;have iP:=h.lt;clear hM hn;go_enter Tryz.func196,Tryz.ntmps196;go_wp2_with fail;refine(gG w b gt cap tb ts j HP.out).mono ?_;rintro e w1 ⟨rfl,bH⟩;have b6:=ae bH;clear bH;go_wp2_with fail;refine(xZ (ts[j]'HP.out.lt) m w1).mono ?_;rintro e w2 ⟨rfl,aT⟩;rw[HM.out];have dH:=ae (b6.out.trans (aT.mono b6.out.size));have fQ:=ae (HP.out.below dH.out);have p0:=fS fQ.out.box;have f0:=Lib.frozen_of_heap fQ.out.box 1;clear aT
 cases ok with
 |false=>
  go_wp2_with fail;go_ret;exact⟨rfl,fQ.out,Kp.aK dH.out⟩
 |true=>
  have hw:IntKind.i64.wrap ((j)+1)=(j)+1:=IntWalk.i64_in _ (by omega);go_wp2_with fail;go_ret;refine⟨rfl,?_,(Kp.aK (F:=λk=>k=b) dH.out).setCell (.inl rfl) _⟩;exact fQ.out.step (j+1) (HN.out (by trivial))
theorem yB(W:World)(k n l:Int)(s:ByteArray):(Instr.field 149 (.agg #[.int .i64 k,.string s,.int .i64 n,.int .i64 l]) 0).run Tryz.prog W=.ok (.int .i64 k) W:=by kernel_rfl
theorem Mf(W:World)(k n l:Int)(s:ByteArray):(Instr.field 149 (.agg #[.int .i64 k,.string s,.int .i64 n,.int .i64 l]) 1).run Tryz.prog W=.ok (.string s) W:=by kernel_rfl
def agI(cs:Array Value)(o:Nat)(t:Hx.Tok):Array Value:=
 (((cs.setIfInBounds o (.int .i64 (ao t.k))).setIfInBounds (o+1) (.string t.s)).setIfInBounds (o+2) (.int .i64 t.n)).setIfInBounds (o+3) (.int .i64 t.line)
theorem aE(h:w.heap[d]?=some (.cells cs T (0,0))):
  (w.setCell ⟨d,o,none⟩ v).heap[d]?=some (.cells (cs.setIfInBounds o v) T (0,0)):=by
 grind[setCell_eq_setRow,setRow_heap]
theorem fJ.set(h:fJ w b gt cap tb ts j)(h1:d≠b)(h2:d≠gt):fJ (w.setCell ⟨d,o,none⟩ v) b gt cap tb ts j:=
 h.kp ((Kp.refl (λk=>k=d) w).setCell (p:=⟨d,o,none⟩) (.inl rfl) v) (λe=>h1 e.symm) (λe=>h2 e.symm)
structure Ee(w:World)(b gt cap tb:Nat)(ts:List Hx.Tok)(j d o:Nat)(cs:Array Value)(T:TypeId)(t:Hx.Tok)(ok:Bool)(e:Ending)(w':World):Prop where
 ret:e=.returned (.bool ok)
 par:fJ w' b gt cap tb ts (if ok then j+1 else j)
 kept:Kp (λk=>k=b\/k=d) w w'
 box:w'.heap[d]?=some (.cells (if ok then agI cs o t else cs) T (0,0))
theorem iL(w:World)(b gt cap tb:Nat)(ts:List Hx.Tok)(j d o:Nat)(cs:Array Value)(T:TypeId)(kd:Int)(h:fJ w b gt cap tb ts j)(hd:w.heap[d]?=some (.cells cs T (0,0)))(ho:o+4<=cs.size)(h1:d≠b)(h2:d≠gt)(h0:kd≠0):
  Calls Tryz.prog 197 #[.pointer (some ⟨b,0,none⟩),.int .i64 kd,.pointer (some ⟨d,o,none⟩)] w λe w'=>Ee w b gt cap tb ts j d o cs T (ts[j]'h.lt) (ao (ts[j]'h.lt).k==kd) e w':=by
 have HP:=ae h;have hn:(ao (ts[j]'h.lt).k==kd)=true->j+1<ts.length:=λe=>h.ok.fin j h.lt (λe2=>by grind[ao])
 have HD:=ae hd;have wA:=h.ok.oM;have iP:=h.lt;obtain⟨t,ht⟩:∃t,t=ts[j]'h.lt:=⟨_,rfl⟩;rw[<-ht]at hn;rw[<-ht];have HN:=ae hn;have NX:∀W,fJ W b gt cap tb ts j->Hid (Calls Tryz.prog 104 #[.pointer (some ⟨b,0,none⟩)] W λe w'=>e=.returned (.agg #[.int .i64 (ao t.k),.string t.s,.int .i64 t.n,.int .i64 t.line])/\Below W.heap.size W w'):=λW hW=>ae (by have:=gG W b gt cap tb ts j hW;rw[<-ht]at this;exact this)
 clear ht hn hd h;obtain⟨ka,XH⟩:∃ka,ka=ao t.k:=⟨_,rfl⟩;rw[<-XH]at NX|-;have HKA:=ae XH;clear XH;have hfk:=λW=>yB W ka t.n t.line t.s
 go_enter Tryz.func197,Tryz.ntmps197
 cases hk:(ka==kd)with
 |false=>
  have vY:(ka !=kd)=true:=by simp[bne,hk]
  go_wp2_with fail;refine(NX w HP.out).out.mono ?_;rintro e w1 ⟨rfl,bH⟩;have b6:=ae bH;clear bH;go_wp2_with fail;go_ret;exact⟨rfl,HP.out.below b6.out,Kp.aK b6.out,(b6.out.block d (Array.getElem?_eq_some_iff.1 HD.out).1).trans HD.out⟩
 |true=>
  have vY:(ka !=kd)=false:=by simp[bne,hk]
  have Ri:=HN.out (by rw[<-HKA.out];exact hk);go_wp2_with fail;refine(NX w HP.out).out.mono ?_;rintro e w1 ⟨rfl,bH⟩;have b6:=ae bH;have lc:=ae (HP.out.below bH);clear bH;go_wp2_with fail;refine(NX w1 lc.out).out.mono ?_;rintro e w2 ⟨rfl,aT⟩;have dH:=ae (b6.out.trans (aT.mono b6.out.size));have fQ:=ae (lc.out.below aT);clear aT;have nh:=(dH.out.block d (Array.getElem?_eq_some_iff.1 HD.out).1).trans HD.out;have Qf:=ae nh;have x0:w2.cell? ⟨d,o,none⟩=some cs[o]:=by rw[Lib.cell_of_heap nh o];simp
  have x1:w2.cell? ⟨d,o+1,none⟩=some cs[o+1]:=by rw[Lib.cell_of_heap nh (o+1)];simp
  have x2:w2.cell? ⟨d,o+2,none⟩=some cs[o+2]:=by rw[Lib.cell_of_heap nh (o+2)];simp
  have x3:w2.cell? ⟨d,o+3,none⟩=some cs[o+3]:=by rw[Lib.cell_of_heap nh (o+3)];simp
  have g0:w2.frozen? ⟨d,o,none⟩=false:=Lib.frozen_of_heap nh _;have g1:w2.frozen? ⟨d,o+1,none⟩=false:=Lib.frozen_of_heap nh _;have g2:w2.frozen? ⟨d,o+2,none⟩=false:=Lib.frozen_of_heap nh _;have g3:w2.frozen? ⟨d,o+3,none⟩=false:=Lib.frozen_of_heap nh _;have p0:=fS fQ.out.box;have f0:=Lib.frozen_of_heap fQ.out.box 1;have hne:b≠d:=λe=>h1 e.symm
  clear nh;have hw:IntKind.i64.wrap ((j)+1)=(j)+1:=IntWalk.i64_in _ (by omega);go_wp2_with fail;go_ret;have er:=aE (v:=.int .i64 t.line) (o:=o+3) (aE (v:=.int .i64 t.n) (o:=o+2) (aE (v:=.string t.s) (o:=o+1) (aE (v:=.int .i64 ka) (o:=o) Qf.out)));refine⟨rfl,?_,?_,?_⟩
  ·exact((((fQ.out.set h1 h2).set h1 h2).set h1 h2).set h1 h2).step (j+1) Ri
  ·exact(((((Kp.aK (F:=λk=>k=b\/k=d) dH.out).setCell (p:=⟨d,o,none⟩) (.inl (.inr rfl)) _).setCell (p:=⟨d,o+1,none⟩) (.inl (.inr rfl)) _).setCell (p:=⟨d,o+2,none⟩) (.inl (.inr rfl)) _).setCell (p:=⟨d,o+3,none⟩) (.inl (.inr rfl)) _).setCell (p:=⟨b,1,none⟩) (.inl (.inl rfl)) _
  ·refine(((Kp.refl (λk=>k=b) _).setCell (.inl rfl) _).block d (Array.getElem?_eq_some_iff.1 er).1 h1).trans ?_
   rw[er,HKA.out];rfl
theorem Ee.first{ok:Bool}{e:Ending}(h:Ee w1 b gt cap tb ts j d o cs T t ok e w')(hb:Below w.heap.size w w1):Ee w b gt cap tb ts j d o cs T t ok e w':=
 ⟨h.ret,h.par,(Kp.aK hb).trans h.kept (λ_ h=>.inl h),h.box⟩
theorem cY(y:List UInt8)(w:World)(b gt cap tb:Nat)(ts:List Hx.Tok)(j:Nat)(m:ByteArray)(hy:m.data.toList=y)(h:fJ w b gt cap tb ts j):
  Calls Tryz.prog 196 #[.pointer (some ⟨b,0,none⟩),.string m] w λe w'=>ael w b gt cap tb ts j (aq (ts[j]'h.lt) y) e w':=by
 have:=Vb w b gt cap tb ts j m h;rw[Lib.toList_data,hy]at this;exact this
def uH(t:Hx.Tok):Bool:=Hx.rT.contains t.s.toList&&(ao t.k==3)
theorem uI{y:List UInt8}(hy:y∈Hx.rT)(h:(t.s.toList==y)=true):uH t=(ao t.k==3):=by
 simp_all[uH,beq_iff_eq]
theorem FF(h:Hx.Good t):Hx.fh Hx.wF t=uH t:=by
 unfold Hx.fh uH;rw[if_neg (by decide),if_neg (by decide),if_pos rfl,Lib.toList_data];rcases h with h|h|h|⟨h,hs⟩|⟨h,hs⟩
 ·grind[ao]
 ·grind[ao]
 ·grind[ao]
 ·rw[h]
  have:=by
   have iO:∀a∈Hx.dW,Hx.rT.contains a=false:=by decide
   exact iO _ hs
  grind
 grind[Bool.and_comm,ao]
theorem aem(h:Hx.Good t)(r:List Hx.Tok)(e:uH t=true):Hx.Ok [Hx.wF] (t::r) r:=Hx.Ok.fits rfl ((FF h).trans e)
theorem agJ(h:Hx.Good t)(r:List Hx.Tok)(e:uH t=false):Hx.eo [Hx.wF] (t::r) t.line:=Hx.eo.fits rfl ((FF h).trans e)
theorem Mg(w:World)(b gt cap tb:Nat)(ts:List Hx.Tok)(j d o:Nat)(cs:Array Value)(T:TypeId)(h:fJ w b gt cap tb ts j)(hd:w.heap[d]?=some (.cells cs T (0,0)))(ho:o+4<=cs.size)(h1:d≠b)(h2:d≠gt):
  Calls Tryz.prog 274 #[.pointer (some ⟨b,0,none⟩),.pointer (some ⟨d,o,none⟩)] w λe w'=>Ee w b gt cap tb ts j d o cs T (ts[j]'h.lt) (uH (ts[j]'h.lt)) e w':=by
 have HP:=ae h;have HD:=ae hd;obtain⟨t,ht⟩:∃t,t=ts[j]'h.lt:=⟨_,rfl⟩
 have PT:∀W,Below w.heap.size w W->Hid (Calls Tryz.prog 197 #[.pointer (some ⟨b,0,none⟩),.int .i64 3,.pointer (some ⟨d,o,none⟩)] W λe w'=>Ee w b gt cap tb ts j d o cs T t (ao t.k==3) e w'):=λW hW=>ae (by
  have:=(iL W b gt cap tb ts j d o cs T 3 (h.below hW) ((hW.block d (Array.getElem?_eq_some_iff.1 hd).1).trans hd) ho h1 h2 (by decide)).mono (λe w' hr=>hr.first (w:=w) hW)
  rw[<-ht]at this;exact this)
 have NX:Hid (Calls Tryz.prog 104 #[.pointer (some ⟨b,0,none⟩)] w λe w'=>e=.returned (.agg #[.int .i64 (ao t.k),.string t.s,.int .i64 t.n,.int .i64 t.line])/\Below w.heap.size w w'):=ae (by have:=gG w b gt cap tb ts j h;rw[<-ht]at this;exact this);rw[<-ht];clear ht hd h;obtain⟨ka,XH⟩:∃ka,ka=ao t.k:=⟨_,rfl⟩;rw[<-XH]at NX;have Lt:=λW=>Mf W ka t.n t.line t.s
 clear XH;go_enter Tryz.func274,Tryz.ntmps274;go_wp2_with fail;refine NX.out.mono ?_;rintro e w1 ⟨rfl,bH⟩;have b6:=ae bH;clear bH
 cases o0:(t.s.toList==[60])with
 |true=>
  have HO:=ae (uI (by decide) o0);go_wp2_with fail;refine(PT w1 b6.out).out.mono ?_;intro e w2 hr;obtain rfl:=hr.ret;have HR:=ae hr;clear hr;go_wp2_with fail;go_ret;rw[HO.out];exact HR.out
 |false=>
  cases o1:(t.s.toList==[60,61])with
  |true=>
   have HO:=ae (uI (by decide) o1);go_wp2_with fail;refine(PT w1 b6.out).out.mono ?_;intro e w2 hr;obtain rfl:=hr.ret;have HR:=ae hr;clear hr;go_wp2_with fail;go_ret;rw[HO.out];exact HR.out
  |false=>
   cases o2:(t.s.toList==[61,61])with
   |true=>
    have HO:=ae (uI (by decide) o2);go_wp2_with fail;refine(PT w1 b6.out).out.mono ?_;intro e w2 hr;obtain rfl:=hr.ret;have HR:=ae hr;clear hr;go_wp2_with fail;go_ret;rw[HO.out];exact HR.out
   |false=>
    cases o3:(t.s.toList==[33,61])with
    |true=>
     have HO:=ae (uI (by decide) o3);go_wp2_with fail;refine(PT w1 b6.out).out.mono ?_;intro e w2 hr;obtain rfl:=hr.ret;have HR:=ae hr;clear hr;go_wp2_with fail;go_ret;rw[HO.out];exact HR.out
    |false=>
     cases o4:(t.s.toList==[62,61])with
     |true=>
      have HO:=ae (uI (by decide) o4);go_wp2_with fail;refine(PT w1 b6.out).out.mono ?_;intro e w2 hr;obtain rfl:=hr.ret;have HR:=ae hr;clear hr;go_wp2_with fail;go_ret;rw[HO.out];exact HR.out
     |false=>
      cases o5:(t.s.toList==[62])with
      |true=>
       have HO:=ae (uI (by decide) o5);go_wp2_with fail;refine(PT w1 b6.out).out.mono ?_;intro e w2 hr;obtain rfl:=hr.ret;have HR:=ae hr;clear hr;go_wp2_with fail;go_ret;rw[HO.out];exact HR.out
      |false=>
       have HO:Hid (uH t=false):=ae (by simp_all[Hx.rT,Bool.false_and,uH]);go_wp2_with fail;go_ret;rw[HO.out];exact⟨rfl,HP.out.below b6.out,Kp.aK b6.out,(b6.out.block d (Array.getElem?_eq_some_iff.1 HD.out).1).trans HD.out⟩
def lz(t:Hx.Tok):List Value:=[.int .i64 (ao t.k),.string t.s,.int .i64 t.n,.int .i64 t.line]
def eH:Hx.G->Value
 | .or l r=>.iface 300 (.agg #[eH l,eH r])
 | .and l r=>.iface 301 (.agg #[eH l,eH r])
 | .not g=>.iface 303 (.agg #[eH g])
 | .group t g=>.iface 305 (.agg #[.int .i64 (ao t.k),.string t.s,.int .i64 t.n,.int .i64 t.line,eH g])
 | .gZ=>.iface 370 (.agg #[])
 | .atom w n o i _=>.iface 307 (.agg #[.bool w.isSome,.int .i64 (ao n.k),.string n.s,.int .i64 n.n,.int .i64 n.line,.int .i64 (ao o.k),.string o.s,.int .i64 o.n,.int .i64 o.line,.int .i64 (ao i.k),.string i.s,.int .i64 i.n,.int .i64 i.line])
def abz(v:Value):Prop:=v=.nilIface\/∃T x,v=.iface T x
theorem lM(g:Hx.G):abz (eH g):=by cases g<;>exact .inr ⟨_,_,rfl⟩
structure uJ(Y:List (List UInt8))(w:World)(b gt cap tb:Nat)(ts:List Hx.Tok)(j d o:Nat)(cs:Array Value)(T:TypeId)(ok:Bool)(j':Nat)(v:Value)(w':World):Prop where
 par:fJ w' b gt cap tb ts j'
 kept:Kp (λk=>k=b\/k=d) w w'
 box:w'.heap[d]?=some (.cells (cs.setIfInBounds o v) T (0,0))
 isIf:abz v
 good:ok=true->∃g,v=eH g/\j+g.deep<j'/\Hx.Ok Y (ts.drop j) (ts.drop j')/\Hx.GD Y (ts.drop j) (ts.drop j') g
 bad:ok=false->Hx.eo Y (ts.drop j) (ts[j']'par.lt).line
theorem iw{v4 v5 v6 v7 v8 v9 v10 v11 v12:Value}(h:w.heap[A]?=some (.cells #[v0,v1,v2,v3,v4,v5,v6,v7,v8,v9,v10,v11,v12] T (0,0))):
  w.cell? ⟨A,0,none⟩=some v0/\w.cell? ⟨A,1,none⟩=some v1/\w.cell? ⟨A,2,none⟩=some v2/\w.cell? ⟨A,3,none⟩=some v3/\w.cell? ⟨A,4,none⟩=some v4/\w.cell? ⟨A,5,none⟩=some v5/\w.cell? ⟨A,6,none⟩=some v6/\w.cell? ⟨A,7,none⟩=some v7/\w.cell? ⟨A,8,none⟩=some v8/\w.cell? ⟨A,9,none⟩=some v9/\w.cell? ⟨A,10,none⟩=some v10/\w.cell? ⟨A,11,none⟩=some v11/\w.cell? ⟨A,12,none⟩=some v12:=
 ⟨Lib.cell_of_heap h 0,Lib.cell_of_heap h 1,Lib.cell_of_heap h 2,Lib.cell_of_heap h 3,Lib.cell_of_heap h 4,Lib.cell_of_heap h 5,Lib.cell_of_heap h 6,Lib.cell_of_heap h 7,Lib.cell_of_heap h 8,Lib.cell_of_heap h 9,Lib.cell_of_heap h 10,Lib.cell_of_heap h 11,Lib.cell_of_heap h 12⟩
def tB(t:Hx.Tok):List (List UInt8):=if aq t Hx.ew then [Hx.ew,Hx.cB,Hx.wF,Hx.eP]else [Hx.cB,Hx.wF,Hx.eP]
theorem ak(h:j<ts.length):ts.drop j=ts[j]::ts.drop (j+1):=List.drop_eq_getElem_cons h
theorem yP{ln:Nat}(hj:j<ts.length)(hg:Hx.Good ts[j])(hw:aq ts[j] Hx.ew=was)(h1:(if was then j+1 else j)=j1)(h:Hx.eo [Hx.cB,Hx.wF,Hx.eP] (ts.drop j1) ln):Hx.eo (tB ts[j]) (ts.drop j) ln:=by
 rw[tB,hw]
 cases was with
 |false=>grind
 |true=>simp at h1;subst h1;rw[ak hj];exact(Hx.cE hg _ (.inl (by decide)) _ hw).dM h
theorem abA(hj:j<ts.length)(hg:Hx.Good ts[j])(hw:aq ts[j] Hx.ew=was)(h1:(if was then j+1 else j)=j1)(h:Hx.Ok [Hx.cB,Hx.wF,Hx.eP] (ts.drop j1) l'):Hx.Ok (tB ts[j]) (ts.drop j) l':=by
 rw[tB,hw]
 cases was with
 |false=>grind
 |true=>simp at h1;subst h1;rw[ak hj];exact(Hx.cE hg _ (.inl (by decide)) _ hw).cons h
theorem agK(e:uH t=true):t.s.toList∈Hx.rT:=by
 simp_all[Bool.and_eq_true,uH]
theorem abB(h:Hx.Good t)(e:uH t=true):t.k=115:=by
 rw[<-FF h]at e;unfold Hx.fh at e;rw[if_neg (by decide),if_neg (by decide),if_pos rfl]at e;simp at e;exact e.1
theorem Vc(h:Hx.Good t)(e:aq t Hx.ew=true):t.k=119/\t.s.toList=Hx.ew:=by
 rw[Hx.bY h _ (by decide)]at e
 simp_all[Lib.toList_data,Hx.ew,Hx.eQ]
theorem abC(hj:j<ts.length)(hg:Hx.Good ts[j])(hw:aq ts[j] Hx.ew=was)(h1:(if was then j+1 else j)=j1)(n o i:Hx.Tok)(r:List Hx.Tok)(e:ts.drop j1=n::o::i::r)(cR:Hx.jZ (if was then some ts[j]else none) n o i):
  Hx.GS (ts.drop j) r (Hx.G.pC (.atom (if was then some ts[j]else none) n o i cR)):=by
 have hn:=cR.nm;have hi:=cR.num
 cases was with
 |false=>simp at h1;subst h1;rw[e];exact Hx.GS.uV hn hi
 |true=>simp at h1;subst h1;rw[ak hj,e];rw[Hx.bY hg _ (by decide)]at hw;exact Hx.GS.uW hw hn hi
theorem NN(t:Hx.Tok):Hx.sD (tB t)=0:=by unfold tB;split<;>decide
theorem Vd(hj:j<ts.length)(h1:(if was then j+1 else j)=j1)(n o i:Hx.Tok)(r:List Hx.Tok)(e:ts.drop j1=n::o::i::r)(cR:Hx.jZ (if was then some ts[j]else none) n o i):
  Hx.jG 0 (ts.drop j) (.atom (if was then some ts[j]else none) n o i cR) r:=by
 cases was<;>grind[Hx.jG.uV,ak,Hx.jG.uW]
theorem FG{o:Obj}(hA:A=w1.heap.size)(h:Kp (λk=>k=b) w w1)(k:Kp (λk=>k=b\/k=A) (w1.alloc o) w2):Kp (λk=>k=b\/k=d) w w2:=
 (((h.mono (G:=λk=>k=b\/k=d) (λ_ _ e=>.inl e)).alloc o).trans k (λx e=>e.elim (λe=>.inl (.inl e)) (λe=>.inr (by have:=h.size;omega))))
theorem FH(w:World)(b gt cap tb:Nat)(ts:List Hx.Tok)(j d o:Nat)(cs:Array Value)(T:TypeId)(h:fJ w b gt cap tb ts j)(hd:w.heap[d]?=some (.cells cs T (0,0)))(ho:o<cs.size)(h1:d≠b)(h2:d≠gt):
  Calls Tryz.prog 273 #[.pointer (some ⟨b,0,none⟩),.pointer (some ⟨d,o,none⟩)] w λe w'=>∃ok j' v,e=.returned (.bool ok)/\uJ (tB (ts[j]'h.lt)) w b gt cap tb ts j d o cs T ok j' v w':=by
 have HP:=ae h;have HD:=ae hd;have tO:=(Array.getElem?_eq_some_iff.1 hd).1;have eS:=h.own;have ck:=h.lies;clear hd;go_enter Tryz.func273,Tryz.ntmps273;go_wp2_with fail;refine(cY Hx.ew w b gt cap tb ts j _ rfl HP.out).mono ?_;rintro e w1 ⟨rfl,rD,fL⟩;generalize Ve:aq (ts[j]'h.lt) Hx.ew=was at rD|-;generalize Ri:(if was then j+1 else j)=j1 at rD;have HW:=ae Ve;have HJ1:=ae Ri;have lc:=ae rD;have jW:=ae fL;clear Ve Ri rD fL;have gI:=jW.out.size;go_wp2_with fail;have hz:∀o:Obj,(w1.alloc o).heap.size=w1.heap.size+1:=λo=>by simp
 have k8:w1.heap.size≠b:=by omega
 have my:w1.heap.size≠gt:=by omega
 have LA:=λo=>ae (lc.out.below ((Below.refl _ _).alloc (Nat.le_refl _) o))
 have aN:∀i (hi:i<ts.length),Hid (Hx.Good ts[i]):=λi hi=>ae (lc.out.ok.good _ (List.getElem_mem hi))
 refine(iL _ b gt cap tb ts j1 w1.heap.size 1 _ 307 1 (LA _).out (heap_alloc_new _ _) (by simp) k8 my (by decide)).mono ?_;intro e w2 hr;obtain rfl:=hr.ret;obtain⟨tn,htn⟩:∃tn,tn=ts[j1]'lc.out.lt:=⟨_,rfl⟩;have Xh:=ae htn;rw[<-htn]at hr|-
 cases n1:(ao tn.k==1)with
 |false=>
  rw[n1]at hr;have Ps:=ae hr.box;have alw:=ae hr.kept;have fQ:=ae hr.par;have N1:=ae n1;clear hr n1 htn;have hx:w2.heap[w1.heap.size]?=some (.cells #[.bool was,.int .i64 0,.string ⟨#[]⟩,.int .i64 0,.int .i64 0,.int .i64 0,.string ⟨#[]⟩,.int .i64 0,.int .i64 0,.int .i64 0,.string ⟨#[]⟩,.int .i64 0,.int .i64 0] 307 (0,0)):=Ps.out;obtain⟨x0,x1,x2,x3,x4,x5,x6,x7,x8,x9,x10,x11,x12⟩:=iw hx;have yg:Hid (Kp (λk=>k=b\/k=d) w w2):=ae (FG rfl jW.out alw.out);have nh:=(alw.out.block d (by grind) (by omega)).trans (((((Below.refl w1.heap.size w1).alloc (Nat.le_refl _) _).block d (by omega)).trans (jW.out.block d tO h1)).trans HD.out);have Qf:=ae nh;have xd:w2.cell? ⟨d,o,none⟩=some cs[o]:=by rw[Lib.cell_of_heap nh o];simp
  have gd:w2.frozen? ⟨d,o,none⟩=false:=Lib.frozen_of_heap nh _;clear hx nh;go_wp2_with fail;go_ret;refine⟨false,j1,_,rfl,?_,?_,aE Qf.out,.inr ⟨_,_,rfl⟩,(λh=>by cases h),λ_=>?_⟩
  ·exact fQ.out.set h1 h2
  ·exact yg.out.setCell (p:=⟨d,o,none⟩) (.inl (.inr rfl)) _
  ·refine yP h.lt (aN _ h.lt).out HW.out HJ1.out ?_
   have hb:=Xh.out;rw[ak lc.out.lt,<-hb];exact(Hx.sC (by rw[hb];exact(aN _ lc.out.lt).out) _ N1.out).cons
 |true=>
  rw[n1]at hr;have nD:fJ w2 b gt cap tb ts (j1+1):=hr.par;have ep:w2.heap[w1.heap.size]?=some (.cells #[.bool was,.int .i64 (ao tn.k),.string tn.s,.int .i64 tn.n,.int .i64 tn.line,.int .i64 0,.string ⟨#[]⟩,.int .i64 0,.int .i64 0,.int .i64 0,.string ⟨#[]⟩,.int .i64 0,.int .i64 0] 307 (0,0)):=hr.box;have pJ:=ae ep;have alx:=ae hr.kept;have fQ:=ae nD;have N1:=ae n1;clear hr n1 htn nD ep;go_wp2_with fail;refine(Mg w2 b gt cap tb ts (j1+1) w1.heap.size 5 _ 307 fQ.out pJ.out (by simp) k8 my).mono ?_;intro e w3 hr;obtain rfl:=hr.ret;obtain⟨tp,nX⟩:∃tp,tp=ts[j1+1]'fQ.out.lt:=⟨_,rfl⟩;have XA:=ae nX;rw[<-nX]at hr|-
  cases n2:uH tp with
  |false=>
   rw[n2]at hr;have Qg:=ae hr.box;have Jp:=ae (alx.out.trans hr.kept (λ_ h=>.inl h));have nT:=ae hr.par;have N2:=ae n2;clear hr n2 nX;have hx:w3.heap[w1.heap.size]?=some (.cells #[.bool was,.int .i64 (ao tn.k),.string tn.s,.int .i64 tn.n,.int .i64 tn.line,.int .i64 0,.string ⟨#[]⟩,.int .i64 0,.int .i64 0,.int .i64 0,.string ⟨#[]⟩,.int .i64 0,.int .i64 0] 307 (0,0)):=Qg.out;obtain⟨x0,x1,x2,x3,x4,x5,x6,x7,x8,x9,x10,x11,x12⟩:=iw hx;have yg:Hid (Kp (λk=>k=b\/k=d) w w3):=ae (FG rfl jW.out Jp.out);have nh:=(Jp.out.block d (by grind) (by omega)).trans (((((Below.refl w1.heap.size w1).alloc (Nat.le_refl _) _).block d (by omega)).trans (jW.out.block d tO h1)).trans HD.out);have Qf:=ae nh;have xd:w3.cell? ⟨d,o,none⟩=some cs[o]:=by rw[Lib.cell_of_heap nh o];simp
   have gd:w3.frozen? ⟨d,o,none⟩=false:=Lib.frozen_of_heap nh _;clear hx nh;go_wp2_with fail;go_ret;refine⟨false,j1+1,_,rfl,?_,?_,aE Qf.out,.inr ⟨_,_,rfl⟩,(λh=>by cases h),λ_=>?_⟩
   ·exact nT.out.set h1 h2
   ·exact yg.out.setCell (p:=⟨d,o,none⟩) (.inl (.inr rfl)) _
   ·refine yP h.lt (aN _ h.lt).out HW.out HJ1.out ?_
    have hb:=Xh.out;have hc:=XA.out;rw[ak lc.out.lt,ak fQ.out.lt,<-hb,<-hc];exact(Hx.pF (by rw[hb];exact(aN _ lc.out.lt).out) _ N1.out).dM (agJ (by rw[hc];exact(aN _ fQ.out.lt).out) _ N2.out).cons
  |true=>
   rw[n2]at hr;have pS:fJ w3 b gt cap tb ts (j1+2):=hr.par;have iB:w3.heap[w1.heap.size]?=some (.cells #[.bool was,.int .i64 (ao tn.k),.string tn.s,.int .i64 tn.n,.int .i64 tn.line,.int .i64 (ao tp.k),.string tp.s,.int .i64 tp.n,.int .i64 tp.line,.int .i64 0,.string ⟨#[]⟩,.int .i64 0,.int .i64 0] 307 (0,0)):=hr.box;have Qg:=ae iB;have Jp:=ae (alx.out.trans hr.kept (λ_ h=>.inl h));have nT:=ae pS;have N2:=ae n2;clear hr n2 nX pS iB;go_wp2_with fail;refine(iL w3 b gt cap tb ts (j1+2) w1.heap.size 9 _ 307 2 nT.out Qg.out (by simp) k8 my (by decide)).mono ?_;intro e w4 hr;obtain rfl:=hr.ret;obtain⟨ti,hti⟩:∃ti,ti=ts[j1+2]'nT.out.lt:=⟨_,rfl⟩;have HTI:=ae hti;rw[<-hti]at hr|-
   cases n3:(ao ti.k==2)with
   |false=>
    rw[n3]at hr;have Dr:=ae hr.box;have yQ:=ae (Jp.out.trans hr.kept (λ_ h=>.inl h));have FI:=ae hr.par;have N3:=ae n3;clear hr n3 hti;have hx:w4.heap[w1.heap.size]?=some (.cells #[.bool was,.int .i64 (ao tn.k),.string tn.s,.int .i64 tn.n,.int .i64 tn.line,.int .i64 (ao tp.k),.string tp.s,.int .i64 tp.n,.int .i64 tp.line,.int .i64 0,.string ⟨#[]⟩,.int .i64 0,.int .i64 0] 307 (0,0)):=Dr.out;obtain⟨x0,x1,x2,x3,x4,x5,x6,x7,x8,x9,x10,x11,x12⟩:=iw hx;have yg:Hid (Kp (λk=>k=b\/k=d) w w4):=ae (FG rfl jW.out yQ.out);have nh:=(yQ.out.block d (by grind) (by omega)).trans (((((Below.refl w1.heap.size w1).alloc (Nat.le_refl _) _).block d (by omega)).trans (jW.out.block d tO h1)).trans HD.out);have Qf:=ae nh;have xd:w4.cell? ⟨d,o,none⟩=some cs[o]:=by rw[Lib.cell_of_heap nh o];simp
    have gd:w4.frozen? ⟨d,o,none⟩=false:=Lib.frozen_of_heap nh _;clear hx nh;go_wp2_with fail;go_ret;refine⟨false,j1+2,_,rfl,?_,?_,aE Qf.out,.inr ⟨_,_,rfl⟩,(λh=>by cases h),λ_=>?_⟩
    ·exact FI.out.set h1 h2
    ·exact yg.out.setCell (p:=⟨d,o,none⟩) (.inl (.inr rfl)) _
    ·refine yP h.lt (aN _ h.lt).out HW.out HJ1.out ?_
     have hb:=Xh.out;have hc:=XA.out;have hi:=HTI.out;rw[ak lc.out.lt,ak fQ.out.lt,ak nT.out.lt,<-hb,<-hc,<-hi];exact(Hx.pF (by rw[hb];exact(aN _ lc.out.lt).out) _ N1.out).dM ((aem (by rw[hc];exact(aN _ fQ.out.lt).out) _ N2.out).dM (Hx.ES (by rw[hi];exact(aN _ nT.out.lt).out) _ N3.out))
   |true=>
    rw[n3]at hr;have hp4:fJ w4 b gt cap tb ts (j1+3):=hr.par;have Dr:=ae hr.box;have yQ:=ae (Jp.out.trans hr.kept (λ_ h=>.inl h));have FI:=ae hp4;have N3:=ae n3;clear hr n3 hti hp4;have hx:w4.heap[w1.heap.size]?=some (.cells #[.bool was,.int .i64 (ao tn.k),.string tn.s,.int .i64 tn.n,.int .i64 tn.line,.int .i64 (ao tp.k),.string tp.s,.int .i64 tp.n,.int .i64 tp.line,.int .i64 (ao ti.k),.string ti.s,.int .i64 ti.n,.int .i64 ti.line] 307 (0,0)):=Dr.out;obtain⟨x0,x1,x2,x3,x4,x5,x6,x7,x8,x9,x10,x11,x12⟩:=iw hx;have yg:Hid (Kp (λk=>k=b\/k=d) w w4):=ae (FG rfl jW.out yQ.out);have nh:=(yQ.out.block d (by grind) (by omega)).trans (((((Below.refl w1.heap.size w1).alloc (Nat.le_refl _) _).block d (by omega)).trans (jW.out.block d tO h1)).trans HD.out);have Qf:=ae nh;have xd:w4.cell? ⟨d,o,none⟩=some cs[o]:=by rw[Lib.cell_of_heap nh o];simp
    have gd:w4.frozen? ⟨d,o,none⟩=false:=Lib.frozen_of_heap nh _;clear hx nh;go_wp2_with fail;go_ret;have hjj:j<=j1:=by have:=HJ1.out;cases was<;>simp at this<;>omega
    have hb:=Xh.out;have hc:=XA.out;have hi:=HTI.out;have ed:ts.drop j1=tn::tp::ti::ts.drop (j1+3):=by rw[ak lc.out.lt,ak fQ.out.lt,ak nT.out.lt,<-hb,<-hc,<-hi]
    have gn:Hx.Good tn:=by rw[hb];exact(aN _ lc.out.lt).out
    have go':Hx.Good tp:=by rw[hc];exact(aN _ fQ.out.lt).out
    have gi:Hx.Good ti:=by rw[hi];exact(aN _ nT.out.lt).out
    have hao:Hx.jZ (if was then some (ts[j]'h.lt)else none) tn tp ti:=by
     refine⟨λt ht=>?_,Hx.uq gn N1.out,abB go' N2.out,Hx.S7 gi N3.out,by rw[hi];exact lc.out.ok.QX _ (List.getElem_mem _),agK N2.out⟩
     cases was with
     |false=>simp at ht
     |true=>simp at ht;subst ht;exact Vc (aN _ h.lt).out HW.out
    refine⟨true,j1+3,eH (.atom (if was then some (ts[j]'h.lt)else none) tn tp ti hao),rfl,?_,?_,?_,lM _,λ_=>⟨_,rfl,by grind[Hx.G.deep],?_,?_⟩,(λh=>by cases h)⟩
    ·exact FI.out.set h1 h2
    ·exact yg.out.setCell (p:=⟨d,o,none⟩) (.inl (.inr rfl)) _
    ·rw[aE Qf.out];cases was<;>rfl
    ·refine abA h.lt (aN _ h.lt).out HW.out HJ1.out ?_
     rw[ed];exact(Hx.pF gn _ N1.out).cons ((aem go' _ N2.out).cons (Hx.Ld gi _ N3.out))
    ·exact⟨abC h.lt (aN _ h.lt).out HW.out HJ1.out tn tp ti _ ed hao,by rw[NN];exact Vd h.lt HJ1.out tn tp ti _ ed hao⟩
def l7(f:FuncId)(Y:List (List UInt8))(n:Nat):Prop:=
 ∀(w:World)(b gt cap tb:Nat)(ts:List Hx.Tok)(j d o:Nat)(cs:Array Value)(T:TypeId),fJ w b gt cap tb ts j->w.heap[d]?=some (.cells cs T (0,0))->o<cs.size->d≠b->d≠gt->ts.length-j<=n->
  Calls Tryz.prog f #[.pointer (some ⟨b,0,none⟩),.pointer (some ⟨d,o,none⟩)] w λe w'=>∃ok j' v,e=.returned (.bool ok)/\uJ Y w b gt cap tb ts j d o cs T ok j' v w'
theorem abE{o1 o2:Obj}(hb:Below w.heap.size w w1)(h:Kp (λk=>k=b) ((w1.alloc o1).alloc o2) w2):Kp (λk=>k=b) w w2:=
 (((Kp.aK (F:=λk=>k=b) hb).alloc o1).alloc o2).trans h (λ_ e=>.inl e)
theorem Jq{w3:World}(h:Kp (λk=>k=b) w w2)(h3:Kp (λk=>k=b\/k=A) w2 w3)(hA:w.heap.size<=A):Kp (λk=>k=b) w w3:=
 h.trans h3 (λ_ e=>e.elim (λe=>.inl e) (λe=>.inr (by omega)))
theorem yR(h:Kp (λk=>k=b) w w'):Kp (λk=>k=b\/k=d) w w':=h.mono (λ_ _ e=>.inl e)
theorem Qh{c1 c2:Array Value}{T1 T2:TypeId}(hb:b<w1.heap.size)(h:Kp (λk=>k=b) ((w1.alloc (.cells c1 T1)).alloc (.cells c2 T2)) w2):
  w2.heap[w1.heap.size]?=some (.cells c1 T1 (0,0))/\w2.heap[w1.heap.size+1]?=some (.cells c2 T2 (0,0))/\w1.heap.size+2<=w2.heap.size:=by
 have hz:=h.size;simp at hz;refine⟨(h.block w1.heap.size (by simp;omega) (by omega)).trans ?_,(h.block (w1.heap.size+1) (by simp) (by omega)).trans ?_,hz⟩
 ·exact(((Below.refl (w1.heap.size+1) (w1.alloc (.cells c1 T1))).alloc (by simp) (.cells c2 T2)).block w1.heap.size (by omega)).trans (heap_alloc_new w1 _)
 ·have:=heap_alloc_new (w1.alloc (.cells c1 T1)) (.cells c2 T2)
  simp_all
section
variable {ts:List Hx.Tok} {j j' ln:Nat}
theorem yS(hj:j<ts.length)(hm:aq ts[j] Hx.eK=true)(hg:Hx.Good ts[j]):Hx.aA Hx.bW ts[j]=some [Hx.eK,Hx.bW]:=by
 rw[Hx.bY hg _ (by decide)]at hm;show some (if Hx.eQ ts[j] Hx.eK then _ else _)=_
 grind
theorem Jr(hj:j<ts.length)(hm:aq ts[j] Hx.eK=true)(hg:Hx.Good ts[j])(h:Hx.Ok [Hx.bW] (ts.drop (j+1)) (ts.drop j')):Hx.Ok [Hx.bW] (ts.drop j) (ts.drop j'):=by
 rw[ak hj];exact Hx.Ok.aU (yS hj hm hg) ((Hx.cE hg _ (.inl (by decide)) _ hm).cons h)
theorem FJ(hj:j<ts.length)(hm:aq ts[j] Hx.eK=true)(hg:Hx.Good ts[j])(h:Hx.eo [Hx.bW] (ts.drop (j+1)) ln):Hx.eo [Hx.bW] (ts.drop j) ln:=by
 rw[ak hj];exact Hx.eo.aU (yS hj hm hg) ((Hx.cE hg _ (.inl (by decide)) _ hm).dM h)
theorem wT(y:List UInt8)(hy:y∈Hx.oG)(hw:y≠Hx.ew)(hj:j<ts.length)(hm:aq ts[j] y=true)(hg:Hx.Good ts[j]):Hx.GS (ts.drop j) (ts.drop (j+1)) (λ_ s=>s):=by
 grind[Hx.GS.skip,Hx.eQ,ak,Hx.bY,Hx.oG,Hx.dW]
theorem ry(hj:j<ts.length)(h1:aq ts[j] Hx.eK=false)(hm:aq ts[j] Hx.jY=true)(hg:Hx.Good ts[j]):Hx.aA Hx.bW ts[j]=some [Hx.jY,Hx.dc,Hx.qU]:=by
 rw[Hx.bY hg _ (by decide)]at h1;rw[Hx.kI hg _ (by decide)]at hm;show some (if Hx.eQ ts[j] Hx.eK then _ else if Hx.isS ts[j] Hx.jY then _ else _)=_
 grind
theorem Js(hj:j<ts.length)(h1:aq ts[j] Hx.eK=false)(h2:aq ts[j] Hx.jY=false)(hm:aq ts[j] Hx.dQ=true)(hg:Hx.Good ts[j]):Hx.aA Hx.bW ts[j]=some [Hx.dQ]:=by
 rw[Hx.bY hg _ (by decide)]at h1 hm;rw[Hx.kI hg _ (by decide)]at h2;show some (if Hx.eQ ts[j] Hx.eK then _ else if Hx.isS ts[j] Hx.jY then _ else if Hx.eQ ts[j] Hx.dQ then _ else _)=_
 grind
theorem Jt(hj:j<ts.length)(h1:aq ts[j] Hx.eK=false)(h2:aq ts[j] Hx.jY=false)(h3:aq ts[j] Hx.dQ=false)(hg:Hx.Good ts[j]):Hx.aA Hx.bW ts[j]=some (tB ts[j]):=by
 rw[tB,Hx.bY hg Hx.ew (by decide)];rw[Hx.bY hg _ (by decide)]at h1 h3;rw[Hx.kI hg _ (by decide)]at h2;show some (if Hx.eQ ts[j] Hx.eK then _ else if Hx.isS ts[j] Hx.jY then _ else if Hx.eQ ts[j] Hx.dQ then _ else if Hx.eQ ts[j] Hx.ew then _ else _)=_
 grind
theorem Vf(hj:j<ts.length)(h1:aq ts[j] Hx.eK=false)(hm:aq ts[j] Hx.jY=true)(hg:Hx.Good ts[j])(h:Hx.eo [Hx.dc] (ts.drop (j+1)) ln):Hx.eo [Hx.bW] (ts.drop j) ln:=by
 have hb:=ry hj h1 hm hg;rw[ak hj];exact Hx.eo.aU hb ((Hx.cE hg _ (.inr (by decide)) _ hm).dM h.cons)
theorem Vg(hj:j<ts.length)(h1:aq ts[j] Hx.eK=false)(hm:aq ts[j] Hx.jY=true)(hg:Hx.Good ts[j])(hj':j'<ts.length)(h:Hx.Ok [Hx.dc] (ts.drop (j+1)) (ts.drop j'))(Q5:Hx.Good ts[j'])(hr:aq ts[j'] Hx.qU=false):Hx.eo [Hx.bW] (ts.drop j) ts[j'].line:=by
 have hb:=ry hj h1 hm hg;rw[ak hj']at h;rw[ak hj];exact Hx.eo.aU hb ((Hx.cE hg _ (.inr (by decide)) _ hm).dM (h.dM (Hx.jO Q5 _ (.inr (by decide)) _ hr)))
theorem agN(hj:j<ts.length)(h1:aq ts[j] Hx.eK=false)(hm:aq ts[j] Hx.jY=true)(hg:Hx.Good ts[j])(hj':j'<ts.length)(h:Hx.Ok [Hx.dc] (ts.drop (j+1)) (ts.drop j'))(Q5:Hx.Good ts[j'])(hr:aq ts[j'] Hx.qU=true):Hx.Ok [Hx.bW] (ts.drop j) (ts.drop (j'+1)):=by
 have hb:=ry hj h1 hm hg;rw[ak hj']at h;rw[ak hj];exact Hx.Ok.aU hb ((Hx.cE hg _ (.inr (by decide)) _ hm).cons (h.cons (Hx.cE Q5 _ (.inr (by decide)) _ hr)))
theorem abF{g:Hx.G}(hj:j<ts.length)(hm:aq ts[j] Hx.eK=true)(h:Hx.jG (Hx.sD [Hx.bW]) (ts.drop (j+1)) g l'):Hx.jG (Hx.sD [Hx.bW]) (ts.drop j) (.not g) l':=by
 rw[Hx.pH]at h|-;rw[ak hj];exact .not hm h
theorem abG(hj:j<ts.length)(hm:aq ts[j] Hx.dQ=true):Hx.jG (Hx.sD [Hx.bW]) (ts.drop j) .gZ (ts.drop (j+1)):=by
 rw[Hx.pH,ak hj];exact .gZ hm
theorem abH{g:Hx.G}(hj:j<ts.length)(hm:aq ts[j] Hx.jY=true)(hj':j'<ts.length)(h:Hx.jG (Hx.sD [Hx.dc]) (ts.drop (j+1)) g (ts.drop j'))(hr:aq ts[j'] Hx.qU=true):Hx.jG (Hx.sD [Hx.bW]) (ts.drop j) (.group ts[j] g) (ts.drop (j'+1)):=by
 rw[Hx.yb,ak hj']at h;rw[Hx.pH,ak hj];exact .group hm h hr
theorem agO{f:Int->Hx.St->Hx.St}(hj:j<ts.length)(hm:aq ts[j] Hx.jY=true)(hg:Hx.Good ts[j])(hj':j'<ts.length)(h:Hx.GS (ts.drop (j+1)) (ts.drop j') f)(Q5:Hx.Good ts[j'])(hr:aq ts[j'] Hx.qU=true):
  Hx.GS (ts.drop j) (ts.drop (j'+1)) (λd s=>f (d+1) (s.aS (d==6) 1 ts[j].line)):=by
 rw[Hx.kI hg _ (by decide)]at hm;rw[Hx.kI Q5 _ (by decide)]at hr
 grind[Hx.GS.group,ak]
end
theorem Vh(h:w.heap[A]?=some (.cells #[v0,v1,v2,v3] T (0,0))):
  w.cell? ⟨A,0,none⟩=some v0/\w.cell? ⟨A,1,none⟩=some v1/\w.cell? ⟨A,2,none⟩=some v2/\w.cell? ⟨A,3,none⟩=some v3:=
 ⟨Lib.cell_of_heap h 0,Lib.cell_of_heap h 1,Lib.cell_of_heap h 2,Lib.cell_of_heap h 3⟩
theorem Qi(n:Nat)(IHu:l7 270 [Hx.bW] n)(IHg:l7 247 [Hx.dc] n):l7 270 [Hx.bW] (n+1):=by
 intro w b gt cap tb ts j d o cs T h hd ho h1 h2 hn;have HU:=ae IHu;have HGU:=ae IHg;have HP:=ae h;have HD:=ae hd;have tO:=(Array.getElem?_eq_some_iff.1 hd).1;have eS:=h.own;have ck:=h.lies;have iP:=h.lt;have aN:Hid (Hx.Good (ts[j]'h.lt)):=ae (h.ok.good _ (List.getElem_mem _));clear hd IHu IHg;go_enter Tryz.func270,Tryz.ntmps270;go_wp2_with fail;refine(gG w b gt cap tb ts j HP.out).mono ?_;rintro e w1 ⟨rfl,bH⟩;rw[pU];obtain⟨t,ht⟩:∃t,t=ts[j]'h.lt:=⟨_,rfl⟩;have HT:=ae ht;rw[<-ht];have b6:=ae bH;have lc:=ae (h.below bH);clear ht bH;have gI:=b6.out.size;have k8:w1.heap.size+1≠b:=by omega
 have my:w1.heap.size+1≠gt:=by omega
 have LA:=λo o'=>ae (lc.out.below (((Below.refl _ _).alloc (Nat.le_refl _) o).alloc (by simp) o'))
 go_wp2_with fail;refine(cY Hx.eK _ b gt cap tb ts j _ rfl (LA _ _).out).mono ?_;rintro e w2 ⟨rfl,nD,fW⟩;obtain⟨hA1,J9,jT⟩:=Qh (by omega) fW;have HA1:=ae hA1;have QU:=ae J9;have Jp:=ae (abE b6.out fW);clear hA1 J9 fW
 cases Ko:aq (ts[j]'h.lt) Hx.eK with
 |true=>
  rw[Ko]at nD;have pk:fJ w2 b gt cap tb ts (j+1):=nD;have fQ:=ae pk;have HN:=ae Ko;clear nD pk Ko;go_wp2_with fail;refine(HU.out w2 b gt cap tb ts (j+1) (w1.heap.size+1) 0 _ _ fQ.out QU.out (by simp) k8 my (by omega)).mono ?_;rintro e w3 ⟨ok,j',v,rfl,hR⟩;have hx:w3.heap[w1.heap.size+1]?=some (.cells #[v] 230 (0,0)):=hR.box;have x0:=dt hx;have yQ:=ae (Jq Jp.out hR.kept (by omega));have pY:=(yQ.out.block d tO h1).trans HD.out;have zX:=ae pY;have xd:w3.cell? ⟨d,o,none⟩=some cs[o]:=by rw[Lib.cell_of_heap pY o];simp
  have gd:w3.frozen? ⟨d,o,none⟩=false:=Lib.frozen_of_heap pY _;have HR:=ae hR;have hif:=hR.isIf;clear hx pY hR
  have fin:Hid (∃ok' j'' v',Ending.returned (.bool ok)=.returned (.bool ok')/\uJ [Hx.bW] w b gt cap tb ts j d o cs T ok' j'' v' (w3.setCell ⟨d,o,none⟩ (.iface 303 (.agg #[v])))):=ae (by
   refine⟨ok,j',_,rfl,HR.out.par.set h1 h2,(yR yQ.out).setCell (p:=⟨d,o,none⟩) (.inl (.inr rfl)) _,aE zX.out,.inr ⟨_,_,rfl⟩,λe=>?_,λe=>?_⟩
   ·obtain⟨g,hg,hj,cR,vh⟩:=HR.out.good e
    exact⟨.not g,by rw[hg];rfl,by grind[Hx.G.deep],Jr h.lt HN.out aN.out cR,⟨(wT Hx.eK (by decide) (by decide) h.lt HN.out aN.out).trans vh.gs,abF h.lt HN.out vh.vj⟩⟩
   ·exact FJ h.lt HN.out aN.out (HR.out.bad e))
  rcases hif with rfl|⟨T',x,rfl⟩
  all_goals
   go_wp2_with fail;go_ret;exact fin.out
 |false=>
  rw[Ko]at nD;have pk:fJ w2 b gt cap tb ts j:=nD;have fQ:=ae pk;have HN:=ae Ko;clear nD pk Ko;go_wp2_with fail;refine(cY Hx.jY w2 b gt cap tb ts j _ rfl fQ.out).mono ?_;rintro e w3 ⟨rfl,pS,jq⟩;have hA1:=(jq.block w1.heap.size (by omega) (by omega)).trans HA1.out;have J9:=(jq.block (w1.heap.size+1) (by omega) (by omega)).trans QU.out;have oS:=jq.size;have F9:=ae hA1;have HA4:=ae J9;have yQ:=ae (Jp.out.trans jq (λ_ e=>.inl e));clear hA1 J9 jq HA1 QU
  cases Qj:aq (ts[j]'h.lt) Hx.jY with
  |true=>
   rw[Qj]at pS;have sY:fJ w3 b gt cap tb ts (j+1):=pS;have nT:=ae sY;have HL:=ae Qj;clear pS sY Qj;go_wp2_with fail;refine(HGU.out w3 b gt cap tb ts (j+1) (w1.heap.size+1) 0 _ _ nT.out HA4.out (by simp) k8 my (by omega)).mono ?_;rintro e w4 ⟨ok,j',v,rfl,hR⟩;have hx:w4.heap[w1.heap.size+1]?=some (.cells #[v] 230 (0,0)):=hR.box;have ep:=(hR.kept.block w1.heap.size (by omega) (by omega)).trans F9.out;have Ju:=ae (Jq yQ.out hR.kept (by omega));have HR:=ae hR;have hif:=hR.isIf;have HX:=ae hx;have pJ:=ae ep;have hs4:=hR.kept.size;clear hx ep hR
   cases ok with
   |false=>
    have x0:=dt HX.out;obtain⟨y0,y1,y2,y3⟩:=Vh pJ.out;have pY:=(Ju.out.block d tO h1).trans HD.out;have zX:=ae pY;have xd:w4.cell? ⟨d,o,none⟩=some cs[o]:=by rw[Lib.cell_of_heap pY o];simp
    have gd:w4.frozen? ⟨d,o,none⟩=false:=Lib.frozen_of_heap pY _;clear pY
    have fin:Hid (∃ok' j'' v',Ending.returned (.bool false)=.returned (.bool ok')/\uJ [Hx.bW] w b gt cap tb ts j d o cs T ok' j'' v' (w4.setCell ⟨d,o,none⟩ (.iface 305 (.agg #[.int .i64 (ao t.k),.string t.s,.int .i64 t.n,.int .i64 t.line,v])))):=ae (by
     refine⟨false,j',_,rfl,HR.out.par.set h1 h2,(yR Ju.out).setCell (p:=⟨d,o,none⟩) (.inl (.inr rfl)) _,aE zX.out,.inr ⟨_,_,rfl⟩,(λe=>by cases e),λe=>?_⟩
     exact Vf h.lt HN.out HL.out aN.out (HR.out.bad rfl))
    rcases hif with rfl|⟨T',x,rfl⟩
    all_goals
     go_wp2_with fail;go_ret;exact fin.out
   |true=>
    go_wp2_with fail;refine(cY Hx.qU w4 b gt cap tb ts j' _ rfl HR.out.par).mono ?_;rintro e w5 ⟨rfl,XC,lm⟩;have Kk:=ae XC;have hx:=(lm.block (w1.heap.size+1) (by omega) (by omega)).trans HX.out;have ep:=(lm.block w1.heap.size (by omega) (by omega)).trans pJ.out;have x0:=dt hx;obtain⟨y0,y1,y2,y3⟩:=Vh ep;have alz:=ae (Ju.out.trans lm (λ_ e=>.inl e));clear XC lm hx ep;have pY:=(alz.out.block d tO h1).trans HD.out;have zX:=ae pY;have xd:w5.cell? ⟨d,o,none⟩=some cs[o]:=by rw[Lib.cell_of_heap pY o];simp
    have gd:w5.frozen? ⟨d,o,none⟩=false:=Lib.frozen_of_heap pY _;clear pY;have Mh:Hid (Hx.Good (ts[j']'HR.out.par.lt)):=ae (h.ok.good _ (List.getElem_mem _));generalize hrp:aq (ts[j']'HR.out.par.lt) Hx.qU=ok2 at Kk|-;have HRP:=ae hrp;clear hrp
    have fin:Hid (∃ok' j'' v',Ending.returned (.bool ok2)=.returned (.bool ok')/\uJ [Hx.bW] w b gt cap tb ts j d o cs T ok' j'' v' (w5.setCell ⟨d,o,none⟩ (.iface 305 (.agg #[.int .i64 (ao t.k),.string t.s,.int .i64 t.n,.int .i64 t.line,v])))):=ae (by
     obtain⟨g,hg,hj,cR,vh⟩:=HR.out.good rfl;refine⟨ok2,_,_,rfl,Kk.out.set h1 h2,(yR alz.out).setCell (p:=⟨d,o,none⟩) (.inl (.inr rfl)) _,aE zX.out,.inr ⟨_,_,rfl⟩,λe=>?_,λe=>?_⟩
     ·subst e
      refine⟨.group (ts[j]'h.lt) g,by rw[hg,HT.out];rfl,?_,?_,?_⟩
      ·rw[if_pos rfl];grind[Hx.G.deep]
      ·exact agN h.lt HN.out HL.out aN.out HR.out.par.lt cR Mh.out HRP.out
      ·exact⟨agO h.lt HL.out aN.out HR.out.par.lt vh.gs Mh.out HRP.out,abH h.lt HL.out HR.out.par.lt vh.vj HRP.out⟩
     ·subst e
      exact Vg h.lt HN.out HL.out aN.out HR.out.par.lt cR Mh.out HRP.out)
    rcases hif with rfl|⟨T',x,rfl⟩
    all_goals
     go_wp2_with fail;go_ret;exact fin.out
  |false=>
   rw[Qj]at pS;have sY:fJ w3 b gt cap tb ts j:=pS;have nT:=ae sY;have HL:=ae Qj;clear pS sY Qj;go_wp2_with fail;refine(cY Hx.dQ w3 b gt cap tb ts j _ rfl nT.out).mono ?_;rintro e w4 ⟨rfl,hp4,tL⟩;have Ju:=ae (yQ.out.trans tL (λ_ e=>.inl e));clear tL
   cases htr:aq (ts[j]'h.lt) Hx.dQ with
   |true=>
    rw[htr]at hp4;have Vi:fJ w4 b gt cap tb ts (j+1):=hp4;have FI:=ae Vi;have HTR:=ae htr;clear hp4 Vi htr;have pY:=(Ju.out.block d tO h1).trans HD.out;have zX:=ae pY;have xd:w4.cell? ⟨d,o,none⟩=some cs[o]:=by rw[Lib.cell_of_heap pY o];simp
    have gd:w4.frozen? ⟨d,o,none⟩=false:=Lib.frozen_of_heap pY _;clear pY
    have fin:Hid (∃ok' j'' v',Ending.returned (.bool true)=.returned (.bool ok')/\uJ [Hx.bW] w b gt cap tb ts j d o cs T ok' j'' v' (w4.setCell ⟨d,o,none⟩ (.iface 370 (.agg #[])))):=ae (by
     refine⟨true,j+1,_,rfl,FI.out.set h1 h2,(yR Ju.out).setCell (p:=⟨d,o,none⟩) (.inl (.inr rfl)) _,aE zX.out,.inr ⟨_,_,rfl⟩,λe=>⟨.gZ,rfl,by grind[Hx.G.deep],?_,?_⟩,(λe=>by cases e)⟩
     ·have hb:=Js h.lt HN.out HL.out HTR.out aN.out
      rw[ak h.lt];exact Hx.Ok.aU hb (Hx.cE aN.out _ (.inl (by decide)) _ HTR.out)
     ·exact⟨wT Hx.dQ (by decide) (by decide) h.lt HTR.out aN.out,abG h.lt HTR.out⟩)
    go_wp2_with fail;go_ret;exact fin.out
   |false=>
    rw[htr]at hp4;have Vi:fJ w4 b gt cap tb ts j:=hp4;have FI:=ae Vi;have HTR:=ae htr;clear hp4 Vi htr;go_wp2_with fail;refine(FH w4 b gt cap tb ts j d o cs T FI.out ((Ju.out.block d tO h1).trans HD.out) ho h1 h2).mono ?_;rintro e w5 ⟨ok,j',v,rfl,hR⟩;have HR:=ae hR;clear hR;go_wp2_with fail;go_ret;have hb:=Jt h.lt HN.out HL.out HTR.out aN.out;refine⟨ok,j',v,rfl,HR.out.par,(yR Ju.out).trans HR.out.kept (λ_ e=>.inl e),HR.out.box,HR.out.isIf,λe=>?_,λe=>?_⟩
    ·obtain⟨g,hg,hj,cR,vh⟩:=HR.out.good e
     refine⟨g,hg,hj,?_,vh.gs,by have:=vh.vj;grind[Hx.pH,NN]⟩
     grind[Hx.Ok.aU,ak]
    ·have:=HR.out.bad e
     grind[Hx.eo.aU,ak]
