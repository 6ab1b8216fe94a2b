/- Walks of the parser's next, skip, take. -/
import Derived.Test.YtdjaiolfdbamcaaGreatDoorZWJoin
import Derived.Test.YtdjaiolfdbamcaaGreatDoorZPar
import Derived.Deep.RegionHeld3
set_option maxRecDepth 20000
set_option maxHeartbeats 400000
namespace Go.Proofs.YtdjaiolfdbamcaaGreatDoor
section
open Go.RowKit
structure PIs (w:World) (b gt cap tb:Nat) (ts:List Hx.Tok) (j:Nat):Prop where
 box:w.heap[b]? = some (.cells #[.slice (some ⟨gt,0,none⟩) ts.length cap,.int .i64 j,.pointer (some ⟨tb,0,none⟩)] 202 (0,0))
 toks:TokMemA w gt ts
 lies:gt<w.heap.size
 ne:gt≠b
 lt:j<ts.length
 ok:Hx.TsOk ts
theorem PIs.own {w:World} {b gt cap tb:Nat} {ts:List Hx.Tok} {j:Nat} (h:PIs w b gt cap tb ts j):b<w.heap.size:=(Array.getElem?_eq_some_iff.1 h.box).1
theorem PIs.kp {F:Nat->Prop} {w w':World} {b gt cap tb:Nat} {ts:List Hx.Tok} {j:Nat} (h:PIs w b gt cap tb ts j) (hk:Kp F w w') (h1:¬ F b) (h2:¬ F gt):PIs w' b gt cap tb ts j :=
 ⟨(hk.block b h.own h1).trans h.box,fun i hi=>⟨(hk.cell h.lies h2).trans (h.toks i hi).1,(hk.cell h.lies h2).trans (h.toks i hi).2.1,(hk.cell h.lies h2).trans (h.toks i hi).2.2.1,(hk.cell h.lies h2).trans (h.toks i hi).2.2.2⟩,
  Nat.lt_of_lt_of_le h.lies hk.size,h.ne,h.lt,h.ok⟩
theorem PIs.below {w w':World} {b gt cap tb:Nat} {ts:List Hx.Tok} {j:Nat} (h:PIs w b gt cap tb ts j) (hb:Below w.heap.size w w'):PIs w' b gt cap tb ts j :=
 h.kp (F:=fun _=>False) (Kp.ofBelow hb) id id
theorem next_any (w:World) (b gt cap tb:Nat) (ts:List Hx.Tok) (j:Nat) (h:PIs w b gt cap tb ts j) :
  Calls Tryz.prog 104 #[.pointer (some ⟨b,0,none⟩)] w fun e w'=>e=.returned (aggA (ts[j]'h.lt))/\Below w.heap.size w w':=by
 have HP:=hide h;obtain ⟨t,ht⟩ : ∃ t,t=ts[j]'h.lt:=⟨_,rfl⟩;rw [<- ht];have p0:w.cell? ⟨b,0,none⟩=some (.slice (some ⟨gt,0,none⟩) ts.length cap):=Lib.cell_of_heap h.box 0;have p1:w.cell? ⟨b,1,none⟩=some (.int .i64 j):=Lib.cell_of_heap h.box 1;have hb:=h.own;have hg:=h.lies;obtain ⟨q0,q1,q2,q3⟩:=h.toks j h.lt;rw [<- ht] at q0 q1 q2 q3;have hlt:(j:Int)<ts.length:=by have:=h.lt;omega
 have hj0:(0:Int)<=j:=by omega
 obtain ⟨kd,hkd⟩ : ∃ kd,kd=kindA t.k:=⟨_,rfl⟩;rw [<- hkd] at q0;have HKD:=hide hkd;clear hkd ht h;go_enter Tryz.func104,Tryz.ntmps104;go_wp2_with fail
 go_region_held3 (fun W=>W.cell? ⟨b,0,none⟩=some (.slice (some ⟨gt,0,none⟩) ts.length cap)/\W.cell? ⟨b,1,none⟩=some (.int .i64 j)/\W.cell? ⟨gt,j*4,none⟩=some (.int .i64 kd)/\W.cell? ⟨gt,j*4+1,none⟩=some (.string t.s)/\W.cell? ⟨gt,j*4+2,none⟩=some (.int .i64 t.n)/\W.cell? ⟨gt,j*4+3,none⟩=some (.int .i64 t.line)) (go_keep) (fail)
 go_wp2_with fail;refine bodyPost_ret (v:=.agg #[.int .i64 kd,.string t.s,.int .i64 t.n,.int .i64 t.line]) (by simp [results,Tryz.results104,go_sem]) rfl ?_;refine ⟨by rw [HKD.out];rfl,?_⟩;exact ((Below.refl _ _).alloc (Nat.le_refl _) _).drew
theorem aggA_eq (t:Hx.Tok):aggA t=.agg #[.int .i64 (kindA t.k),.string t.s,.int .i64 t.n,.int .i64 t.line]:=rfl
theorem PIs.step {w:World} {b gt cap tb:Nat} {ts:List Hx.Tok} {j:Nat} (h:PIs w b gt cap tb ts j) (k:Nat) (hk:k<ts.length):PIs (w.setCell ⟨b,1,none⟩ (.int .i64 k)) b gt cap tb ts k:=by
 have hK:Kp (fun x=>x=b) w (w.setCell ⟨b,1,none⟩ (.int .i64 k)):=(Kp.refl (fun x=>x=b) w).setCell (p:=⟨b,1,none⟩) (.inl rfl) _;refine ⟨?_,fun i hi=>⟨(hK.cell h.lies h.ne).trans (h.toks i hi).1,(hK.cell h.lies h.ne).trans (h.toks i hi).2.1,(hK.cell h.lies h.ne).trans (h.toks i hi).2.2.1,(hK.cell h.lies h.ne).trans (h.toks i hi).2.2.2⟩,Nat.lt_of_lt_of_le h.lies hK.size,h.ne,hk,h.ok⟩;rw [setCell_eq_setRow w b 1 _ _ _ _ h.box,setRow_heap w b _ _ _ _ h.box];rfl
def SkipR (w:World) (b gt cap tb:Nat) (ts:List Hx.Tok) (j:Nat) (ok:Bool) (e:Ending) (w':World):Prop :=
 e=.returned (.bool ok)/\PIs w' b gt cap tb ts (if ok then j+1 else j)/\Kp (fun k=>k=b) w w'
theorem skip_any (w:World) (b gt cap tb:Nat) (ts:List Hx.Tok) (j:Nat) (m:ByteArray) (h:PIs w b gt cap tb ts j) :
  Calls Tryz.prog 196 #[.pointer (some ⟨b,0,none⟩),.string m] w fun e w'=>SkipR w b gt cap tb ts j (isMark (ts[j]'h.lt) m.toList) e w':=by
 have HP:=hide h;have hn:isMark (ts[j]'h.lt) m.toList=true->j+1<ts.length:=fun e=>h.ok.fin j h.lt (fun e2=>by rw [isMark,e2] at e;simp [kindA] at e)
 generalize hM:isMark (ts[j]'h.lt) m.toList=ok at hn |-;have HM:=hide hM;have HN:=hide hn;have hfew:=h.ok.few;have hjl:=h.lt;clear hM hn;go_enter Tryz.func196,Tryz.ntmps196;go_wp2_with fail;refine (next_any w b gt cap tb ts j HP.out).mono ?_;rintro e w1 ⟨rfl,hb1⟩;have HB1:=hide hb1;clear hb1;go_wp2_with fail;refine (is_any (ts[j]'HP.out.lt) m w1).mono ?_;rintro e w2 ⟨rfl,hb2⟩;rw [HM.out];have HB2:=hide (HB1.out.trans (hb2.mono HB1.out.size));have HP2:=hide (HP.out.below HB2.out);have p0:w2.cell? ⟨b,1,none⟩=some (.int .i64 j):=Lib.cell_of_heap HP2.out.box 1;have f0:w2.frozen? ⟨b,1,none⟩=false:=Lib.frozen_of_heap HP2.out.box 1;clear hb2
 cases ok with
 | false =>
  go_wp2_with fail;go_ret;exact ⟨rfl,HP2.out,Kp.ofBelow HB2.out⟩
 | true =>
  have hw:IntKind.i64.wrap ((j:Int)+1)=(j:Int)+1:=IntWalk.i64_in _ (by omega);go_wp2_with fail;go_ret;refine ⟨rfl,?_,(Kp.ofBelow (F:=fun k=>k=b) HB2.out).setCell (p:=⟨b,1,none⟩) (.inl rfl) _⟩;exact HP2.out.step (j+1) (HN.out (by trivial))
theorem field_kind (W:World) (k n l:Int) (s:ByteArray):(Instr.field 149 (.agg #[.int .i64 k,.string s,.int .i64 n,.int .i64 l]) 0).run Tryz.prog W=.ok (.int .i64 k) W:=by kernel_rfl
theorem field_text (W:World) (k n l:Int) (s:ByteArray):(Instr.field 149 (.agg #[.int .i64 k,.string s,.int .i64 n,.int .i64 l]) 1).run Tryz.prog W=.ok (.string s) W:=by kernel_rfl
def setTok (cs:Array Value) (o:Nat) (t:Hx.Tok):Array Value :=
 (((cs.setIfInBounds o (.int .i64 (kindA t.k))).setIfInBounds (o+1) (.string t.s)).setIfInBounds (o+2) (.int .i64 t.n)).setIfInBounds (o+3) (.int .i64 t.line)
theorem set_heap {w:World} {d o:Nat} {cs:Array Value} {T:TypeId} {v:Value} (h:w.heap[d]? = some (.cells cs T (0,0))) :
  (w.setCell ⟨d,o,none⟩ v).heap[d]? = some (.cells (cs.setIfInBounds o v) T (0,0)):=by
 rw [setCell_eq_setRow w d o _ _ _ _ h,setRow_heap w d _ _ _ _ h]
theorem PIs.set {w:World} {b gt cap tb:Nat} {ts:List Hx.Tok} {j d o:Nat} {v:Value} (h:PIs w b gt cap tb ts j) (h1:d≠b) (h2:d≠gt):PIs (w.setCell ⟨d,o,none⟩ v) b gt cap tb ts j :=
 h.kp ((Kp.refl (fun k=>k=d) w).setCell (p:=⟨d,o,none⟩) (.inl rfl) v) (fun e=>h1 e.symm) (fun e=>h2 e.symm)
structure TakeP (w:World) (b gt cap tb:Nat) (ts:List Hx.Tok) (j d o:Nat) (cs:Array Value) (T:TypeId) (t:Hx.Tok) (ok:Bool) (e:Ending) (w':World):Prop where
 ret:e=.returned (.bool ok)
 par:PIs w' b gt cap tb ts (if ok then j+1 else j)
 kept:Kp (fun k=>k=b\/k=d) w w'
 box:w'.heap[d]? = some (.cells (if ok then setTok cs o t else cs) T (0,0))
theorem ptake_any (w:World) (b gt cap tb:Nat) (ts:List Hx.Tok) (j d o:Nat) (cs:Array Value) (T:TypeId) (kd:Int) (h:PIs w b gt cap tb ts j) (hd:w.heap[d]? = some (.cells cs T (0,0))) (ho:o+4<=cs.size) (h1:d≠b) (h2:d≠gt) (h0:kd≠0) :
  Calls Tryz.prog 197 #[.pointer (some ⟨b,0,none⟩),.int .i64 kd,.pointer (some ⟨d,o,none⟩)] w fun e w'=>TakeP w b gt cap tb ts j d o cs T (ts[j]'h.lt) (kindA (ts[j]'h.lt).k == kd) e w':=by
 have HP:=hide h;have hn:(kindA (ts[j]'h.lt).k == kd)=true->j+1<ts.length:=fun e=>h.ok.fin j h.lt (fun e2=>by rw [e2] at e;simp [kindA] at e;exact h0 e.symm)
 have HD:=hide hd;have hfew:=h.ok.few;have hjl:=h.lt;obtain ⟨t,ht⟩ : ∃ t,t=ts[j]'h.lt:=⟨_,rfl⟩;rw [<- ht] at hn;rw [<- ht];have HN:=hide hn;have NX:∀ W,PIs W b gt cap tb ts j->Hid (Calls Tryz.prog 104 #[.pointer (some ⟨b,0,none⟩)] W fun e w'=>e=.returned (.agg #[.int .i64 (kindA t.k),.string t.s,.int .i64 t.n,.int .i64 t.line])/\Below W.heap.size W w'):=fun W hW=>hide (by have:=next_any W b gt cap tb ts j hW;rw [<- ht] at this;exact this)
 clear ht hn hd h;obtain ⟨ka,hka⟩ : ∃ ka,ka=kindA t.k:=⟨_,rfl⟩;rw [<- hka] at NX |-;have HKA:=hide hka;clear hka;have hfk:=fun W=>field_kind W ka t.n t.line t.s
 go_enter Tryz.func197,Tryz.ntmps197
 cases hk:(ka == kd) with
 | false =>
  have hk':(ka != kd)=true:=by simp [bne,hk]
  go_wp2_with fail;refine (NX w HP.out).out.mono ?_;rintro e w1 ⟨rfl,hb1⟩;have HB1:=hide hb1;clear hb1;go_wp2_with fail;go_ret;exact ⟨rfl,HP.out.below HB1.out,Kp.ofBelow HB1.out,(HB1.out.block d (Array.getElem?_eq_some_iff.1 HD.out).1).trans HD.out⟩
 | true =>
  have hk':(ka != kd)=false:=by simp [bne,hk]
  have hj1:j+1<ts.length:=HN.out (by rw [<- HKA.out];exact hk);go_wp2_with fail;refine (NX w HP.out).out.mono ?_;rintro e w1 ⟨rfl,hb1⟩;have HB1:=hide hb1;have HP1:=hide (HP.out.below hb1);clear hb1;go_wp2_with fail;refine (NX w1 HP1.out).out.mono ?_;rintro e w2 ⟨rfl,hb2⟩;have HB2:=hide (HB1.out.trans (hb2.mono HB1.out.size));have HP2:=hide (HP1.out.below hb2);clear hb2;have hd2:=(HB2.out.block d (Array.getElem?_eq_some_iff.1 HD.out).1).trans HD.out;have HD2:=hide hd2;have x0:w2.cell? ⟨d,o,none⟩=some cs[o]:=by rw [Lib.cell_of_heap hd2 o];simp
  have x1:w2.cell? ⟨d,o+1,none⟩=some cs[o+1]:=by rw [Lib.cell_of_heap hd2 (o+1)];simp
  have x2:w2.cell? ⟨d,o+2,none⟩=some cs[o+2]:=by rw [Lib.cell_of_heap hd2 (o+2)];simp
  have x3:w2.cell? ⟨d,o+3,none⟩=some cs[o+3]:=by rw [Lib.cell_of_heap hd2 (o+3)];simp
  have g0:w2.frozen? ⟨d,o,none⟩=false:=Lib.frozen_of_heap hd2 _;have g1:w2.frozen? ⟨d,o+1,none⟩=false:=Lib.frozen_of_heap hd2 _;have g2:w2.frozen? ⟨d,o+2,none⟩=false:=Lib.frozen_of_heap hd2 _;have g3:w2.frozen? ⟨d,o+3,none⟩=false:=Lib.frozen_of_heap hd2 _;have p0:w2.cell? ⟨b,1,none⟩=some (.int .i64 j):=Lib.cell_of_heap HP2.out.box 1;have f0:w2.frozen? ⟨b,1,none⟩=false:=Lib.frozen_of_heap HP2.out.box 1;have hne:b≠d:=fun e=>h1 e.symm
  clear hd2;have hw:IntKind.i64.wrap ((j:Int)+1)=(j:Int)+1:=IntWalk.i64_in _ (by omega);go_wp2_with fail;go_ret;have hb4:=set_heap (v:=.int .i64 t.line) (o:=o+3) (set_heap (v:=.int .i64 t.n) (o:=o+2) (set_heap (v:=.string t.s) (o:=o+1) (set_heap (v:=.int .i64 ka) (o:=o) HD2.out)));refine ⟨rfl,?_,?_,?_⟩
  ·exact ((((HP2.out.set h1 h2).set h1 h2).set h1 h2).set h1 h2).step (j+1) hj1
  ·exact (((((Kp.ofBelow (F:=fun k=>k=b\/k=d) HB2.out).setCell (p:=⟨d,o,none⟩) (.inl (.inr rfl)) _).setCell (p:=⟨d,o+1,none⟩) (.inl (.inr rfl)) _).setCell (p:=⟨d,o+2,none⟩) (.inl (.inr rfl)) _).setCell (p:=⟨d,o+3,none⟩) (.inl (.inr rfl)) _).setCell (p:=⟨b,1,none⟩) (.inl (.inl rfl)) _
  ·refine (((Kp.refl (fun k=>k=b) _).setCell (p:=⟨b,1,none⟩) (.inl rfl) _).block d (Array.getElem?_eq_some_iff.1 hb4).1 h1).trans ?_
   rw [hb4,HKA.out];rfl
end
section
open Go.RowKit
theorem TakeP.first {w w1:World} {b gt cap tb:Nat} {ts:List Hx.Tok} {j d o:Nat} {cs:Array Value} {T:TypeId} {t:Hx.Tok} {ok:Bool} {e:Ending} {w':World} (h:TakeP w1 b gt cap tb ts j d o cs T t ok e w') (hb:Below w.heap.size w w1):TakeP w b gt cap tb ts j d o cs T t ok e w' :=
 ⟨h.ret,h.par,(Kp.ofBelow hb).trans h.kept (fun _ h=>.inl h),h.box⟩
theorem skip_mark (y:List UInt8) (w:World) (b gt cap tb:Nat) (ts:List Hx.Tok) (j:Nat) (m:ByteArray) (hy:m.data.toList=y) (h:PIs w b gt cap tb ts j) :
  Calls Tryz.prog 196 #[.pointer (some ⟨b,0,none⟩),.string m] w fun e w'=>SkipR w b gt cap tb ts j (isMark (ts[j]'h.lt) y) e w':=by
 have:=skip_any w b gt cap tb ts j m h;rw [Lib.toList_data,hy] at this;exact this
def isOp (t:Hx.Tok):Bool:=Hx.wOps.contains t.s.toList && (kindA t.k == 3)
theorem op_yes {t:Hx.Tok} {y:List UInt8} (hy:y∈Hx.wOps) (h:(t.s.toList == y)=true):isOp t=(kindA t.k == 3):=by
 rw [isOp,beq_iff_eq.1 h];simp [hy]
theorem op_fits {t:Hx.Tok} (h:Hx.Good t):Hx.fitsP Hx.YOP t=isOp t:=by
 unfold Hx.fitsP isOp;rw [if_neg (by decide),if_neg (by decide),if_pos rfl,Lib.toList_data];rcases h with h | h | h | ⟨h,hs⟩ | ⟨h,hs⟩
 ·rw [h];simp [kindA]
 ·rw [h];simp [kindA]
 ·rw [h];simp [kindA]
 ·rw [h]
  have:Hx.wOps.contains t.s.data.toList=false:=by
   have hall:∀ a∈Hx.wWords,Hx.wOps.contains a=false:=by decide
   exact hall _ hs
  rw [this];rfl
 ·rw [h,Bool.and_comm];simp [kindA]
theorem op_ok {t:Hx.Tok} (h:Hx.Good t) (r:List Hx.Tok) (e:isOp t=true):Hx.Ok [Hx.YOP] (t::r) r:=Hx.Ok.fits rfl ((op_fits h).trans e)
theorem op_bad {t:Hx.Tok} (h:Hx.Good t) (r:List Hx.Tok) (e:isOp t=false):Hx.Bad [Hx.YOP] (t::r) t.line:=Hx.Bad.fits rfl ((op_fits h).trans e)
theorem takeOp_any (w:World) (b gt cap tb:Nat) (ts:List Hx.Tok) (j d o:Nat) (cs:Array Value) (T:TypeId) (h:PIs w b gt cap tb ts j) (hd:w.heap[d]? = some (.cells cs T (0,0))) (ho:o+4<=cs.size) (h1:d≠b) (h2:d≠gt) :
  Calls Tryz.prog 274 #[.pointer (some ⟨b,0,none⟩),.pointer (some ⟨d,o,none⟩)] w fun e w'=>TakeP w b gt cap tb ts j d o cs T (ts[j]'h.lt) (isOp (ts[j]'h.lt)) e w':=by
 have HP:=hide h;have HD:=hide hd;obtain ⟨t,ht⟩ : ∃ t,t=ts[j]'h.lt:=⟨_,rfl⟩
 have PT:∀ W,Below w.heap.size w W->Hid (Calls Tryz.prog 197 #[.pointer (some ⟨b,0,none⟩),.int .i64 3,.pointer (some ⟨d,o,none⟩)] W fun e w'=>TakeP w b gt cap tb ts j d o cs T t (kindA t.k == 3) e w'):=fun W hW=>hide (by
  have:=(ptake_any W b gt cap tb ts j d o cs T 3 (h.below hW) ((hW.block d (Array.getElem?_eq_some_iff.1 hd).1).trans hd) ho h1 h2 (by decide)).mono (fun e w' hr=>hr.first (w:=w) hW)
  rw [<- ht] at this;exact this)
 have NX:Hid (Calls Tryz.prog 104 #[.pointer (some ⟨b,0,none⟩)] w fun e w'=>e=.returned (.agg #[.int .i64 (kindA t.k),.string t.s,.int .i64 t.n,.int .i64 t.line])/\Below w.heap.size w w'):=hide (by have:=next_any w b gt cap tb ts j h;rw [<- ht] at this;exact this);rw [<- ht];clear ht hd h;obtain ⟨ka,hka⟩ : ∃ ka,ka=kindA t.k:=⟨_,rfl⟩;rw [<- hka] at NX;have hft:=fun W=>field_text W ka t.n t.line t.s
 clear hka;go_enter Tryz.func274,Tryz.ntmps274;go_wp2_with fail;refine NX.out.mono ?_;rintro e w1 ⟨rfl,hb1⟩;have HB1:=hide hb1;clear hb1
 cases o0:(t.s.toList == [60]) with
 | true =>
  have HO:=hide (op_yes (t:=t) (y:=[60]) (by decide) o0);go_wp2_with fail;refine (PT w1 HB1.out).out.mono ?_;intro e w2 hr;obtain rfl:=hr.ret;have HR:=hide hr;clear hr;go_wp2_with fail;go_ret;rw [HO.out];exact HR.out
 | false =>
  cases o1:(t.s.toList == [60,61]) with
  | true =>
   have HO:=hide (op_yes (t:=t) (y:=[60,61]) (by decide) o1);go_wp2_with fail;refine (PT w1 HB1.out).out.mono ?_;intro e w2 hr;obtain rfl:=hr.ret;have HR:=hide hr;clear hr;go_wp2_with fail;go_ret;rw [HO.out];exact HR.out
  | false =>
   cases o2:(t.s.toList == [61,61]) with
   | true =>
    have HO:=hide (op_yes (t:=t) (y:=[61,61]) (by decide) o2);go_wp2_with fail;refine (PT w1 HB1.out).out.mono ?_;intro e w2 hr;obtain rfl:=hr.ret;have HR:=hide hr;clear hr;go_wp2_with fail;go_ret;rw [HO.out];exact HR.out
   | false =>
    cases o3:(t.s.toList == [33,61]) with
    | true =>
     have HO:=hide (op_yes (t:=t) (y:=[33,61]) (by decide) o3);go_wp2_with fail;refine (PT w1 HB1.out).out.mono ?_;intro e w2 hr;obtain rfl:=hr.ret;have HR:=hide hr;clear hr;go_wp2_with fail;go_ret;rw [HO.out];exact HR.out
    | false =>
     cases o4:(t.s.toList == [62,61]) with
     | true =>
      have HO:=hide (op_yes (t:=t) (y:=[62,61]) (by decide) o4);go_wp2_with fail;refine (PT w1 HB1.out).out.mono ?_;intro e w2 hr;obtain rfl:=hr.ret;have HR:=hide hr;clear hr;go_wp2_with fail;go_ret;rw [HO.out];exact HR.out
     | false =>
      cases o5:(t.s.toList == [62]) with
      | true =>
       have HO:=hide (op_yes (t:=t) (y:=[62]) (by decide) o5);go_wp2_with fail;refine (PT w1 HB1.out).out.mono ?_;intro e w2 hr;obtain rfl:=hr.ret;have HR:=hide hr;clear hr;go_wp2_with fail;go_ret;rw [HO.out];exact HR.out
      | false =>
       have HO:Hid (isOp t=false):=hide (by rw [isOp];simp only [Hx.wOps,List.contains_cons,List.contains_nil,o0,o1,o2,o3,o4,o5,Bool.or_false,Bool.false_and]);go_wp2_with fail;go_ret;rw [HO.out];exact ⟨rfl,HP.out.below HB1.out,Kp.ofBelow HB1.out,(HB1.out.block d (Array.getElem?_eq_some_iff.1 HD.out).1).trans HD.out⟩
end
section
open Go.RowKit
def tokV (t:Hx.Tok):List Value:=[.int .i64 (kindA t.k),.string t.s,.int .i64 t.n,.int .i64 t.line]
def gval:Hx.G->Value
 | .or l r=>.iface 300 (.agg #[gval l,gval r])
 | .and l r=>.iface 301 (.agg #[gval l,gval r])
 | .not g=>.iface 303 (.agg #[gval g])
 | .group t g=>.iface 305 (.agg #[.int .i64 (kindA t.k),.string t.s,.int .i64 t.n,.int .i64 t.line,gval g])
 | .tru=>.iface 370 (.agg #[])
 | .atom w n o i _=>.iface 307 (.agg #[.bool w.isSome,.int .i64 (kindA n.k),.string n.s,.int .i64 n.n,.int .i64 n.line,.int .i64 (kindA o.k),.string o.s,.int .i64 o.n,.int .i64 o.line,.int .i64 (kindA i.k),.string i.s,.int .i64 i.n,.int .i64 i.line])
def IsIf (v:Value):Prop:=v=.nilIface\/∃ T x,v=.iface T x
theorem gval_if (g:Hx.G):IsIf (gval g):=by cases g <;> exact .inr ⟨_,_,rfl⟩
structure GuardR (Y:List (List UInt8)) (w:World) (b gt cap tb:Nat) (ts:List Hx.Tok) (j d o:Nat) (cs:Array Value) (T:TypeId) (ok:Bool) (j':Nat) (v:Value) (w':World):Prop where
 par:PIs w' b gt cap tb ts j'
 kept:Kp (fun k=>k=b\/k=d) w w'
 box:w'.heap[d]? = some (.cells (cs.setIfInBounds o v) T (0,0))
 isIf:IsIf v
 good:ok=true->∃ g,v=gval g/\j+g.deep<j'/\Hx.Ok Y (ts.drop j) (ts.drop j')/\Hx.GD Y (ts.drop j) (ts.drop j') g
 bad:ok=false->Hx.Bad Y (ts.drop j) (ts[j']'par.lt).line
theorem cells13 {w:World} {A:Nat} {T:TypeId} {v0 v1 v2 v3 v4 v5 v6 v7 v8 v9 v10 v11 v12:Value} (h:w.heap[A]? = some (.cells #[v0,v1,v2,v3,v4,v5,v6,v7,v8,v9,v10,v11,v12] T (0,0))) :
  w.cell? ⟨A,0,none⟩=some v0/\w.cell? ⟨A,1,none⟩=some v1/\w.cell? ⟨A,2,none⟩=some v2/\w.cell? ⟨A,3,none⟩=some v3/\w.cell? ⟨A,4,none⟩=some v4/\w.cell? ⟨A,5,none⟩=some v5/\w.cell? ⟨A,6,none⟩=some v6/\w.cell? ⟨A,7,none⟩=some v7/\w.cell? ⟨A,8,none⟩=some v8/\w.cell? ⟨A,9,none⟩=some v9/\w.cell? ⟨A,10,none⟩=some v10/\w.cell? ⟨A,11,none⟩=some v11/\w.cell? ⟨A,12,none⟩=some v12 :=
 ⟨Lib.cell_of_heap h 0,Lib.cell_of_heap h 1,Lib.cell_of_heap h 2,Lib.cell_of_heap h 3,Lib.cell_of_heap h 4,Lib.cell_of_heap h 5,Lib.cell_of_heap h 6,Lib.cell_of_heap h 7,Lib.cell_of_heap h 8,Lib.cell_of_heap h 9,Lib.cell_of_heap h 10,Lib.cell_of_heap h 11,Lib.cell_of_heap h 12⟩
def atomY (t:Hx.Tok):List (List UInt8):=if isMark t Hx.ywas then [Hx.ywas,Hx.YNAME,Hx.YOP,Hx.YINT] else [Hx.YNAME,Hx.YOP,Hx.YINT]
theorem drop_at {ts:List Hx.Tok} {j:Nat} (h:j<ts.length):ts.drop j=ts[j]::ts.drop (j+1):=List.drop_eq_getElem_cons h
theorem atom_bad {ts:List Hx.Tok} {j j1 ln:Nat} {was:Bool} (hj:j<ts.length) (hg:Hx.Good ts[j]) (hw:isMark ts[j] Hx.ywas=was) (h1:(if was then j+1 else j)=j1) (h:Hx.Bad [Hx.YNAME,Hx.YOP,Hx.YINT] (ts.drop j1) ln):Hx.Bad (atomY ts[j]) (ts.drop j) ln:=by
 rw [atomY,hw]
 cases was with
 | false=>simp at h1;subst h1;exact h
 | true=>simp at h1;subst h1;rw [drop_at hj];exact (Hx.mark_ok hg _ (.inl (by decide)) _ hw).consBad h
theorem atom_ok {ts:List Hx.Tok} {j j1:Nat} {l':List Hx.Tok} {was:Bool} (hj:j<ts.length) (hg:Hx.Good ts[j]) (hw:isMark ts[j] Hx.ywas=was) (h1:(if was then j+1 else j)=j1) (h:Hx.Ok [Hx.YNAME,Hx.YOP,Hx.YINT] (ts.drop j1) l'):Hx.Ok (atomY ts[j]) (ts.drop j) l':=by
 rw [atomY,hw]
 cases was with
 | false=>simp at h1;subst h1;exact h
 | true=>simp at h1;subst h1;rw [drop_at hj];exact (Hx.mark_ok hg _ (.inl (by decide)) _ hw).cons h
theorem op_kind {t:Hx.Tok} (h:Hx.Good t) (e:isOp t=true):t.k=115:=by
 rw [<- op_fits h] at e;unfold Hx.fitsP at e;rw [if_neg (by decide),if_neg (by decide),if_pos rfl] at e;simp at e;exact e.1
theorem word_was {t:Hx.Tok} (h:Hx.Good t) (e:isMark t Hx.ywas=true):t.k=119/\t.s.toList=Hx.ywas:=by
 rw [Hx.mark_word h _ (by decide)] at e;have:t.k=119/\t.s.data.toList=Hx.ywas:=by simpa [Hx.isW] using e
 exact ⟨this.1,by rw [Lib.toList_data];exact this.2⟩
theorem atom_gs {ts:List Hx.Tok} {j j1:Nat} {was:Bool} (hj:j<ts.length) (hg:Hx.Good ts[j]) (hw:isMark ts[j] Hx.ywas=was) (h1:(if was then j+1 else j)=j1) (n o i:Hx.Tok) (r:List Hx.Tok) (e:ts.drop j1=n::o::i::r) (hok:Hx.AtomOk (if was then some ts[j] else none) n o i) :
  Hx.GS (ts.drop j) r (Hx.G.sen (.atom (if was then some ts[j] else none) n o i hok)):=by
 have hn:=hok.nm;have hi:=hok.num
 cases was with
 | false=>simp at h1;subst h1;rw [e];exact Hx.GS.atom0 hn hi
 | true=>simp at h1;subst h1;rw [drop_at hj,e];rw [Hx.mark_word hg _ (by decide)] at hw;exact Hx.GS.atom1 hw hn hi
theorem lv_atom (t:Hx.Tok):Hx.lvOf (atomY t)=0:=by unfold atomY;split <;> decide
theorem atom_der {ts:List Hx.Tok} {j j1:Nat} {was:Bool} (hj:j<ts.length) (h1:(if was then j+1 else j)=j1) (n o i:Hx.Tok) (r:List Hx.Tok) (e:ts.drop j1=n::o::i::r) (hok:Hx.AtomOk (if was then some ts[j] else none) n o i) :
  Hx.Der 0 (ts.drop j) (.atom (if was then some ts[j] else none) n o i hok) r:=by
 cases was with
 | false=>simp at h1;subst h1;rw [e];exact Hx.Der.atom0 hok
 | true=>simp at h1;subst h1;rw [drop_at hj,e];exact Hx.Der.atom1 hok
theorem kp_box {w w1 w2:World} {b d A:Nat} {o:Obj} (hA:A=w1.heap.size) (h:Kp (fun k=>k=b) w w1) (k:Kp (fun k=>k=b\/k=A) (w1.alloc o) w2):Kp (fun k=>k=b\/k=d) w w2 :=
 (((h.mono (G:=fun k=>k=b\/k=d) (fun _ _ e=>.inl e)).alloc o).trans k (fun x e=>e.elim (fun e=>.inl (.inl e)) (fun e=>.inr (by have:=h.size;omega))))
theorem takeAtom_any (w:World) (b gt cap tb:Nat) (ts:List Hx.Tok) (j d o:Nat) (cs:Array Value) (T:TypeId) (h:PIs w b gt cap tb ts j) (hd:w.heap[d]? = some (.cells cs T (0,0))) (ho:o<cs.size) (h1:d≠b) (h2:d≠gt) :
  Calls Tryz.prog 273 #[.pointer (some ⟨b,0,none⟩),.pointer (some ⟨d,o,none⟩)] w fun e w'=>∃ ok j' v,e=.returned (.bool ok)/\GuardR (atomY (ts[j]'h.lt)) w b gt cap tb ts j d o cs T ok j' v w':=by
 have HP:=hide h;have HD:=hide hd;have hdl:d<w.heap.size:=(Array.getElem?_eq_some_iff.1 hd).1;have hbl:=h.own;have hgl:=h.lies;clear hd;go_enter Tryz.func273,Tryz.ntmps273;go_wp2_with fail;refine (skip_mark Hx.ywas w b gt cap tb ts j _ rfl HP.out).mono ?_;rintro e w1 ⟨rfl,hp1,hk1⟩;generalize hwas:isMark (ts[j]'h.lt) Hx.ywas=was at hp1 |-;generalize hj1:(if was then j+1 else j)=j1 at hp1;have HW:=hide hwas;have HJ1:=hide hj1;have HP1:=hide hp1;have HK1:=hide hk1;clear hwas hj1 hp1 hk1;have hs1:w.heap.size<=w1.heap.size:=HK1.out.size;go_wp2_with fail;have hz:∀ o:Obj,(w1.alloc o).heap.size=w1.heap.size+1:=fun o=>by simp
 have hne1:w1.heap.size≠b:=by omega
 have hne2:w1.heap.size≠gt:=by omega
 have HPA:∀ o,Hid (PIs (w1.alloc o) b gt cap tb ts j1):=fun o=>hide (HP1.out.below ((Below.refl _ _).alloc (Nat.le_refl _) o))
 have hgood:∀ i (hi:i<ts.length),Hid (Hx.Good ts[i]):=fun i hi=>hide (HP1.out.ok.good _ (List.getElem_mem hi))
 refine (ptake_any _ b gt cap tb ts j1 w1.heap.size 1 _ 307 1 (HPA _).out (heap_alloc_new _ _) (by simp) hne1 hne2 (by decide)).mono ?_;intro e w2 hr;obtain rfl:=hr.ret;obtain ⟨tn,htn⟩ : ∃ tn,tn=ts[j1]'HP1.out.lt:=⟨_,rfl⟩;have HTN:=hide htn;rw [<- htn] at hr |-
 cases n1:(kindA tn.k == 1) with
 | false =>
  rw [n1] at hr;have HX0:=hide hr.box;have HKB0:=hide hr.kept;have HP2:=hide hr.par;have N1:=hide n1;clear hr n1 htn;have hx:w2.heap[w1.heap.size]? = some (.cells #[.bool was,.int .i64 0,.string ⟨#[]⟩,.int .i64 0,.int .i64 0,.int .i64 0,.string ⟨#[]⟩,.int .i64 0,.int .i64 0,.int .i64 0,.string ⟨#[]⟩,.int .i64 0,.int .i64 0] 307 (0,0)):=HX0.out;obtain ⟨x0,x1,x2,x3,x4,x5,x6,x7,x8,x9,x10,x11,x12⟩:=cells13 hx;have HKW:Hid (Kp (fun k=>k=b\/k=d) w w2):=hide (kp_box rfl HK1.out HKB0.out);have hd2:w2.heap[d]? = some (.cells cs T (0,0)):=(HKB0.out.block d (by simp;omega) (by omega)).trans (((((Below.refl w1.heap.size w1).alloc (Nat.le_refl _) _).block d (by omega)).trans (HK1.out.block d hdl h1)).trans HD.out);have HD2:=hide hd2;have xd:w2.cell? ⟨d,o,none⟩=some cs[o]:=by rw [Lib.cell_of_heap hd2 o];simp
  have gd:w2.frozen? ⟨d,o,none⟩=false:=Lib.frozen_of_heap hd2 _;clear hx hd2;go_wp2_with fail;go_ret;refine ⟨false,j1,_,rfl,?_,?_,set_heap HD2.out,.inr ⟨_,_,rfl⟩,(fun h=>by cases h),fun _=>?_⟩
  ·exact HP2.out.set h1 h2
  ·exact HKW.out.setCell (p:=⟨d,o,none⟩) (.inl (.inr rfl)) _
  ·refine atom_bad h.lt (hgood _ h.lt).out HW.out HJ1.out ?_
   have hb:=HTN.out;rw [drop_at HP1.out.lt,<- hb];exact (Hx.name_bad (by rw [hb];exact (hgood _ HP1.out.lt).out) _ N1.out).cons
 | true =>
  rw [n1] at hr;have hp2:PIs w2 b gt cap tb ts (j1+1):=hr.par;have hx1:w2.heap[w1.heap.size]? = some (.cells #[.bool was,.int .i64 (kindA tn.k),.string tn.s,.int .i64 tn.n,.int .i64 tn.line,.int .i64 0,.string ⟨#[]⟩,.int .i64 0,.int .i64 0,.int .i64 0,.string ⟨#[]⟩,.int .i64 0,.int .i64 0] 307 (0,0)):=hr.box;have HX1:=hide hx1;have HKB1:=hide hr.kept;have HP2:=hide hp2;have N1:=hide n1;clear hr n1 htn hp2 hx1;go_wp2_with fail;refine (takeOp_any w2 b gt cap tb ts (j1+1) w1.heap.size 5 _ 307 HP2.out HX1.out (by simp) hne1 hne2).mono ?_;intro e w3 hr;obtain rfl:=hr.ret;obtain ⟨tp,hto⟩ : ∃ tp,tp=ts[j1+1]'HP2.out.lt:=⟨_,rfl⟩;have HTO:=hide hto;rw [<- hto] at hr |-
  cases n2:isOp tp with
  | false =>
   rw [n2] at hr;have HX2:=hide hr.box;have HKB2:=hide (HKB1.out.trans hr.kept (fun _ h=>.inl h));have HP3:=hide hr.par;have N2:=hide n2;clear hr n2 hto;have hx:w3.heap[w1.heap.size]? = some (.cells #[.bool was,.int .i64 (kindA tn.k),.string tn.s,.int .i64 tn.n,.int .i64 tn.line,.int .i64 0,.string ⟨#[]⟩,.int .i64 0,.int .i64 0,.int .i64 0,.string ⟨#[]⟩,.int .i64 0,.int .i64 0] 307 (0,0)):=HX2.out;obtain ⟨x0,x1,x2,x3,x4,x5,x6,x7,x8,x9,x10,x11,x12⟩:=cells13 hx;have HKW:Hid (Kp (fun k=>k=b\/k=d) w w3):=hide (kp_box rfl HK1.out HKB2.out);have hd2:w3.heap[d]? = some (.cells cs T (0,0)):=(HKB2.out.block d (by simp;omega) (by omega)).trans (((((Below.refl w1.heap.size w1).alloc (Nat.le_refl _) _).block d (by omega)).trans (HK1.out.block d hdl h1)).trans HD.out);have HD2:=hide hd2;have xd:w3.cell? ⟨d,o,none⟩=some cs[o]:=by rw [Lib.cell_of_heap hd2 o];simp
   have gd:w3.frozen? ⟨d,o,none⟩=false:=Lib.frozen_of_heap hd2 _;clear hx hd2;go_wp2_with fail;go_ret;refine ⟨false,j1+1,_,rfl,?_,?_,set_heap HD2.out,.inr ⟨_,_,rfl⟩,(fun h=>by cases h),fun _=>?_⟩
   ·exact HP3.out.set h1 h2
   ·exact HKW.out.setCell (p:=⟨d,o,none⟩) (.inl (.inr rfl)) _
   ·refine atom_bad h.lt (hgood _ h.lt).out HW.out HJ1.out ?_
    have hb:=HTN.out;have hc:=HTO.out;rw [drop_at HP1.out.lt,drop_at HP2.out.lt,<- hb,<- hc];exact (Hx.name_ok (by rw [hb];exact (hgood _ HP1.out.lt).out) _ N1.out).consBad (op_bad (by rw [hc];exact (hgood _ HP2.out.lt).out) _ N2.out).cons
  | true =>
   rw [n2] at hr;have hp3:PIs w3 b gt cap tb ts (j1+2):=hr.par;have hx2:w3.heap[w1.heap.size]? = some (.cells #[.bool was,.int .i64 (kindA tn.k),.string tn.s,.int .i64 tn.n,.int .i64 tn.line,.int .i64 (kindA tp.k),.string tp.s,.int .i64 tp.n,.int .i64 tp.line,.int .i64 0,.string ⟨#[]⟩,.int .i64 0,.int .i64 0] 307 (0,0)):=hr.box;have HX2:=hide hx2;have HKB2:=hide (HKB1.out.trans hr.kept (fun _ h=>.inl h));have HP3:=hide hp3;have N2:=hide n2;clear hr n2 hto hp3 hx2;go_wp2_with fail;refine (ptake_any w3 b gt cap tb ts (j1+2) w1.heap.size 9 _ 307 2 HP3.out HX2.out (by simp) hne1 hne2 (by decide)).mono ?_;intro e w4 hr;obtain rfl:=hr.ret;obtain ⟨ti,hti⟩ : ∃ ti,ti=ts[j1+2]'HP3.out.lt:=⟨_,rfl⟩;have HTI:=hide hti;rw [<- hti] at hr |-
   cases n3:(kindA ti.k == 2) with
   | false =>
    rw [n3] at hr;have HX3:=hide hr.box;have HKB3:=hide (HKB2.out.trans hr.kept (fun _ h=>.inl h));have HP4:=hide hr.par;have N3:=hide n3;clear hr n3 hti;have hx:w4.heap[w1.heap.size]? = some (.cells #[.bool was,.int .i64 (kindA tn.k),.string tn.s,.int .i64 tn.n,.int .i64 tn.line,.int .i64 (kindA tp.k),.string tp.s,.int .i64 tp.n,.int .i64 tp.line,.int .i64 0,.string ⟨#[]⟩,.int .i64 0,.int .i64 0] 307 (0,0)):=HX3.out;obtain ⟨x0,x1,x2,x3,x4,x5,x6,x7,x8,x9,x10,x11,x12⟩:=cells13 hx;have HKW:Hid (Kp (fun k=>k=b\/k=d) w w4):=hide (kp_box rfl HK1.out HKB3.out);have hd2:w4.heap[d]? = some (.cells cs T (0,0)):=(HKB3.out.block d (by simp;omega) (by omega)).trans (((((Below.refl w1.heap.size w1).alloc (Nat.le_refl _) _).block d (by omega)).trans (HK1.out.block d hdl h1)).trans HD.out);have HD2:=hide hd2;have xd:w4.cell? ⟨d,o,none⟩=some cs[o]:=by rw [Lib.cell_of_heap hd2 o];simp
    have gd:w4.frozen? ⟨d,o,none⟩=false:=Lib.frozen_of_heap hd2 _;clear hx hd2;go_wp2_with fail;go_ret;refine ⟨false,j1+2,_,rfl,?_,?_,set_heap HD2.out,.inr ⟨_,_,rfl⟩,(fun h=>by cases h),fun _=>?_⟩
    ·exact HP4.out.set h1 h2
    ·exact HKW.out.setCell (p:=⟨d,o,none⟩) (.inl (.inr rfl)) _
    ·refine atom_bad h.lt (hgood _ h.lt).out HW.out HJ1.out ?_
     have hb:=HTN.out;have hc:=HTO.out;have hi:=HTI.out;rw [drop_at HP1.out.lt,drop_at HP2.out.lt,drop_at HP3.out.lt,<- hb,<- hc,<- hi];exact (Hx.name_ok (by rw [hb];exact (hgood _ HP1.out.lt).out) _ N1.out).consBad ((op_ok (by rw [hc];exact (hgood _ HP2.out.lt).out) _ N2.out).consBad (Hx.int_bad (by rw [hi];exact (hgood _ HP3.out.lt).out) _ N3.out))
   | true =>
    rw [n3] at hr;have hp4:PIs w4 b gt cap tb ts (j1+3):=hr.par;have HX3:=hide hr.box;have HKB3:=hide (HKB2.out.trans hr.kept (fun _ h=>.inl h));have HP4:=hide hp4;have N3:=hide n3;clear hr n3 hti hp4;have hx:w4.heap[w1.heap.size]? = some (.cells #[.bool was,.int .i64 (kindA tn.k),.string tn.s,.int .i64 tn.n,.int .i64 tn.line,.int .i64 (kindA tp.k),.string tp.s,.int .i64 tp.n,.int .i64 tp.line,.int .i64 (kindA ti.k),.string ti.s,.int .i64 ti.n,.int .i64 ti.line] 307 (0,0)):=HX3.out;obtain ⟨x0,x1,x2,x3,x4,x5,x6,x7,x8,x9,x10,x11,x12⟩:=cells13 hx;have HKW:Hid (Kp (fun k=>k=b\/k=d) w w4):=hide (kp_box rfl HK1.out HKB3.out);have hd2:w4.heap[d]? = some (.cells cs T (0,0)):=(HKB3.out.block d (by simp;omega) (by omega)).trans (((((Below.refl w1.heap.size w1).alloc (Nat.le_refl _) _).block d (by omega)).trans (HK1.out.block d hdl h1)).trans HD.out);have HD2:=hide hd2;have xd:w4.cell? ⟨d,o,none⟩=some cs[o]:=by rw [Lib.cell_of_heap hd2 o];simp
    have gd:w4.frozen? ⟨d,o,none⟩=false:=Lib.frozen_of_heap hd2 _;clear hx hd2;go_wp2_with fail;go_ret;have hjj:j<=j1:=by have:=HJ1.out;cases was <;> simp at this <;> omega
    have hb:=HTN.out;have hc:=HTO.out;have hi:=HTI.out;have ed:ts.drop j1=tn::tp::ti::ts.drop (j1+3):=by rw [drop_at HP1.out.lt,drop_at HP2.out.lt,drop_at HP3.out.lt,<- hb,<- hc,<- hi]
    have gn:Hx.Good tn:=by rw [hb];exact (hgood _ HP1.out.lt).out
    have go':Hx.Good tp:=by rw [hc];exact (hgood _ HP2.out.lt).out
    have gi:Hx.Good ti:=by rw [hi];exact (hgood _ HP3.out.lt).out
    have hao:Hx.AtomOk (if was then some (ts[j]'h.lt) else none) tn tp ti:=by
     refine ⟨fun t ht=>?_,Hx.kind_name gn N1.out,op_kind go' N2.out,Hx.kind_int gi N3.out,by rw [hi];exact HP1.out.ok.txt _ (List.getElem_mem _)⟩
     cases was with
     | false=>simp at ht
     | true=>simp at ht;subst ht;exact word_was (hgood _ h.lt).out HW.out
    refine ⟨true,j1+3,gval (.atom (if was then some (ts[j]'h.lt) else none) tn tp ti hao),rfl,?_,?_,?_,gval_if _,fun _=>⟨_,rfl,by simp only [Hx.G.deep];omega,?_,?_⟩,(fun h=>by cases h)⟩
    ·exact HP4.out.set h1 h2
    ·exact HKW.out.setCell (p:=⟨d,o,none⟩) (.inl (.inr rfl)) _
    ·rw [set_heap HD2.out];cases was <;> rfl
    ·refine atom_ok h.lt (hgood _ h.lt).out HW.out HJ1.out ?_
     rw [ed];exact (Hx.name_ok gn _ N1.out).cons ((op_ok go' _ N2.out).cons (Hx.int_ok gi _ N3.out))
    ·exact ⟨atom_gs h.lt (hgood _ h.lt).out HW.out HJ1.out tn tp ti _ ed hao,by rw [lv_atom];exact atom_der h.lt HJ1.out tn tp ti _ ed hao⟩
end
end Go.Proofs.YtdjaiolfdbamcaaGreatDoor
