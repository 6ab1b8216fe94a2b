/- Walks of the parser's takeUnit. -/
import Derived.Test.YtdjaiolfdbamcaaGreatDoorZWPar1
set_option maxRecDepth 20000
set_option maxHeartbeats 400000
namespace Go.Proofs.YtdjaiolfdbamcaaGreatDoor
open Go.RowKit
def TakerC (f:FuncId) (Y:List (List UInt8)) (n:Nat):Prop :=
 ∀ (w:World) (b gt cap tb:Nat) (ts:List Hx.Tok) (j d o:Nat) (cs:Array Value) (T:TypeId),PIs w b gt cap tb ts j->w.heap[d]? = some (.cells cs T (0,0))->o<cs.size->d≠b->d≠gt->ts.length-j<=n ->
  Calls Tryz.prog f #[.pointer (some ⟨b,0,none⟩),.pointer (some ⟨d,o,none⟩)] w fun e w'=>∃ ok j' v,e=.returned (.bool ok)/\GuardR Y w b gt cap tb ts j d o cs T ok j' v w'
theorem kp_unit {w w1 w2:World} {b:Nat} {o1 o2:Obj} (hb:Below w.heap.size w w1) (h:Kp (fun k=>k=b) ((w1.alloc o1).alloc o2) w2):Kp (fun k=>k=b) w w2 :=
 (((Kp.ofBelow (F:=fun k=>k=b) hb).alloc o1).alloc o2).trans h (fun _ e=>.inl e)
theorem kp_unit2 {w w2 w3:World} {b A:Nat} (h:Kp (fun k=>k=b) w w2) (h3:Kp (fun k=>k=b\/k=A) w2 w3) (hA:w.heap.size<=A):Kp (fun k=>k=b) w w3 :=
 h.trans h3 (fun _ e=>e.elim (fun e=>.inl e) (fun e=>.inr (by omega)))
theorem kp_or {w w':World} {b d:Nat} (h:Kp (fun k=>k=b) w w'):Kp (fun k=>k=b\/k=d) w w':=h.mono (fun _ _ e=>.inl e)
theorem two_boxes {w1 w2:World} {b:Nat} {c1 c2:Array Value} {T1 T2:TypeId} (hb:b<w1.heap.size) (h:Kp (fun k=>k=b) ((w1.alloc (.cells c1 T1)).alloc (.cells c2 T2)) w2) :
  w2.heap[w1.heap.size]? = some (.cells c1 T1 (0,0))/\w2.heap[w1.heap.size+1]? = some (.cells c2 T2 (0,0))/\w1.heap.size+2<=w2.heap.size:=by
 have hz:=h.size;simp at hz;refine ⟨(h.block w1.heap.size (by simp;omega) (by omega)).trans ?_,(h.block (w1.heap.size+1) (by simp) (by omega)).trans ?_,hz⟩
 ·exact (((Below.refl (w1.heap.size+1) (w1.alloc (.cells c1 T1))).alloc (by simp) (.cells c2 T2)).block w1.heap.size (by omega)).trans (heap_alloc_new w1 _)
 ·have:=heap_alloc_new (w1.alloc (.cells c1 T1)) (.cells c2 T2)
  simpa using this
section
variable {ts:List Hx.Tok} {j j' ln:Nat}
theorem unit_not_b (hj:j<ts.length) (hm:isMark ts[j] Hx.ynot=true) (hg:Hx.Good ts[j]):Hx.becomesP Hx.YUNIT ts[j]=some [Hx.ynot,Hx.YUNIT]:=by
 rw [Hx.mark_word hg _ (by decide)] at hm;show some (if Hx.isW ts[j] Hx.ynot then _ else _)=_;rw [if_pos hm]
theorem unit_not_ok (hj:j<ts.length) (hm:isMark ts[j] Hx.ynot=true) (hg:Hx.Good ts[j]) (h:Hx.Ok [Hx.YUNIT] (ts.drop (j+1)) (ts.drop j')):Hx.Ok [Hx.YUNIT] (ts.drop j) (ts.drop j'):=by
 rw [drop_at hj];exact Hx.Ok.becomes (unit_not_b hj hm hg) ((Hx.mark_ok hg _ (.inl (by decide)) _ hm).cons h)
theorem unit_not_bad (hj:j<ts.length) (hm:isMark ts[j] Hx.ynot=true) (hg:Hx.Good ts[j]) (h:Hx.Bad [Hx.YUNIT] (ts.drop (j+1)) ln):Hx.Bad [Hx.YUNIT] (ts.drop j) ln:=by
 rw [drop_at hj];exact Hx.Bad.becomes (unit_not_b hj hm hg) ((Hx.mark_ok hg _ (.inl (by decide)) _ hm).consBad h)
theorem word_gs (y:List UInt8) (hy:y∈Hx.wSkip) (hw:y≠Hx.ywas) (hj:j<ts.length) (hm:isMark ts[j] y=true) (hg:Hx.Good ts[j]):Hx.GS (ts.drop j) (ts.drop (j+1)) (fun _ s=>s):=by
 have hall:∀ a∈Hx.wSkip,a∈Hx.wWords:=by decide
 rw [Hx.mark_word hg _ (hall y hy)] at hm;have hm':ts[j].k=119/\ts[j].s.data.toList=y:=by simpa [Hx.isW] using hm
 rw [drop_at hj];exact Hx.GS.skip hm'.1 (by rw [hm'.2];simpa using hy) (by rw [Hx.isW,hm'.2];simp [hw])
theorem unit_par_b (hj:j<ts.length) (h1:isMark ts[j] Hx.ynot=false) (hm:isMark ts[j] Hx.yLp=true) (hg:Hx.Good ts[j]):Hx.becomesP Hx.YUNIT ts[j]=some [Hx.yLp,Hx.YGUARD,Hx.yRp]:=by
 rw [Hx.mark_word hg _ (by decide)] at h1;rw [Hx.mark_sign hg _ (by decide)] at hm;show some (if Hx.isW ts[j] Hx.ynot then _ else if Hx.isS ts[j] Hx.yLp then _ else _)=_;rw [if_neg (by simp [h1]),if_pos hm]
theorem unit_true_b (hj:j<ts.length) (h1:isMark ts[j] Hx.ynot=false) (h2:isMark ts[j] Hx.yLp=false) (hm:isMark ts[j] Hx.ytrue=true) (hg:Hx.Good ts[j]):Hx.becomesP Hx.YUNIT ts[j]=some [Hx.ytrue]:=by
 rw [Hx.mark_word hg _ (by decide)] at h1 hm;rw [Hx.mark_sign hg _ (by decide)] at h2;show some (if Hx.isW ts[j] Hx.ynot then _ else if Hx.isS ts[j] Hx.yLp then _ else if Hx.isW ts[j] Hx.ytrue then _ else _)=_;rw [if_neg (by simp [h1]),if_neg (by simp [h2]),if_pos hm]
theorem unit_atom_b (hj:j<ts.length) (h1:isMark ts[j] Hx.ynot=false) (h2:isMark ts[j] Hx.yLp=false) (h3:isMark ts[j] Hx.ytrue=false) (hg:Hx.Good ts[j]):Hx.becomesP Hx.YUNIT ts[j]=some (atomY ts[j]):=by
 rw [atomY,Hx.mark_word hg Hx.ywas (by decide)];rw [Hx.mark_word hg _ (by decide)] at h1 h3;rw [Hx.mark_sign hg _ (by decide)] at h2;show some (if Hx.isW ts[j] Hx.ynot then _ else if Hx.isS ts[j] Hx.yLp then _ else if Hx.isW ts[j] Hx.ytrue then _ else if Hx.isW ts[j] Hx.ywas then _ else _)=_;rw [if_neg (by simp [h1]),if_neg (by simp [h2]),if_neg (by simp [h3])]
theorem par_bad1 (hj:j<ts.length) (h1:isMark ts[j] Hx.ynot=false) (hm:isMark ts[j] Hx.yLp=true) (hg:Hx.Good ts[j]) (h:Hx.Bad [Hx.YGUARD] (ts.drop (j+1)) ln):Hx.Bad [Hx.YUNIT] (ts.drop j) ln:=by
 have hb:=unit_par_b hj h1 hm hg;rw [drop_at hj];exact Hx.Bad.becomes hb ((Hx.mark_ok hg _ (.inr (by decide)) _ hm).consBad h.cons)
theorem par_bad2 (hj:j<ts.length) (h1:isMark ts[j] Hx.ynot=false) (hm:isMark ts[j] Hx.yLp=true) (hg:Hx.Good ts[j]) (hj':j'<ts.length) (h:Hx.Ok [Hx.YGUARD] (ts.drop (j+1)) (ts.drop j')) (hg':Hx.Good ts[j']) (hr:isMark ts[j'] Hx.yRp=false):Hx.Bad [Hx.YUNIT] (ts.drop j) ts[j'].line:=by
 have hb:=unit_par_b hj h1 hm hg;rw [drop_at hj']  at h;rw [drop_at hj];exact Hx.Bad.becomes hb ((Hx.mark_ok hg _ (.inr (by decide)) _ hm).consBad (h.consBad (Hx.mark_bad hg' _ (.inr (by decide)) _ hr)))
theorem par_ok (hj:j<ts.length) (h1:isMark ts[j] Hx.ynot=false) (hm:isMark ts[j] Hx.yLp=true) (hg:Hx.Good ts[j]) (hj':j'<ts.length) (h:Hx.Ok [Hx.YGUARD] (ts.drop (j+1)) (ts.drop j')) (hg':Hx.Good ts[j']) (hr:isMark ts[j'] Hx.yRp=true):Hx.Ok [Hx.YUNIT] (ts.drop j) (ts.drop (j'+1)):=by
 have hb:=unit_par_b hj h1 hm hg;rw [drop_at hj'] at h;rw [drop_at hj];exact Hx.Ok.becomes hb ((Hx.mark_ok hg _ (.inr (by decide)) _ hm).cons (h.cons (Hx.mark_ok hg' _ (.inr (by decide)) _ hr)))
theorem not_der {g:Hx.G} {l':List Hx.Tok} (hj:j<ts.length) (hm:isMark ts[j] Hx.ynot=true) (h:Hx.Der (Hx.lvOf [Hx.YUNIT]) (ts.drop (j+1)) g l'):Hx.Der (Hx.lvOf [Hx.YUNIT]) (ts.drop j) (.not g) l':=by
 rw [Hx.lv_unit] at h |-;rw [drop_at hj];exact .not hm h
theorem tru_der (hj:j<ts.length) (hm:isMark ts[j] Hx.ytrue=true):Hx.Der (Hx.lvOf [Hx.YUNIT]) (ts.drop j) .tru (ts.drop (j+1)):=by
 rw [Hx.lv_unit,drop_at hj];exact .tru hm
theorem par_der {g:Hx.G} (hj:j<ts.length) (hm:isMark ts[j] Hx.yLp=true) (hj':j'<ts.length) (h:Hx.Der (Hx.lvOf [Hx.YGUARD]) (ts.drop (j+1)) g (ts.drop j')) (hr:isMark ts[j'] Hx.yRp=true):Hx.Der (Hx.lvOf [Hx.YUNIT]) (ts.drop j) (.group ts[j] g) (ts.drop (j'+1)):=by
 rw [Hx.lv_guard,drop_at hj'] at h;rw [Hx.lv_unit,drop_at hj];exact .group hm h hr
theorem par_gs {f:Int->Hx.St->Hx.St} (hj:j<ts.length) (hm:isMark ts[j] Hx.yLp=true) (hg:Hx.Good ts[j]) (hj':j'<ts.length) (h:Hx.GS (ts.drop (j+1)) (ts.drop j') f) (hg':Hx.Good ts[j']) (hr:isMark ts[j'] Hx.yRp=true) :
  Hx.GS (ts.drop j) (ts.drop (j'+1)) (fun d s=>f (d+1) (s.wrong (d == 6) 1 ts[j].line)):=by
 rw [Hx.mark_sign hg _ (by decide)] at hm;rw [Hx.mark_sign hg' _ (by decide)] at hr;rw [drop_at hj'] at h;rw [drop_at hj];exact Hx.GS.group hm hr h
end
theorem cells4 {w:World} {A:Nat} {T:TypeId} {v0 v1 v2 v3:Value} (h:w.heap[A]? = some (.cells #[v0,v1,v2,v3] T (0,0))) :
  w.cell? ⟨A,0,none⟩=some v0/\w.cell? ⟨A,1,none⟩=some v1/\w.cell? ⟨A,2,none⟩=some v2/\w.cell? ⟨A,3,none⟩=some v3 :=
 ⟨Lib.cell_of_heap h 0,Lib.cell_of_heap h 1,Lib.cell_of_heap h 2,Lib.cell_of_heap h 3⟩
theorem unit_step (n:Nat) (IHu:TakerC 270 [Hx.YUNIT] n) (IHg:TakerC 247 [Hx.YGUARD] n):TakerC 270 [Hx.YUNIT] (n+1):=by
 intro w b gt cap tb ts j d o cs T h hd ho h1 h2 hn;have HU:=hide IHu;have HGU:=hide IHg;have HP:=hide h;have HD:=hide hd;have hdl:d<w.heap.size:=(Array.getElem?_eq_some_iff.1 hd).1;have hbl:=h.own;have hgl:=h.lies;have hjl:=h.lt;have hgood:Hid (Hx.Good (ts[j]'h.lt)):=hide (h.ok.good _ (List.getElem_mem _));clear hd IHu IHg;go_enter Tryz.func270,Tryz.ntmps270;go_wp2_with fail;refine (next_any w b gt cap tb ts j HP.out).mono ?_;rintro e w1 ⟨rfl,hb1⟩;rw [aggA_eq];obtain ⟨t,ht⟩ : ∃ t,t=ts[j]'h.lt:=⟨_,rfl⟩;have HT:=hide ht;rw [<- ht];have HB1:=hide hb1;have HP1:=hide (h.below hb1);clear ht hb1;have hs1:w.heap.size<=w1.heap.size:=HB1.out.size;have hne1:w1.heap.size+1≠b:=by omega
 have hne2:w1.heap.size+1≠gt:=by omega
 have HPA:∀ o o',Hid (PIs ((w1.alloc o).alloc o') b gt cap tb ts j):=fun o o'=>hide (HP1.out.below (((Below.refl _ _).alloc (Nat.le_refl _) o).alloc (by simp) o'))
 go_wp2_with fail;refine (skip_mark Hx.ynot _ b gt cap tb ts j _ rfl (HPA _ _).out).mono ?_;rintro e w2 ⟨rfl,hp2,hk2⟩;obtain ⟨hA1,hA2,hs2⟩:=two_boxes (by omega) hk2;have HA1:=hide hA1;have HA2:=hide hA2;have HKB2:=hide (kp_unit HB1.out hk2);clear hA1 hA2 hk2
 cases hnot:isMark (ts[j]'h.lt) Hx.ynot with
 | true =>
  rw [hnot] at hp2;have hp2':PIs w2 b gt cap tb ts (j+1):=hp2;have HP2:=hide hp2';have HN:=hide hnot;clear hp2 hp2' hnot;go_wp2_with fail;refine (HU.out w2 b gt cap tb ts (j+1) (w1.heap.size+1) 0 _ _ HP2.out HA2.out (by simp) hne1 hne2 (by omega)).mono ?_;rintro e w3 ⟨ok,j',v,rfl,hR⟩;have hx:w3.heap[w1.heap.size+1]? = some (.cells #[v] 230 (0,0)):=hR.box;have x0:w3.cell? ⟨w1.heap.size+1,0,none⟩=some v:=Lib.cell_of_heap hx 0;have HKB3:=hide (kp_unit2 HKB2.out hR.kept (by omega));have hd3:=(HKB3.out.block d hdl h1).trans HD.out;have HD3:=hide hd3;have xd:w3.cell? ⟨d,o,none⟩=some cs[o]:=by rw [Lib.cell_of_heap hd3 o];simp
  have gd:w3.frozen? ⟨d,o,none⟩=false:=Lib.frozen_of_heap hd3 _;have HR:=hide hR;have hif:=hR.isIf;clear hx hd3 hR
  have fin:Hid (∃ ok' j'' v',Ending.returned (.bool ok)=.returned (.bool ok')/\GuardR [Hx.YUNIT] w b gt cap tb ts j d o cs T ok' j'' v' (w3.setCell ⟨d,o,none⟩ (.iface 303 (.agg #[v])))):=hide (by
   refine ⟨ok,j',_,rfl,HR.out.par.set h1 h2,(kp_or HKB3.out).setCell (p:=⟨d,o,none⟩) (.inl (.inr rfl)) _,set_heap HD3.out,.inr ⟨_,_,rfl⟩,fun e=>?_,fun e=>?_⟩
   ·obtain ⟨g,hg,hj,hok,hgs⟩:=HR.out.good e
    exact ⟨.not g,by rw [hg];rfl,by simp only [Hx.G.deep];omega,unit_not_ok h.lt HN.out hgood.out hok,⟨(word_gs Hx.ynot (by decide) (by decide) h.lt HN.out hgood.out).trans hgs.gs,not_der h.lt HN.out hgs.der⟩⟩
   ·exact unit_not_bad h.lt HN.out hgood.out (HR.out.bad e))
  rcases hif with rfl | ⟨T',x,rfl⟩
  all_goals
   go_wp2_with fail;go_ret;exact fin.out
 | false =>
  rw [hnot] at hp2;have hp2':PIs w2 b gt cap tb ts j:=hp2;have HP2:=hide hp2';have HN:=hide hnot;clear hp2 hp2' hnot;go_wp2_with fail;refine (skip_mark Hx.yLp w2 b gt cap tb ts j _ rfl HP2.out).mono ?_;rintro e w3 ⟨rfl,hp3,hk3⟩;have hA1:=(hk3.block w1.heap.size (by omega) (by omega)).trans HA1.out;have hA2:=(hk3.block (w1.heap.size+1) (by omega) (by omega)).trans HA2.out;have hs3:=hk3.size;have HA3:=hide hA1;have HA4:=hide hA2;have HKB3:=hide (HKB2.out.trans hk3 (fun _ e=>.inl e));clear hA1 hA2 hk3 HA1 HA2
  cases hpar:isMark (ts[j]'h.lt) Hx.yLp with
  | true =>
   rw [hpar] at hp3;have hp3':PIs w3 b gt cap tb ts (j+1):=hp3;have HP3:=hide hp3';have HL:=hide hpar;clear hp3 hp3' hpar;go_wp2_with fail;refine (HGU.out w3 b gt cap tb ts (j+1) (w1.heap.size+1) 0 _ _ HP3.out HA4.out (by simp) hne1 hne2 (by omega)).mono ?_;rintro e w4 ⟨ok,j',v,rfl,hR⟩;have hx:w4.heap[w1.heap.size+1]? = some (.cells #[v] 230 (0,0)):=hR.box;have hx1:=(hR.kept.block w1.heap.size (by omega) (by omega)).trans HA3.out;have HKB4:=hide (kp_unit2 HKB3.out hR.kept (by omega));have HR:=hide hR;have hif:=hR.isIf;have HX:=hide hx;have HX1:=hide hx1;have hs4:=hR.kept.size;clear hx hx1 hR
   cases ok with
   | false =>
    have x0:w4.cell? ⟨w1.heap.size+1,0,none⟩=some v:=Lib.cell_of_heap HX.out 0;obtain ⟨y0,y1,y2,y3⟩:=cells4 HX1.out;have hd3:=(HKB4.out.block d hdl h1).trans HD.out;have HD3:=hide hd3;have xd:w4.cell? ⟨d,o,none⟩=some cs[o]:=by rw [Lib.cell_of_heap hd3 o];simp
    have gd:w4.frozen? ⟨d,o,none⟩=false:=Lib.frozen_of_heap hd3 _;clear hd3
    have fin:Hid (∃ ok' j'' v',Ending.returned (.bool false)=.returned (.bool ok')/\GuardR [Hx.YUNIT] w b gt cap tb ts j d o cs T ok' j'' v' (w4.setCell ⟨d,o,none⟩ (.iface 305 (.agg #[.int .i64 (kindA t.k),.string t.s,.int .i64 t.n,.int .i64 t.line,v])))):=hide (by
     refine ⟨false,j',_,rfl,HR.out.par.set h1 h2,(kp_or HKB4.out).setCell (p:=⟨d,o,none⟩) (.inl (.inr rfl)) _,set_heap HD3.out,.inr ⟨_,_,rfl⟩,(fun e=>by cases e),fun e=>?_⟩
     exact par_bad1 h.lt HN.out HL.out hgood.out (HR.out.bad rfl))
    rcases hif with rfl | ⟨T',x,rfl⟩
    all_goals
     go_wp2_with fail;go_ret;exact fin.out
   | true =>
    go_wp2_with fail;refine (skip_mark Hx.yRp w4 b gt cap tb ts j' _ rfl HR.out.par).mono ?_;rintro e w5 ⟨rfl,hp5,hk5⟩;have HP5:=hide hp5;have hx:=(hk5.block (w1.heap.size+1) (by omega) (by omega)).trans HX.out;have hx1:=(hk5.block w1.heap.size (by omega) (by omega)).trans HX1.out;have x0:w5.cell? ⟨w1.heap.size+1,0,none⟩=some v:=Lib.cell_of_heap hx 0;obtain ⟨y0,y1,y2,y3⟩:=cells4 hx1;have HKB5:=hide (HKB4.out.trans hk5 (fun _ e=>.inl e));clear hp5 hk5 hx hx1;have hd3:=(HKB5.out.block d hdl h1).trans HD.out;have HD3:=hide hd3;have xd:w5.cell? ⟨d,o,none⟩=some cs[o]:=by rw [Lib.cell_of_heap hd3 o];simp
    have gd:w5.frozen? ⟨d,o,none⟩=false:=Lib.frozen_of_heap hd3 _;clear hd3;have hgood':Hid (Hx.Good (ts[j']'HR.out.par.lt)):=hide (h.ok.good _ (List.getElem_mem _));generalize hrp:isMark (ts[j']'HR.out.par.lt) Hx.yRp=ok2 at HP5 |-;have HRP:=hide hrp;clear hrp
    have fin:Hid (∃ ok' j'' v',Ending.returned (.bool ok2)=.returned (.bool ok')/\GuardR [Hx.YUNIT] w b gt cap tb ts j d o cs T ok' j'' v' (w5.setCell ⟨d,o,none⟩ (.iface 305 (.agg #[.int .i64 (kindA t.k),.string t.s,.int .i64 t.n,.int .i64 t.line,v])))):=hide (by
     obtain ⟨g,hg,hj,hok,hgs⟩:=HR.out.good rfl;refine ⟨ok2,_,_,rfl,HP5.out.set h1 h2,(kp_or HKB5.out).setCell (p:=⟨d,o,none⟩) (.inl (.inr rfl)) _,set_heap HD3.out,.inr ⟨_,_,rfl⟩,fun e=>?_,fun e=>?_⟩
     ·subst e
      refine ⟨.group (ts[j]'h.lt) g,by rw [hg,HT.out];rfl,?_,?_,?_⟩
      ·rw [if_pos rfl];simp only [Hx.G.deep];omega
      ·exact par_ok h.lt HN.out HL.out hgood.out HR.out.par.lt hok hgood'.out HRP.out
      ·exact ⟨par_gs h.lt HL.out hgood.out HR.out.par.lt hgs.gs hgood'.out HRP.out,par_der h.lt HL.out HR.out.par.lt hgs.der HRP.out⟩
     ·subst e
      exact par_bad2 h.lt HN.out HL.out hgood.out HR.out.par.lt hok hgood'.out HRP.out)
    rcases hif with rfl | ⟨T',x,rfl⟩
    all_goals
     go_wp2_with fail;go_ret;exact fin.out
  | false =>
   rw [hpar] at hp3;have hp3':PIs w3 b gt cap tb ts j:=hp3;have HP3:=hide hp3';have HL:=hide hpar;clear hp3 hp3' hpar;go_wp2_with fail;refine (skip_mark Hx.ytrue w3 b gt cap tb ts j _ rfl HP3.out).mono ?_;rintro e w4 ⟨rfl,hp4,hk4⟩;have HKB4:=hide (HKB3.out.trans hk4 (fun _ e=>.inl e));clear hk4
   cases htr:isMark (ts[j]'h.lt) Hx.ytrue with
   | true =>
    rw [htr] at hp4;have hp4':PIs w4 b gt cap tb ts (j+1):=hp4;have HP4:=hide hp4';have HTR:=hide htr;clear hp4 hp4' htr;have hd3:=(HKB4.out.block d hdl h1).trans HD.out;have HD3:=hide hd3;have xd:w4.cell? ⟨d,o,none⟩=some cs[o]:=by rw [Lib.cell_of_heap hd3 o];simp
    have gd:w4.frozen? ⟨d,o,none⟩=false:=Lib.frozen_of_heap hd3 _;clear hd3
    have fin:Hid (∃ ok' j'' v',Ending.returned (.bool true)=.returned (.bool ok')/\GuardR [Hx.YUNIT] w b gt cap tb ts j d o cs T ok' j'' v' (w4.setCell ⟨d,o,none⟩ (.iface 370 (.agg #[])))):=hide (by
     refine ⟨true,j+1,_,rfl,HP4.out.set h1 h2,(kp_or HKB4.out).setCell (p:=⟨d,o,none⟩) (.inl (.inr rfl)) _,set_heap HD3.out,.inr ⟨_,_,rfl⟩,fun e=>⟨.tru,rfl,by simp only [Hx.G.deep];omega,?_,?_⟩,(fun e=>by cases e)⟩
     ·have hb:=unit_true_b h.lt HN.out HL.out HTR.out hgood.out
      rw [drop_at h.lt];exact Hx.Ok.becomes hb (Hx.mark_ok hgood.out _ (.inl (by decide)) _ HTR.out)
     ·exact ⟨word_gs Hx.ytrue (by decide) (by decide) h.lt HTR.out hgood.out,tru_der h.lt HTR.out⟩)
    go_wp2_with fail;go_ret;exact fin.out
   | false =>
    rw [htr] at hp4;have hp4':PIs w4 b gt cap tb ts j:=hp4;have HP4:=hide hp4';have HTR:=hide htr;clear hp4 hp4' htr;go_wp2_with fail;refine (takeAtom_any w4 b gt cap tb ts j d o cs T HP4.out ((HKB4.out.block d hdl h1).trans HD.out) ho h1 h2).mono ?_;rintro e w5 ⟨ok,j',v,rfl,hR⟩;have HR:=hide hR;clear hR;go_wp2_with fail;go_ret;have hb:=unit_atom_b h.lt HN.out HL.out HTR.out hgood.out;refine ⟨ok,j',v,rfl,HR.out.par,(kp_or HKB4.out).trans HR.out.kept (fun _ e=>.inl e),HR.out.box,HR.out.isIf,fun e=>?_,fun e=>?_⟩
    ·obtain ⟨g,hg,hj,hok,hgs⟩:=HR.out.good e
     refine ⟨g,hg,hj,?_,hgs.gs,by have:=hgs.der;rw [lv_atom] at this;rw [Hx.lv_unit];exact this⟩;rw [drop_at h.lt] at hok |-;exact Hx.Ok.becomes hb hok
    ·have:=HR.out.bad e
     rw [drop_at h.lt] at this |-;exact Hx.Bad.becomes hb this
end Go.Proofs.YtdjaiolfdbamcaaGreatDoor
