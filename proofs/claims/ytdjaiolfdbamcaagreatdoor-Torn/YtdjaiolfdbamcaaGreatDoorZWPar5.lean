/- Walks of the parser's takeConj and takeGuard. -/
import Derived.Test.YtdjaiolfdbamcaaGreatDoorZWPar4
import Derived.Test.YtdjaiolfdbamcaaGreatDoorZPar
import Derived.Deep.LoopGhost
set_option maxRecDepth 20000
set_option maxHeartbeats 400000
namespace Go.Proofs.YtdjaiolfdbamcaaGreatDoor
section
open Go.RowKit
section
variable {ts:List Hx.Tok} {j j' ln:Nat}
theorem conj_end (hj:j<ts.length) (hm:isMark ts[j] Hx.yand=false) (hg:Hx.Good ts[j]):Hx.Ok [Hx.YANDS] (ts.drop j) (ts.drop j):=by
 rw [Hx.mark_word hg _ (by decide)] at hm;have hb:Hx.becomesP Hx.YANDS ts[j]=some []:=by
  show some (if Hx.isW ts[j] Hx.yand then _ else _)=_;rw [if_neg (by simp [hm])]
 rw [drop_at hj];exact Hx.Ok.becomes hb (Hx.Ok.nil _)
theorem conj_more (hj:j<ts.length) (hm:isMark ts[j] Hx.yand=true) (hg:Hx.Good ts[j]):Hx.becomesP Hx.YANDS ts[j]=some [Hx.yand,Hx.YUNIT,Hx.YANDS]:=by
 rw [Hx.mark_word hg _ (by decide)] at hm;show some (if Hx.isW ts[j] Hx.yand then _ else _)=_;rw [if_pos hm]
theorem conj_ok {l':List Hx.Tok} (hj:j<ts.length) (hm:isMark ts[j] Hx.yand=true) (hg:Hx.Good ts[j]) (h:Hx.Ok [Hx.YUNIT] (ts.drop (j+1)) (ts.drop j')) (k:Hx.Ok [Hx.YANDS] (ts.drop j') l'):Hx.Ok [Hx.YANDS] (ts.drop j) l':=by
 have hb:=conj_more hj hm hg;rw [drop_at hj];exact Hx.Ok.becomes hb ((Hx.mark_ok hg _ (.inl (by decide)) _ hm).cons (h.cons k))
theorem conj_bad1 (hj:j<ts.length) (hm:isMark ts[j] Hx.yand=true) (hg:Hx.Good ts[j]) (h:Hx.Bad [Hx.YUNIT] (ts.drop (j+1)) ln):Hx.Bad [Hx.YANDS] (ts.drop j) ln:=by
 have hb:=conj_more hj hm hg;rw [drop_at hj];exact Hx.Bad.becomes hb ((Hx.mark_ok hg _ (.inl (by decide)) _ hm).consBad h.cons)
theorem conj_bad2 (hj:j<ts.length) (hm:isMark ts[j] Hx.yand=true) (hg:Hx.Good ts[j]) (h:Hx.Ok [Hx.YUNIT] (ts.drop (j+1)) (ts.drop j')) (k:Hx.Bad [Hx.YANDS] (ts.drop j') ln):Hx.Bad [Hx.YANDS] (ts.drop j) ln:=by
 have hb:=conj_more hj hm hg;rw [drop_at hj];exact Hx.Bad.becomes hb ((Hx.mark_ok hg _ (.inl (by decide)) _ hm).consBad (h.consBad k))
theorem guard_end (hj:j<ts.length) (hm:isMark ts[j] Hx.yor=false) (hg:Hx.Good ts[j]):Hx.Ok [Hx.YORS] (ts.drop j) (ts.drop j):=by
 rw [Hx.mark_word hg _ (by decide)] at hm;have hb:Hx.becomesP Hx.YORS ts[j]=some []:=by
  show some (if Hx.isW ts[j] Hx.yor then _ else _)=_;rw [if_neg (by simp [hm])]
 rw [drop_at hj];exact Hx.Ok.becomes hb (Hx.Ok.nil _)
theorem guard_more (hj:j<ts.length) (hm:isMark ts[j] Hx.yor=true) (hg:Hx.Good ts[j]):Hx.becomesP Hx.YORS ts[j]=some [Hx.yor,Hx.YCONJ,Hx.YORS]:=by
 rw [Hx.mark_word hg _ (by decide)] at hm;show some (if Hx.isW ts[j] Hx.yor then _ else _)=_;rw [if_pos hm]
theorem guard_ok {l':List Hx.Tok} (hj:j<ts.length) (hm:isMark ts[j] Hx.yor=true) (hg:Hx.Good ts[j]) (h:Hx.Ok [Hx.YCONJ] (ts.drop (j+1)) (ts.drop j')) (k:Hx.Ok [Hx.YORS] (ts.drop j') l'):Hx.Ok [Hx.YORS] (ts.drop j) l':=by
 have hb:=guard_more hj hm hg;rw [drop_at hj];exact Hx.Ok.becomes hb ((Hx.mark_ok hg _ (.inl (by decide)) _ hm).cons (h.cons k))
theorem guard_bad1 (hj:j<ts.length) (hm:isMark ts[j] Hx.yor=true) (hg:Hx.Good ts[j]) (h:Hx.Bad [Hx.YCONJ] (ts.drop (j+1)) ln):Hx.Bad [Hx.YORS] (ts.drop j) ln:=by
 have hb:=guard_more hj hm hg;rw [drop_at hj];exact Hx.Bad.becomes hb ((Hx.mark_ok hg _ (.inl (by decide)) _ hm).consBad h.cons)
theorem guard_bad2 (hj:j<ts.length) (hm:isMark ts[j] Hx.yor=true) (hg:Hx.Good ts[j]) (h:Hx.Ok [Hx.YCONJ] (ts.drop (j+1)) (ts.drop j')) (k:Hx.Bad [Hx.YORS] (ts.drop j') ln):Hx.Bad [Hx.YORS] (ts.drop j) ln:=by
 have hb:=guard_more hj hm hg;rw [drop_at hj];exact Hx.Bad.becomes hb ((Hx.mark_ok hg _ (.inl (by decide)) _ hm).consBad (h.consBad k))
theorem conj_der {l:List Hx.Tok} {g:Hx.G} (hj:j<ts.length) (hm:isMark ts[j] Hx.yand=false) (h:Hx.Der 1 l g (ts.drop j)):Hx.Der (Hx.lvOf [Hx.YCONJ]) l g (ts.drop j):=by
 rw [Hx.lv_conj];rw [drop_at hj] at h |-;exact .c2 h hm
theorem and_der {l l':List Hx.Tok} {g h':Hx.G} (hj:j<ts.length) (hm:isMark ts[j] Hx.yand=true) (h:Hx.Der 1 l g (ts.drop j)) (k:Hx.Der (Hx.lvOf [Hx.YUNIT]) (ts.drop (j+1)) h' l'):Hx.Der 1 l (.and g h') l':=by
 rw [Hx.lv_unit] at k;rw [drop_at hj] at h;exact .c1 h hm k
theorem guard_der {l:List Hx.Tok} {g:Hx.G} (hj:j<ts.length) (hm:isMark ts[j] Hx.yor=false) (h:Hx.Der 3 l g (ts.drop j)):Hx.Der (Hx.lvOf [Hx.YGUARD]) l g (ts.drop j):=by
 rw [Hx.lv_guard];rw [drop_at hj] at h |-;exact .g2 h hm
theorem or_der {l l':List Hx.Tok} {g h':Hx.G} (hj:j<ts.length) (hm:isMark ts[j] Hx.yor=true) (h:Hx.Der 3 l g (ts.drop j)) (k:Hx.Der (Hx.lvOf [Hx.YCONJ]) (ts.drop (j+1)) h' l'):Hx.Der 3 l (.or g h') l':=by
 rw [Hx.lv_conj] at k;rw [drop_at hj] at h;exact .g1 h hm k
end
structure ConjInv (w:World) (b gt cap tb:Nat) (ts:List Hx.Tok) (j d o:Nat) (cs:Array Value) (T:TypeId) (k jj:Nat) (g:Hx.G) (wr:World):Prop where
 par:PIs wr b gt cap tb ts jj
 kept:Kp (fun k=>k=b\/k=d) w wr
 box:wr.heap[d]? = some (.cells (cs.setIfInBounds o (gval g)) T (0,0))
 lt:j+g.deep<jj
 left:ts.length-jj<k
 ok:∀ l',Hx.Ok [Hx.YANDS] (ts.drop jj) l'->Hx.Ok [Hx.YCONJ] (ts.drop j) l'
 bad:∀ ln,Hx.Bad [Hx.YANDS] (ts.drop jj) ln->Hx.Bad [Hx.YCONJ] (ts.drop j) ln
 gs:Hx.GS (ts.drop j) (ts.drop jj) g.sen
 der:Hx.Der 1 (ts.drop j) g (ts.drop jj)
theorem conj_of (n:Nat) (IH:TakerC 270 [Hx.YUNIT] n):TakerC 262 [Hx.YCONJ] n:=by
 intro w b gt cap tb ts j d o cs T h hd ho h1 h2 hn;have HU:=hide IH;have HP:=hide h;have HD:=hide hd;have hdl:d<w.heap.size:=(Array.getElem?_eq_some_iff.1 hd).1;have hbl:=h.own;have hgl:=h.lies;have hjl:=h.lt;have hgood:∀ i (hi:i<ts.length),Hid (Hx.Good ts[i]):=fun i hi=>hide (h.ok.good _ (List.getElem_mem hi))
 have hbo:Hx.becomesP Hx.YCONJ (ts[j]'h.lt)=some [Hx.YUNIT,Hx.YANDS]:=rfl;have HBO:=hide hbo;clear hd IH hbo;go_enter Tryz.func262,Tryz.ntmps262;go_wp2_with fail;refine (HU.out w b gt cap tb ts j d o cs T HP.out HD.out ho h1 h2 hn).mono ?_;rintro e w1 ⟨ok,j1,v,rfl,hR⟩;have HR:=hide hR;clear hR
 cases ok with
 | false =>
  go_wp2_with fail;go_ret;refine ⟨false,j1,v,rfl,HR.out.par,HR.out.kept,HR.out.box,HR.out.isIf,(fun e=>by cases e),fun _=>?_⟩;have hb:=HR.out.bad rfl;rw [drop_at h.lt] at hb |-;exact Hx.Bad.becomes HBO.out hb.cons
 | true =>
  have H0:Hid (∃ jj g,ConjInv w b gt cap tb ts j d o cs T 3002 jj g w1):=hide (by
   obtain ⟨g,rfl,hj,hok,hgs⟩:=HR.out.good rfl;refine ⟨j1,g,HR.out.par,HR.out.kept,HR.out.box,hj,by have:=h.ok.few;omega,fun l' k=>?_,fun ln k=>?_,hgs.gs,.c0 (by have:=hgs.der;rw [Hx.lv_unit] at this;exact this)⟩
   ·rw [drop_at h.lt] at hok |-;exact Hx.Ok.becomes HBO.out (hok.cons k)
   ·rw [drop_at h.lt] at hok |-;exact Hx.Bad.becomes HBO.out (hok.consBad k))
  clear HR;go_wp2_with fail
  go_loopg [] 3002 (fun k wr=>∃ jj g,ConjInv w b gt cap tb ts j d o cs T k jj g wr)
  case atStart=>exact H0.out
  case round =>
   obtain ⟨jj,g,hI⟩:=hrel;clear H0;have HI:=hide hI;clear hI;have hwr:w.heap.size<=wr.heap.size:=HI.out.kept.size;have hjj:=HI.out.lt;have hjjl:=HI.out.par.lt;have hlf:=HI.out.left;go_wp2_with fail;refine (skip_mark Hx.yand wr b gt cap tb ts jj _ rfl HI.out.par).mono ?_;rintro e w2 ⟨rfl,hp2,hk2⟩;have HK2:=hide (HI.out.kept.trans hk2 (fun _ e=>.inl (.inl e)));have HB2:=hide ((hk2.block d (by omega) h1).trans HI.out.box);have hs2:=hk2.size;clear hk2
   cases hm:isMark (ts[jj]'HI.out.par.lt) Hx.yand with
   | false =>
    rw [hm] at hp2;have HM:=hide hm;have HP2:=hide hp2;clear hp2 hm;go_wp2_with fail;go_ret;refine ⟨true,jj,gval g,rfl,HP2.out,HK2.out,HB2.out,gval_if g,fun _=>⟨g,rfl,hjj,?_,HI.out.gs,conj_der HI.out.par.lt HM.out HI.out.der⟩,(fun e=>by cases e)⟩;exact HI.out.ok _ (conj_end HI.out.par.lt HM.out (hgood _ _).out)
   | true =>
    rw [hm] at hp2;have hp2':PIs w2 b gt cap tb ts (jj+1):=hp2;have HM:=hide hm;have HP2:=hide hp2';clear hp2 hp2' hm;have hne1:w2.heap.size≠b:=by omega
    have hne2:w2.heap.size≠gt:=by omega
    go_wp2_with fail;refine (HU.out _ b gt cap tb ts (jj+1) w2.heap.size 0 _ _ (HP2.out.below ((Below.refl _ _).alloc (Nat.le_refl _) _)) (heap_alloc_new _ _) (by simp) hne1 hne2 (by omega)).mono ?_;rintro e w3 ⟨ok,j3,v,rfl,hR⟩;have hK3:Kp (fun k=>k=b\/k=d) w w3:=(HK2.out.alloc _).trans hR.kept (fun _ e=>e.elim (fun e=>.inl (.inl e)) (fun e=>.inr (by omega)));have hd3:w3.heap[d]? = some (.cells (cs.setIfInBounds o (gval g)) T (0,0)):=(hR.kept.block d (by simp;omega) (by omega)).trans ((((Below.refl w2.heap.size w2).alloc (Nat.le_refl _) _).block d (by omega)).trans HB2.out);have HR:=hide hR;have HK3:=hide hK3;have HD3:=hide hd3;clear hR hK3 hd3
    cases ok with
    | false =>
     go_wp2_with fail;go_ret;refine ⟨false,j3,gval g,rfl,HR.out.par,HK3.out,HD3.out,gval_if g,(fun e=>by cases e),fun _=>?_⟩;exact HI.out.bad _ (conj_bad1 HI.out.par.lt HM.out (hgood _ _).out (HR.out.bad rfl))
    | true =>
     have hx:w3.heap[w2.heap.size]? = some (.cells #[v] 230 (0,0)):=HR.out.box;have x0:w3.cell? ⟨w2.heap.size,0,none⟩=some v:=Lib.cell_of_heap hx 0;have hnd:d≠w2.heap.size:=by omega
     obtain ⟨vg,hvg⟩ : ∃ vg,vg=gval g:=⟨_,rfl⟩;have hvif:IsIf vg:=hvg ▸ gval_if g
     have xd:w3.cell? ⟨d,o,none⟩=some vg:=by rw [Lib.cell_of_heap HD3.out o,hvg];simp [ho]
     have gd:w3.frozen? ⟨d,o,none⟩=false:=Lib.frozen_of_heap HD3.out _;have HVG:=hide hvg;have hif:=HR.out.isIf;clear hx hvg
     have fin:Hid (∃ jj' g',ConjInv w b gt cap tb ts j d o cs T (ts.length-jj) jj' g' (w3.drew.setCell ⟨d,o,none⟩ (.iface 301 (.agg #[vg,v])))):=hide (by
      obtain ⟨gr,hgr,hj,hok,hgs⟩:=HR.out.good rfl;refine ⟨j3,.and g gr,?_,?_,?_,by simp only [Hx.G.deep];omega,?_,fun l' k=>?_,fun ln k=>?_,?_,?_⟩
      ·exact (HR.out.par.kp (F:=fun _=>False) ((Kp.refl _ _).drew) id id).set h1 h2
      ·exact HK3.out.drew.setCell (p:=⟨d,o,none⟩) (.inl (.inr rfl)) _
      ·have hd4:w3.drew.heap[d]? = some (.cells (cs.setIfInBounds o (gval g)) T (0,0)):=HD3.out
       rw [set_heap hd4,hgr,HVG.out];simp [gval]
      ·have:=HR.out.par.lt;omega
      ·exact HI.out.ok _ (conj_ok HI.out.par.lt HM.out (hgood _ _).out hok k)
      ·exact HI.out.bad _ (conj_bad2 HI.out.par.lt HM.out (hgood _ _).out hok k)
      ·exact HI.out.gs.trans ((word_gs Hx.yand (by decide) (by decide) HI.out.par.lt HM.out (hgood _ _).out).trans hgs.gs)
      ·exact and_der HI.out.par.lt HM.out HI.out.der hgs.der)
     rcases hif with rfl | ⟨T',x,rfl⟩ <;> rcases hvif with rfl | ⟨T2,x2,rfl⟩
     all_goals
      go_wp2_with fail
      go_region
      all_goals
       go_wp2_with fail
       go_roundg (ts.length-jj)
       case measure=>omega
       case rel=>exact fin.out
structure GuardInv (w:World) (b gt cap tb:Nat) (ts:List Hx.Tok) (j d o:Nat) (cs:Array Value) (T:TypeId) (k jj:Nat) (g:Hx.G) (wr:World):Prop where
 par:PIs wr b gt cap tb ts jj
 kept:Kp (fun k=>k=b\/k=d) w wr
 box:wr.heap[d]? = some (.cells (cs.setIfInBounds o (gval g)) T (0,0))
 lt:j+g.deep<jj
 left:ts.length-jj<k
 ok:∀ l',Hx.Ok [Hx.YORS] (ts.drop jj) l'->Hx.Ok [Hx.YGUARD] (ts.drop j) l'
 bad:∀ ln,Hx.Bad [Hx.YORS] (ts.drop jj) ln->Hx.Bad [Hx.YGUARD] (ts.drop j) ln
 gs:Hx.GS (ts.drop j) (ts.drop jj) g.sen
 der:Hx.Der 3 (ts.drop j) g (ts.drop jj)
theorem guard_of (n:Nat) (IH:TakerC 262 [Hx.YCONJ] n):TakerC 247 [Hx.YGUARD] n:=by
 intro w b gt cap tb ts j d o cs T h hd ho h1 h2 hn;have HU:=hide IH;have HP:=hide h;have HD:=hide hd;have hdl:d<w.heap.size:=(Array.getElem?_eq_some_iff.1 hd).1;have hbl:=h.own;have hgl:=h.lies;have hjl:=h.lt;have hgood:∀ i (hi:i<ts.length),Hid (Hx.Good ts[i]):=fun i hi=>hide (h.ok.good _ (List.getElem_mem hi))
 have hbo:Hx.becomesP Hx.YGUARD (ts[j]'h.lt)=some [Hx.YCONJ,Hx.YORS]:=rfl;have HBO:=hide hbo;clear hd IH hbo;go_enter Tryz.func247,Tryz.ntmps247;go_wp2_with fail;refine (HU.out w b gt cap tb ts j d o cs T HP.out HD.out ho h1 h2 hn).mono ?_;rintro e w1 ⟨ok,j1,v,rfl,hR⟩;have HR:=hide hR;clear hR
 cases ok with
 | false =>
  go_wp2_with fail;go_ret;refine ⟨false,j1,v,rfl,HR.out.par,HR.out.kept,HR.out.box,HR.out.isIf,(fun e=>by cases e),fun _=>?_⟩;have hb:=HR.out.bad rfl;rw [drop_at h.lt] at hb |-;exact Hx.Bad.becomes HBO.out hb.cons
 | true =>
  have H0:Hid (∃ jj g,GuardInv w b gt cap tb ts j d o cs T 3002 jj g w1):=hide (by
   obtain ⟨g,rfl,hj,hok,hgs⟩:=HR.out.good rfl;refine ⟨j1,g,HR.out.par,HR.out.kept,HR.out.box,hj,by have:=h.ok.few;omega,fun l' k=>?_,fun ln k=>?_,hgs.gs,.g0 (by have:=hgs.der;rw [Hx.lv_conj] at this;exact this)⟩
   ·rw [drop_at h.lt] at hok |-;exact Hx.Ok.becomes HBO.out (hok.cons k)
   ·rw [drop_at h.lt] at hok |-;exact Hx.Bad.becomes HBO.out (hok.consBad k))
  clear HR;go_wp2_with fail
  go_loopg [] 3002 (fun k wr=>∃ jj g,GuardInv w b gt cap tb ts j d o cs T k jj g wr)
  case atStart=>exact H0.out
  case round =>
   obtain ⟨jj,g,hI⟩:=hrel;clear H0;have HI:=hide hI;clear hI;have hwr:w.heap.size<=wr.heap.size:=HI.out.kept.size;have hjj:=HI.out.lt;have hjjl:=HI.out.par.lt;have hlf:=HI.out.left;go_wp2_with fail;refine (skip_mark Hx.yor wr b gt cap tb ts jj _ rfl HI.out.par).mono ?_;rintro e w2 ⟨rfl,hp2,hk2⟩;have HK2:=hide (HI.out.kept.trans hk2 (fun _ e=>.inl (.inl e)));have HB2:=hide ((hk2.block d (by omega) h1).trans HI.out.box);have hs2:=hk2.size;clear hk2
   cases hm:isMark (ts[jj]'HI.out.par.lt) Hx.yor with
   | false =>
    rw [hm] at hp2;have HM:=hide hm;have HP2:=hide hp2;clear hp2 hm;go_wp2_with fail;go_ret;refine ⟨true,jj,gval g,rfl,HP2.out,HK2.out,HB2.out,gval_if g,fun _=>⟨g,rfl,hjj,?_,HI.out.gs,guard_der HI.out.par.lt HM.out HI.out.der⟩,(fun e=>by cases e)⟩;exact HI.out.ok _ (guard_end HI.out.par.lt HM.out (hgood _ _).out)
   | true =>
    rw [hm] at hp2;have hp2':PIs w2 b gt cap tb ts (jj+1):=hp2;have HM:=hide hm;have HP2:=hide hp2';clear hp2 hp2' hm;have hne1:w2.heap.size≠b:=by omega
    have hne2:w2.heap.size≠gt:=by omega
    go_wp2_with fail;refine (HU.out _ b gt cap tb ts (jj+1) w2.heap.size 0 _ _ (HP2.out.below ((Below.refl _ _).alloc (Nat.le_refl _) _)) (heap_alloc_new _ _) (by simp) hne1 hne2 (by omega)).mono ?_;rintro e w3 ⟨ok,j3,v,rfl,hR⟩;have hK3:Kp (fun k=>k=b\/k=d) w w3:=(HK2.out.alloc _).trans hR.kept (fun _ e=>e.elim (fun e=>.inl (.inl e)) (fun e=>.inr (by omega)));have hd3:w3.heap[d]? = some (.cells (cs.setIfInBounds o (gval g)) T (0,0)):=(hR.kept.block d (by simp;omega) (by omega)).trans ((((Below.refl w2.heap.size w2).alloc (Nat.le_refl _) _).block d (by omega)).trans HB2.out);have HR:=hide hR;have HK3:=hide hK3;have HD3:=hide hd3;clear hR hK3 hd3
    cases ok with
    | false =>
     go_wp2_with fail;go_ret;refine ⟨false,j3,gval g,rfl,HR.out.par,HK3.out,HD3.out,gval_if g,(fun e=>by cases e),fun _=>?_⟩;exact HI.out.bad _ (guard_bad1 HI.out.par.lt HM.out (hgood _ _).out (HR.out.bad rfl))
    | true =>
     have hx:w3.heap[w2.heap.size]? = some (.cells #[v] 230 (0,0)):=HR.out.box;have x0:w3.cell? ⟨w2.heap.size,0,none⟩=some v:=Lib.cell_of_heap hx 0;have hnd:d≠w2.heap.size:=by omega
     obtain ⟨vg,hvg⟩ : ∃ vg,vg=gval g:=⟨_,rfl⟩;have hvif:IsIf vg:=hvg ▸ gval_if g
     have xd:w3.cell? ⟨d,o,none⟩=some vg:=by rw [Lib.cell_of_heap HD3.out o,hvg];simp [ho]
     have gd:w3.frozen? ⟨d,o,none⟩=false:=Lib.frozen_of_heap HD3.out _;have HVG:=hide hvg;have hif:=HR.out.isIf;clear hx hvg
     have fin:Hid (∃ jj' g',GuardInv w b gt cap tb ts j d o cs T (ts.length-jj) jj' g' (w3.drew.setCell ⟨d,o,none⟩ (.iface 300 (.agg #[vg,v])))):=hide (by
      obtain ⟨gr,hgr,hj,hok,hgs⟩:=HR.out.good rfl;refine ⟨j3,.or g gr,?_,?_,?_,by simp only [Hx.G.deep];omega,?_,fun l' k=>?_,fun ln k=>?_,?_,?_⟩
      ·exact (HR.out.par.kp (F:=fun _=>False) ((Kp.refl _ _).drew) id id).set h1 h2
      ·exact HK3.out.drew.setCell (p:=⟨d,o,none⟩) (.inl (.inr rfl)) _
      ·have hd4:w3.drew.heap[d]? = some (.cells (cs.setIfInBounds o (gval g)) T (0,0)):=HD3.out
       rw [set_heap hd4,hgr,HVG.out];simp [gval]
      ·have:=HR.out.par.lt;omega
      ·exact HI.out.ok _ (guard_ok HI.out.par.lt HM.out (hgood _ _).out hok k)
      ·exact HI.out.bad _ (guard_bad2 HI.out.par.lt HM.out (hgood _ _).out hok k)
      ·exact HI.out.gs.trans ((word_gs Hx.yor (by decide) (by decide) HI.out.par.lt HM.out (hgood _ _).out).trans hgs.gs)
      ·exact or_der HI.out.par.lt HM.out HI.out.der hgs.der)
     rcases hif with rfl | ⟨T',x,rfl⟩ <;> rcases hvif with rfl | ⟨T2,x2,rfl⟩
     all_goals
      go_wp2_with fail
      go_region
      all_goals
       go_wp2_with fail
       go_roundg (ts.length-jj)
       case measure=>omega
       case rel=>exact fin.out
theorem takers (n:Nat):TakerC 270 [Hx.YUNIT] n/\TakerC 247 [Hx.YGUARD] n:=by
 induction n with
 | zero=>exact ⟨fun w b gt cap tb ts j d o cs T h _ _ _ _ hn=>absurd h.lt (by omega),fun w b gt cap tb ts j d o cs T h _ _ _ _ hn=>absurd h.lt (by omega)⟩
 | succ n ih =>
  have hu:=unit_step n ih.1 ih.2;exact ⟨hu,guard_of _ (conj_of _ hu)⟩
theorem takeGuard_any:TakerC 247 [Hx.YGUARD] 3001:=(takers 3001).2
end
section
open Go.RowKit
def destC:Option Hx.Tok->List Value
 | none=>[.bool true,.int .i64 0,.string ⟨#[]⟩,.int .i64 0,.int .i64 0]
 | some t=>[.bool false,.int .i64 (kindA t.k),.string t.s,.int .i64 t.n,.int .i64 t.line]
def DestIs (ts:List Hx.Tok) (j j':Nat) (dest:Option Hx.Tok):Prop :=
 ∃ hj:j<ts.length,(isMark ts[j] Hx.ystay=true/\dest=none/\j'=j+1)\/(isMark ts[j] Hx.yto=true/\j'=j+2/\∃ h:j+1<ts.length,dest=some ts[j+1]/\ts[j+1].k=110)
section
variable {ts:List Hx.Tok} {j j' ln:Nat}
theorem does_stay (hj:j<ts.length) (hm:isMark ts[j] Hx.yto=false) (hg:Hx.Good ts[j]):Hx.becomesP Hx.YDOES ts[j]=some [Hx.ystay]:=by
 rw [Hx.mark_word hg _ (by decide)] at hm;show some (if Hx.isW ts[j] Hx.yto then _ else _)=_;rw [if_neg (by simp [hm])]
theorem does_to (hj:j<ts.length) (hm:isMark ts[j] Hx.yto=true) (hg:Hx.Good ts[j]):Hx.becomesP Hx.YDOES ts[j]=some [Hx.yto,Hx.YNAME]:=by
 rw [Hx.mark_word hg _ (by decide)] at hm;show some (if Hx.isW ts[j] Hx.yto then _ else _)=_;rw [if_pos hm]
theorem stay_not_to {t:Hx.Tok} (h:isMark t Hx.ystay=true):isMark t Hx.yto=false:=by
 unfold isMark at h |-;have:t.s.toList=Hx.ystay:=by simp at h;exact h.2
 rw [this];simp
end
theorem cells10 {w:World} {A:Nat} {T:TypeId} {v0 v1 v2 v3 v4 v5 v6 v7 v8 v9:Value} (h:w.heap[A]? = some (.cells #[v0,v1,v2,v3,v4,v5,v6,v7,v8,v9] T (0,0))) :
  w.cell? ⟨A,0,none⟩=some v0/\w.cell? ⟨A,1,none⟩=some v1/\w.cell? ⟨A,2,none⟩=some v2/\w.cell? ⟨A,3,none⟩=some v3/\w.cell? ⟨A,4,none⟩=some v4/\w.cell? ⟨A,5,none⟩=some v5/\w.cell? ⟨A,6,none⟩=some v6/\w.cell? ⟨A,7,none⟩=some v7/\w.cell? ⟨A,8,none⟩=some v8/\w.cell? ⟨A,9,none⟩=some v9 :=
 ⟨Lib.cell_of_heap h 0,Lib.cell_of_heap h 1,Lib.cell_of_heap h 2,Lib.cell_of_heap h 3,Lib.cell_of_heap h 4,Lib.cell_of_heap h 5,Lib.cell_of_heap h 6,Lib.cell_of_heap h 7,Lib.cell_of_heap h 8,Lib.cell_of_heap h 9⟩
structure TargetR (w:World) (b gt cap tb:Nat) (ts:List Hx.Tok) (j R:Nat) (c:List Value) (ok:Bool) (j':Nat) (w':World):Prop where
 par:PIs w' b gt cap tb ts j'
 kept:Kp (fun k=>k=b\/k=R) w w'
 good:ok=true->∃ dest,w'.heap[R]? = some (.cells (c++destC dest).toArray 232 (0,0))/\Hx.Ok [Hx.YDOES] (ts.drop j) (ts.drop j')/\DestIs ts j j' dest
 bad:ok=false->Hx.Bad [Hx.YDOES] (ts.drop j) (ts[j']'par.lt).line
theorem takeTarget_any (w:World) (b gt cap tb:Nat) (ts:List Hx.Tok) (j R:Nat) (a0 a1 a2 a3 a4:Value) (h:PIs w b gt cap tb ts j) (h1:R≠b) (h2:R≠gt)
  (hd:w.heap[R]? = some (.cells #[a0,a1,a2,a3,a4,.bool false,.int .i64 0,.string ⟨#[]⟩,.int .i64 0,.int .i64 0] 232 (0,0))) :
  Calls Tryz.prog 248 #[.pointer (some ⟨b,0,none⟩),.pointer (some ⟨R,0,none⟩)] w fun e w'=>∃ ok j',e=.returned (.bool ok)/\TargetR w b gt cap tb ts j R [a0,a1,a2,a3,a4] ok j' w':=by
 have HP:=hide h;have HD:=hide hd;have hdl:R<w.heap.size:=(Array.getElem?_eq_some_iff.1 hd).1;have hbl:=h.own;have hgl:=h.lies;have hjl:=h.lt;have hgood:∀ i (hi:i<ts.length),Hid (Hx.Good ts[i]):=fun i hi=>hide (h.ok.good _ (List.getElem_mem hi))
 clear hd;go_enter Tryz.func248,Tryz.ntmps248;go_wp2_with fail;refine (skip_mark Hx.ystay w b gt cap tb ts j _ rfl HP.out).mono ?_;rintro e w1 ⟨rfl,hp1,hk1⟩;have hd1:=(hk1.block R hdl h1).trans HD.out;have HD1:=hide hd1;have x5:w1.cell? ⟨R,5,none⟩=some (.bool false):=Lib.cell_of_heap hd1 5;have g5:w1.frozen? ⟨R,5,none⟩=false:=Lib.frozen_of_heap hd1 _;have HK1:=hide hk1;have hs1:=hk1.size;clear hd1 hk1
 cases hst:isMark (ts[j]'h.lt) Hx.ystay with
 | true =>
  rw [hst] at hp1;have hp1':PIs w1 b gt cap tb ts (j+1):=hp1;have HP1:=hide hp1';have HS:=hide hst;clear hp1 hp1' hst;go_wp2_with fail;go_ret;refine ⟨true,j+1,rfl,HP1.out.set h1 h2,(kp_or HK1.out).setCell (p:=⟨R,5,none⟩) (.inl (.inr rfl)) _,fun _=>⟨none,?_,?_,h.lt,.inl ⟨HS.out,rfl,rfl⟩⟩,(fun e=>by cases e)⟩
  ·rw [set_heap HD1.out];rfl
  ·have hb:=does_stay h.lt (stay_not_to HS.out) (hgood _ h.lt).out
   rw [drop_at h.lt];exact Hx.Ok.becomes hb (Hx.mark_ok (hgood _ h.lt).out _ (.inl (by decide)) _ HS.out)
 | false =>
  rw [hst] at hp1;have hp1':PIs w1 b gt cap tb ts j:=hp1;have HS:=hide hst;have HP1:=hide (hp1'.set (o:=5) (v:=.bool false) h1 h2);have HD2:=hide (set_heap (o:=5) (v:=.bool false) HD1.out);have HK2:=hide ((kp_or (d:=R) HK1.out).setCell (p:=⟨R,5,none⟩) (.inl (.inr rfl)) (.bool false));clear hp1 hp1' hst;go_wp2_with fail;refine (skip_mark Hx.yto _ b gt cap tb ts j _ rfl HP1.out).mono ?_;rintro e w2 ⟨rfl,hp2,hk2⟩;have hd2:w2.heap[R]? = some (.cells #[a0,a1,a2,a3,a4,.bool false,.int .i64 0,.string ⟨#[]⟩,.int .i64 0,.int .i64 0] 232 (0,0)):=(hk2.block R (by simp [World.setCell];omega) h1).trans HD2.out;have HD3:=hide hd2;have HK3:=hide (HK2.out.trans hk2 (fun _ e=>.inl (.inl e)));clear hd2 hk2
  cases hto:isMark (ts[j]'h.lt) Hx.yto with
  | false =>
   rw [hto] at hp2;have hp2':PIs w2 b gt cap tb ts j:=hp2;have HT:=hide hto;have HP2:=hide hp2';clear hp2 hp2' hto;go_wp2_with fail;go_ret;refine ⟨false,j,rfl,HP2.out,HK3.out,(fun e=>by cases e),fun _=>?_⟩;have hb:=does_stay h.lt HT.out (hgood _ h.lt).out;rw [drop_at h.lt];exact Hx.Bad.becomes hb (Hx.mark_bad (hgood _ h.lt).out _ (.inl (by decide)) _ HS.out)
  | true =>
   rw [hto] at hp2;have hp2':PIs w2 b gt cap tb ts (j+1):=hp2;have HT:=hide hto;have HP2:=hide hp2';clear hp2 hp2' hto;go_wp2_with fail;refine (ptake_any w2 b gt cap tb ts (j+1) R 6 _ _ 1 HP2.out HD3.out (by simp) h1 h2 (by decide)).mono ?_;intro e w3 hr;obtain rfl:=hr.ret;have HR:=hide hr;clear hr;go_wp2_with fail;go_ret;refine ⟨_,_,rfl,HR.out.par,HK3.out.trans HR.out.kept (fun _ e=>.inl e),fun e=>⟨some (ts[j+1]'HP2.out.lt),?_,?_,h.lt,.inr ⟨HT.out,?_,HP2.out.lt,rfl,Hx.kind_name (hgood _ HP2.out.lt).out e⟩⟩,fun e=>?_⟩
   ·have:=HR.out.box
    rw [e,if_pos rfl] at this;exact this
   ·have hb:=does_to h.lt HT.out (hgood _ h.lt).out
    rw [e,if_pos rfl,drop_at h.lt];refine Hx.Ok.becomes hb ((Hx.mark_ok (hgood _ h.lt).out _ (.inl (by decide)) _ HT.out).cons ?_);rw [drop_at HP2.out.lt];exact Hx.name_ok (hgood _ HP2.out.lt).out _ e
   ·rw [e,if_pos rfl]
   ·have hb:=does_to h.lt HT.out (hgood _ h.lt).out
    have hl:∀ k (hk:k<ts.length),k=j+1->Hx.Bad [Hx.YDOES] (ts.drop j) (ts[k]).line:=by
     rintro k hk rfl;rw [drop_at h.lt];refine Hx.Bad.becomes hb ((Hx.mark_ok (hgood _ h.lt).out _ (.inl (by decide)) _ HT.out).consBad ?_);rw [drop_at HP2.out.lt];exact Hx.name_bad (hgood _ HP2.out.lt).out _ e
    exact hl _ _ (by rw [e];rfl)
end
section
open Go.RowKit
def rowC (r:Hx.RowA):List Value:=[.int .i64 (kindA r.wh.k),.string r.wh.s,.int .i64 r.wh.n,.int .i64 r.wh.line,gval r.g]++destC r.dest
def rowZ:Array Value:=#[.int .i64 0,.string ⟨#[]⟩,.int .i64 0,.int .i64 0,.nilIface,.bool false,.int .i64 0,.string ⟨#[]⟩,.int .i64 0,.int .i64 0]
abbrev rowY:List (List UInt8):=[Hx.ywhen,Hx.YGUARD,Hx.YDOES,Hx.ySc]
structure RowR (w:World) (b gt cap tb:Nat) (ts:List Hx.Tok) (j R:Nat) (ok:Bool) (j':Nat) (w':World):Prop where
 par:PIs w' b gt cap tb ts j'
 kept:Kp (fun k=>k=b\/k=R) w w'
 good:ok=true->∃ r,w'.heap[R]? = some (.cells (rowC r).toArray 232 (0,0))/\j<j'/\Hx.Ok rowY (ts.drop j) (ts.drop j') /\
  Hx.RowD (ts.drop j) r (ts.drop j')/\∀ (inn dp:Int) (dear:Bool) (s:Hx.St),0<=inn/\inn<s.modes.length->Hx.SS (ts.drop j) inn dp dear s (ts.drop j') inn dp dear (s.row inn.toNat r)
 bad:ok=false->Hx.Bad rowY (ts.drop j) (ts[j']'par.lt).line
theorem row_ss {ts:List Hx.Tok} {j j2 j3:Nat} {g:Hx.G} {dest:Option Hx.Tok} (hok:Hx.TsOk ts) (hj:j<ts.length) (hw:isMark ts[j] Hx.ywhen=true) (hg:Hx.GS (ts.drop (j+1)) (ts.drop j2) g.sen) (hd:DestIs ts j2 j3 dest) (h3:j3<ts.length) (hdo:∀ a,dest=some a->a.s.toList≠[]) (hdp:g.deep<=3001) (inn dp:Int) (dear:Bool) (s:Hx.St)
  (hin:0<=inn/\inn<s.modes.length):Hx.SS (ts.drop j) inn dp dear s (ts.drop (j3+1)) inn dp dear (s.row inn.toNat ⟨ts[j],g,dest,hdo,hdp⟩):=by
 obtain ⟨h2,hd⟩:=hd;have gg:∀ i (hi:i<ts.length),Hx.Good ts[i]:=fun i hi=>hok.good _ (List.getElem_mem hi)
 rw [drop_at h2] at hg;rw [drop_at hj];rcases hd with ⟨hm,rfl,rfl⟩ | ⟨hm,rfl,h4,rfl,_⟩
 ·have:=Hx.word_of (gg _ h2) (by decide) hm
  exact Hx.SS.row (Hx.word_of (gg _ hj) (by decide) hw) hg hin hdo hdp (.inl ⟨this.1,this.2,rfl,drop_at h3⟩)
 ·have:=Hx.word_of (gg _ h2) (by decide) hm
  exact Hx.SS.row (Hx.word_of (gg _ hj) (by decide) hw) hg hin hdo hdp (.inr ⟨this.1,this.2,rfl,ts[j2+2],by rw [drop_at h4,drop_at h3]⟩)
theorem row_der {ts:List Hx.Tok} {j j2 j3:Nat} {g:Hx.G} {dest:Option Hx.Tok} (hj:j<ts.length) (hw:isMark ts[j] Hx.ywhen=true) (hg:Hx.Der 4 (ts.drop (j+1)) g (ts.drop j2)) (hd:DestIs ts j2 j3 dest) (h3:j3<ts.length) (hsc:isMark ts[j3] Hx.ySc=true) (hdo:∀ a,dest=some a->a.s.toList≠[]) (hdp:g.deep<=3001) :
  Hx.RowD (ts.drop j) ⟨ts[j],g,dest,hdo,hdp⟩ (ts.drop (j3+1)):=by
 refine ⟨_,_,drop_at hj,hw,hg,?_⟩;obtain ⟨h2,⟨hm,hd,rfl⟩ | ⟨hm,rfl,h4,hd,hk⟩⟩:=hd
 ·exact .inl ⟨ts[j2],ts[j2+1],by rw [drop_at h2,drop_at h3],hm,hsc,hd⟩
 ·exact .inr ⟨ts[j2],ts[j2+1],ts[j2+2],by rw [drop_at h2,drop_at h4,drop_at h3],hm,hk,hsc,hd⟩
theorem dest_txt {ts:List Hx.Tok} {j j':Nat} {dest:Option Hx.Tok} (hok:Hx.TsOk ts) (h:DestIs ts j j' dest):∀ a,dest=some a->a.s.toList≠[]:=by
 intro a ha;obtain ⟨_,⟨_,h,_⟩ | ⟨_,_,h1,h2,h3⟩⟩:=h
 ·rw [h] at ha;cases ha
 ·rw [h2] at ha;cases ha;exact (hok.txt _ (List.getElem_mem _)).1 h3
theorem dest_le {ts:List Hx.Tok} {j j':Nat} {dest:Option Hx.Tok} (h:DestIs ts j j' dest):j<j':=by
 obtain ⟨_,h | h⟩:=h <;> omega
theorem takeRow_any (w:World) (b gt cap tb:Nat) (ts:List Hx.Tok) (j R:Nat) (h:PIs w b gt cap tb ts j) (h1:R≠b) (h2:R≠gt) (hw:isMark (ts[j]'h.lt) Hx.ywhen=true)
  (hd:w.heap[R]? = some (.cells rowZ 232 (0,0))) :
  Calls Tryz.prog 223 #[.pointer (some ⟨b,0,none⟩),.pointer (some ⟨R,0,none⟩)] w fun e w'=>∃ ok j',e=.returned (.bool ok)/\RowR w b gt cap tb ts j R ok j' w':=by
 have HP:=hide h;have HD:=hide hd;have HW:=hide hw;have hdl:R<w.heap.size:=(Array.getElem?_eq_some_iff.1 hd).1;have hbl:=h.own;have hgl:=h.lies;have hjl:=h.lt;have hfew:=h.ok.few;have hgood:∀ i (hi:i<ts.length),Hid (Hx.Good ts[i]):=fun i hi=>hide (h.ok.good _ (List.getElem_mem hi))
 clear hd hw;go_enter Tryz.func223,Tryz.ntmps223;go_wp2_with fail;refine (next_any w b gt cap tb ts j HP.out).mono ?_;rintro e w1 ⟨rfl,hb1⟩;rw [aggA_eq];obtain ⟨t,ht⟩ : ∃ t,t=ts[j]'h.lt:=⟨_,rfl⟩;have HT:=hide ht;rw [<- ht];have hd1:=(hb1.block R hdl).trans HD.out;have HD1:=hide hd1;have HP1:=hide (h.below hb1);have HB1:=hide hb1;have x0:w1.cell? ⟨R,0,none⟩=some (.int .i64 0):=Lib.cell_of_heap hd1 0;have x1:w1.cell? ⟨R,1,none⟩=some (.string ⟨#[]⟩):=Lib.cell_of_heap hd1 1;have x2:w1.cell? ⟨R,2,none⟩=some (.int .i64 0):=Lib.cell_of_heap hd1 2;have x3:w1.cell? ⟨R,3,none⟩=some (.int .i64 0):=Lib.cell_of_heap hd1 3;have g0:w1.frozen? ⟨R,0,none⟩=false:=Lib.frozen_of_heap hd1 _;have g1:w1.frozen? ⟨R,1,none⟩=false:=Lib.frozen_of_heap hd1 _;have g2:w1.frozen? ⟨R,2,none⟩=false:=Lib.frozen_of_heap hd1 _;have g3:w1.frozen? ⟨R,3,none⟩=false:=Lib.frozen_of_heap hd1 _;clear ht hb1 hd1;go_wp2_with fail;have hd2:=set_heap (o:=3) (v:=.int .i64 t.line) (set_heap (o:=2) (v:=.int .i64 t.n) (set_heap (o:=1) (v:=.string t.s) (set_heap (o:=0) (v:=.int .i64 (kindA t.k)) HD1.out)));have hp2:=(((HP1.out.set (o:=0) (v:=.int .i64 (kindA t.k)) h1 h2).set (o:=1) (v:=.string t.s) h1 h2).set (o:=2) (v:=.int .i64 t.n) h1 h2).set (o:=3) (v:=.int .i64 t.line) h1 h2;have hk2:=((((Kp.ofBelow (F:=fun k=>k=b\/k=R) HB1.out).setCell (p:=⟨R,0,none⟩) (.inl (.inr rfl)) (.int .i64 (kindA t.k))).setCell (p:=⟨R,1,none⟩) (.inl (.inr rfl)) (.string t.s)).setCell (p:=⟨R,2,none⟩) (.inl (.inr rfl)) (.int .i64 t.n)).setCell (p:=⟨R,3,none⟩) (.inl (.inr rfl)) (.int .i64 t.line);generalize (((w1.setCell ⟨R,0,none⟩ (.int .i64 (kindA t.k))).setCell ⟨R,1,none⟩ (.string t.s)).setCell ⟨R,2,none⟩ (.int .i64 t.n)).setCell ⟨R,3,none⟩ (.int .i64 t.line)=w2 at *;have hd2':w2.heap[R]? = some (.cells #[.int .i64 (kindA t.k),.string t.s,.int .i64 t.n,.int .i64 t.line,.nilIface,.bool false,.int .i64 0,.string ⟨#[]⟩,.int .i64 0,.int .i64 0] 232 (0,0)):=hd2;have HD2:=hide hd2';have HP2:=hide hp2;have HK2:=hide hk2;have hs2:=hk2.size;clear hd2 hd2' hp2 hk2 x0 x1 x2 x3 g0 g1 g2 g3;refine (skip_mark Hx.ywhen w2 b gt cap tb ts j _ rfl HP2.out).mono ?_;rintro e w3 ⟨rfl,hp3,hk3⟩;rw [HW.out] at hp3 |-;have hp3':PIs w3 b gt cap tb ts (j+1):=hp3;have HP3:=hide hp3';have HD3:=hide ((hk3.block R (by omega) h1).trans HD2.out);have HK3:=hide (HK2.out.trans hk3 (fun _ e=>.inl (.inl e)));clear hp3 hp3' hk3;go_wp2_with fail;refine (takeGuard_any w3 b gt cap tb ts (j+1) R 4 _ _ HP3.out HD3.out (by simp) h1 h2 (by omega)).mono ?_;rintro e w4 ⟨ok,j4,v,rfl,hR⟩;have HR:=hide hR;have HK4:=hide (HK3.out.trans hR.kept (fun _ e=>.inl e));have hd4:w4.heap[R]? = some (.cells #[.int .i64 (kindA t.k),.string t.s,.int .i64 t.n,.int .i64 t.line,v,.bool false,.int .i64 0,.string ⟨#[]⟩,.int .i64 0,.int .i64 0] 232 (0,0)):=hR.box;have HD4:=hide hd4;clear hR hd4;have hbw:=fun ln (k:Hx.Bad [Hx.YGUARD,Hx.YDOES,Hx.ySc] (ts.drop (j+1)) ln)=>(by rw [drop_at h.lt];exact (Hx.mark_ok (hgood _ h.lt).out _ (.inl (by decide)) _ HW.out).consBad k:Hx.Bad rowY (ts.drop j) ln)
 have HBW:=hide hbw;clear hbw
 cases ok with
 | false =>
  go_wp2_with fail;go_ret;exact ⟨false,j4,rfl,HR.out.par,HK4.out,(fun e=>by cases e),fun _=>HBW.out _ (HR.out.bad rfl).cons⟩
 | true =>
  go_wp2_with fail;refine (takeTarget_any w4 b gt cap tb ts j4 R _ _ _ _ _ HR.out.par h1 h2 HD4.out).mono ?_;rintro e w5 ⟨ok,j5,rfl,hT⟩;have HTG:=hide hT;have HK5:=hide (HK4.out.trans hT.kept (fun _ e=>.inl e));clear hT
  cases ok with
  | false =>
   go_wp2_with fail;go_ret;refine ⟨false,j5,rfl,HTG.out.par,HK5.out,(fun e=>by cases e),fun _=>HBW.out _ ?_⟩;obtain ⟨g,hg,hj,hok,hgs⟩:=HR.out.good rfl;exact hok.consBad (HTG.out.bad rfl).cons
  | true =>
   go_wp2_with fail;refine (skip_mark Hx.ySc w5 b gt cap tb ts j5 _ rfl HTG.out.par).mono ?_;rintro e w6 ⟨rfl,hp6,hk6⟩;have HP6:=hide hp6;have HK6:=hide hk6;clear hp6 hk6;go_wp2_with fail;go_ret;obtain ⟨g,hg,hj,hok,hgs⟩:=HR.out.good rfl;obtain ⟨dest,hb,hok2,hdst⟩:=HTG.out.good rfl;have hlt5:=HTG.out.par.lt;have hds:=dest_le hdst;have hdo:=dest_txt h.ok hdst;have hdp:g.deep<=3001:=by have:=h.ok.few;have:=HTG.out.par.lt;have:=dest_le hdst;omega
   refine ⟨_,_,rfl,HP6.out,HK5.out.trans HK6.out (fun _ e=>.inl (.inl e)),fun e=>⟨⟨ts[j]'h.lt,g,dest,hdo,hdp⟩,?_,?_,?_,?_,fun inn dp dear s hin=>?_⟩,fun e=>?_⟩
   ·refine (HK6.out.block R (Array.getElem?_eq_some_iff.1 hb).1 h1).trans ?_
    rw [hb,hg,HT.out];rfl
   ·rw [e,if_pos rfl];omega
   ·rw [e,if_pos rfl,drop_at h.lt]
    refine (Hx.mark_ok (hgood _ h.lt).out _ (.inl (by decide)) _ HW.out).cons (hok.cons (hok2.cons ?_));rw [drop_at hlt5];exact Hx.mark_ok (hgood _ hlt5).out _ (.inr (by decide)) _ e
   ·rw [e,if_pos rfl]
    exact row_der h.lt HW.out (by have:=hgs.der;rw [Hx.lv_guard] at this;exact this) hdst hlt5 e hdo hdp
   ·rw [e,if_pos rfl]
    exact row_ss h.ok h.lt HW.out hgs.gs hdst hlt5 hdo hdp inn dp dear s hin
   ·have hl:∀ k (hk:k<ts.length),k=j5->Hx.Bad rowY (ts.drop j) (ts[k]).line:=by
     rintro k hk rfl;refine HBW.out _ (hok.consBad (hok2.consBad ?_));rw [drop_at hlt5];exact Hx.mark_bad (hgood _ hlt5).out _ (.inr (by decide)) _ e
    exact hl _ _ (by rw [e];rfl)
end
end Go.Proofs.YtdjaiolfdbamcaaGreatDoor
