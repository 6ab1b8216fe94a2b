/- Walks of the parser's takeVar. -/
import Derived.Test.YtdjaiolfdbamcaaGreatDoorZPTab
import Derived.Deep.CutRange
import Derived.Deep.RegionLaw
set_option maxRecDepth 20000
set_option maxHeartbeats 16000000
namespace Go.Proofs.YtdjaiolfdbamcaaGreatDoor
open Go.RowKit
theorem Tryz.infoVarA:(Tryz.prog.info? 166).map (fun i=>(i.zero,i.size,i.bytes))=some (some (.agg #[.int .i64 0,.string ⟨#[]⟩,.int .i64 0,.int .i64 0,.int .i64 0,.string ⟨#[]⟩,.int .i64 0,.int .i64 0,.int .i64 0,.string ⟨#[]⟩,.int .i64 0,.int .i64 0]),12,120):=by kernel_rfl
theorem cells12 {w:World} {A:Nat} {T:TypeId} {v0 v1 v2 v3 v4 v5 v6 v7 v8 v9 v10 v11:Value} (h:w.heap[A]? = some (.cells #[v0,v1,v2,v3,v4,v5,v6,v7,v8,v9,v10,v11] T (0,0))) :
  w.cell? ⟨A,0,none⟩=some v0/\w.cell? ⟨A,1,none⟩=some v1/\w.cell? ⟨A,2,none⟩=some v2/\w.cell? ⟨A,3,none⟩=some v3/\w.cell? ⟨A,4,none⟩=some v4/\w.cell? ⟨A,5,none⟩=some v5/\w.cell? ⟨A,6,none⟩=some v6/\w.cell? ⟨A,7,none⟩=some v7/\w.cell? ⟨A,8,none⟩=some v8/\w.cell? ⟨A,9,none⟩=some v9/\w.cell? ⟨A,10,none⟩=some v10/\w.cell? ⟨A,11,none⟩=some v11 :=
 ⟨Lib.cell_of_heap h 0,Lib.cell_of_heap h 1,Lib.cell_of_heap h 2,Lib.cell_of_heap h 3,Lib.cell_of_heap h 4,Lib.cell_of_heap h 5,Lib.cell_of_heap h 6,Lib.cell_of_heap h 7,Lib.cell_of_heap h 8,Lib.cell_of_heap h 9,Lib.cell_of_heap h 10,Lib.cell_of_heap h 11⟩
def noTok:Hx.Tok:=⟨101,⟨#[]⟩,0,0⟩
abbrev varY:List (List UInt8):=[Hx.yvar,Hx.YNAME,Hx.YINT,Hx.yDd,Hx.YINT,Hx.ySc]
structure VarCut (w:World) (b gt cap tb:Nat) (ts:List Hx.Tok) (j V:Nat) (ok:Bool) (j':Nat) (va:VarA) (wx:World):Prop where
 par:PIs wx b gt cap tb ts j'
 kept:Kp (fun k=>k=b) w wx
 box:wx.heap[V]? = some (.cells (varC va).toArray 166 (0,0))
 good:ok=true->j'=j+6/\Hx.Ok varY (ts.drop j) (ts.drop j')/\∃ x y r,ts.drop (j+1)=va.name::va.first::x::va.last::y::r/\r=ts.drop (j+6)
 bad:ok=false->Hx.Bad varY (ts.drop j) (ts[j']'par.lt).line
theorem takeVar_any (w:World) (b gt cap tb:Nat) (ts:List Hx.Tok) (j base:Nat) (vt vv vm:Value) (vs:List VarA) (gs:List MG) (F:Nat->Prop) (h:PIs w b gt cap tb ts j) (hv:isMark (ts[j]'h.lt) Hx.yvar=true)
  (hT:PT w base tb vt vs gs F vv vm) (hFb:¬ F b) (hFg:¬ F gt) (hvl:vs.length<=3001) :
  Calls Tryz.prog 154 #[.pointer (some ⟨b,0,none⟩)] w fun e w'=>∃ ok j' va vv',e=.returned (.bool ok)/\∃ wx,VarCut w b gt cap tb ts j w.heap.size ok j' va wx/\PIs w' b gt cap tb ts j'/\PT w' base tb vt (vs++[va]) gs (fresh F w) vv' vm/\Kp (fun k=>k=b\/F k) w w':=by
 have HP:=hide h;have HV:=hide hv;have HT:=hide hT;have hbl:=h.own;have hgl:=h.lies;have hjl:=h.lt;have hne1:w.heap.size≠b:=by omega
 have hne2:w.heap.size≠gt:=by omega
 have hgood:∀ i (hi:i<ts.length),Hid (Hx.Good ts[i]):=fun i hi=>hide (h.ok.good _ (List.getElem_mem hi))
 clear hv hT;go_enter Tryz.func154,Tryz.ntmps154;go_upto_region 2 with (fail)
 go_cut [4] from 5 to 29 (fun v4 wx=>∃ ok j' va,v4=.bool ok/\VarCut w b gt cap tb ts j w.heap.size ok j' va wx)
 case first =>
  have HPA:∀ o,Hid (PIs (w.alloc o) b gt cap tb ts j):=fun o=>hide (HP.out.below ((Below.refl _ _).alloc (Nat.le_refl _) o))
  go_wp2_with fail;refine (skip_mark Hx.yvar _ b gt cap tb ts j _ rfl (HPA _).out).mono ?_;rintro e w1 ⟨rfl,hp1,hk1⟩;rw [HV.out] at hp1 |-;have hp1':PIs w1 b gt cap tb ts (j+1):=hp1;have HP1:=hide hp1';have hx1:w1.heap[w.heap.size]? = some (.cells (varC ⟨noTok,noTok,noTok⟩).toArray 166 (0,0)):=(hk1.block w.heap.size (by simp) hne1).trans (heap_alloc_new w _);have HX1:=hide hx1;have HK1:Hid (Kp (fun k=>k=b) w w1):=hide (((Kp.refl _ w).alloc _).trans hk1 (fun _ e=>.inl e));have hok1:Hx.Ok [Hx.yvar] (ts.drop j) (ts.drop (j+1)):=by rw [drop_at h.lt];exact Hx.mark_ok (hgood _ h.lt).out _ (.inl (by decide)) _ HV.out
  have HO1:=hide hok1;clear hp1 hp1' hk1 hx1 hok1;go_wp2_with fail;refine (ptake_any w1 b gt cap tb ts (j+1) w.heap.size 0 _ _ 1 HP1.out HX1.out (by simp [varC,tokV]) hne1 hne2 (by decide)).mono ?_;intro e w2 hr;obtain rfl:=hr.ret;obtain ⟨a,ha⟩ : ∃ a,a=ts[j+1]'HP1.out.lt:=⟨_,rfl⟩;have HTa:=hide ha;rw [<- ha] at hr |-
  cases n1:(kindA a.k == 1) with
  | false =>
   rw [n1] at hr;have HR:=hide hr;have N1:=hide n1;clear hr n1 ha;go_wp2_with fail;go_meet
   case rel =>
    have hb:=HO1.out.bad (b:=[Hx.YNAME,Hx.YINT,Hx.yDd,Hx.YINT,Hx.ySc]) (by rw [drop_at HP1.out.lt,<- HTa.out];exact Hx.name_bad (by rw [HTa.out];exact (hgood _ HP1.out.lt).out) _ N1.out:Hx.Bad [Hx.YNAME] (ts.drop (j+1)) a.line).cons;rw [HTa.out] at hb;exact ⟨false,j+1,⟨noTok,noTok,noTok⟩,rfl,HR.out.par,HK1.out.trans HR.out.kept (fun _ e=>e.elim .inl (fun e=>.inr (by omega))),HR.out.box,(fun e=>by cases e),fun _=>hb⟩
  | true =>
   rw [n1] at hr;have hp':PIs w2 b gt cap tb ts (j+2):=hr.par;have hx':w2.heap[w.heap.size]? = some (.cells (varC ⟨a,noTok,noTok⟩).toArray 166 (0,0)):=hr.box;have HK2:Hid (Kp (fun k=>k=b) w w2):=hide (HK1.out.trans hr.kept (fun _ e=>e.elim .inl (fun e=>.inr (by omega))));have HO2:=hide (HO1.out.app (by rw [drop_at HP1.out.lt,<- HTa.out];exact Hx.name_ok (by rw [HTa.out];exact (hgood _ HP1.out.lt).out) _ n1:Hx.Ok [Hx.YNAME] (ts.drop (j+1)) (ts.drop (j+2))));have HP2:=hide hp';have HX2:=hide hx';clear hr hp' hx' n1 ha;go_wp2_with fail;refine (ptake_any w2 b gt cap tb ts (j+2) w.heap.size 4 _ _ 2 HP2.out HX2.out (by simp [varC,tokV]) hne1 hne2 (by decide)).mono ?_;intro e w3 hr;obtain rfl:=hr.ret;obtain ⟨c,hc⟩ : ∃ c,c=ts[j+2]'HP2.out.lt:=⟨_,rfl⟩;have HTc:=hide hc;rw [<- hc] at hr |-
   cases n2:(kindA c.k == 2) with
   | false =>
    rw [n2] at hr;have HR:=hide hr;have N2:=hide n2;clear hr n2 hc;go_wp2_with fail;go_meet
    case rel =>
     have hb:=HO2.out.bad (b:=[Hx.YINT,Hx.yDd,Hx.YINT,Hx.ySc]) (by rw [drop_at HP2.out.lt,<- HTc.out];exact Hx.int_bad (by rw [HTc.out];exact (hgood _ HP2.out.lt).out) _ N2.out:Hx.Bad [Hx.YINT] (ts.drop (j+2)) c.line).cons;rw [HTc.out] at hb;exact ⟨false,j+2,⟨a,noTok,noTok⟩,rfl,HR.out.par,HK2.out.trans HR.out.kept (fun _ e=>e.elim .inl (fun e=>.inr (by omega))),HR.out.box,(fun e=>by cases e),fun _=>hb⟩
   | true =>
    rw [n2] at hr;have hp':PIs w3 b gt cap tb ts (j+3):=hr.par;have hx':w3.heap[w.heap.size]? = some (.cells (varC ⟨a,c,noTok⟩).toArray 166 (0,0)):=hr.box;have HK3:Hid (Kp (fun k=>k=b) w w3):=hide (HK2.out.trans hr.kept (fun _ e=>e.elim .inl (fun e=>.inr (by omega))));have HO3:=hide (HO2.out.app (by rw [drop_at HP2.out.lt,<- HTc.out];exact Hx.int_ok (by rw [HTc.out];exact (hgood _ HP2.out.lt).out) _ n2:Hx.Ok [Hx.YINT] (ts.drop (j+2)) (ts.drop (j+3))));have HP3:=hide hp';have HX3:=hide hx';clear hr hp' hx' n2 hc;go_wp2_with fail;refine (skip_mark Hx.yDd w3 b gt cap tb ts (j+3) _ rfl HP3.out).mono ?_;rintro e w4 ⟨rfl,hp,hk⟩;obtain ⟨x,hx⟩ : ∃ x,x=ts[j+3]'HP3.out.lt:=⟨_,rfl⟩;have HTx:=hide hx;rw [<- hx] at hp |-
    cases n3:isMark x Hx.yDd with
    | false =>
     rw [n3] at hp;have HR:=hide hp;have HKK:=hide hk;have N3:=hide n3;clear hp hk n3 hx;go_wp2_with fail;go_meet
     case rel =>
      have hb:=HO3.out.bad (b:=[Hx.yDd,Hx.YINT,Hx.ySc]) (by rw [drop_at HP3.out.lt,<- HTx.out];exact Hx.mark_bad (by rw [HTx.out];exact (hgood _ HP3.out.lt).out) _ (.inr (by decide)) _ N3.out:Hx.Bad [Hx.yDd] (ts.drop (j+3)) x.line).cons;rw [HTx.out] at hb;exact ⟨false,j+3,⟨a,c,noTok⟩,rfl,HR.out,HK3.out.trans HKK.out (fun _ e=>.inl e),(HKK.out.block w.heap.size (Array.getElem?_eq_some_iff.1 HX3.out).1 hne1).trans HX3.out,(fun e=>by cases e),fun _=>hb⟩
    | true =>
     rw [n3] at hp;have hp':PIs w4 b gt cap tb ts (j+4):=hp;have hx':=(hk.block w.heap.size (Array.getElem?_eq_some_iff.1 HX3.out).1 hne1).trans HX3.out;have HK4:Hid (Kp (fun k=>k=b) w w4):=hide (HK3.out.trans hk (fun _ e=>.inl e));have HO4:=hide (HO3.out.app (by rw [drop_at HP3.out.lt,<- HTx.out];exact Hx.mark_ok (by rw [HTx.out];exact (hgood _ HP3.out.lt).out) _ (.inr (by decide)) _ n3:Hx.Ok [Hx.yDd] (ts.drop (j+3)) (ts.drop (j+4))));have HP4:=hide hp';have HX4:=hide hx';clear hp hk hp' hx' n3 hx;go_wp2_with fail;refine (ptake_any w4 b gt cap tb ts (j+4) w.heap.size 8 _ _ 2 HP4.out HX4.out (by simp [varC,tokV]) hne1 hne2 (by decide)).mono ?_;intro e w5 hr;obtain rfl:=hr.ret;obtain ⟨d,hd⟩ : ∃ d,d=ts[j+4]'HP4.out.lt:=⟨_,rfl⟩;have HTd:=hide hd;rw [<- hd] at hr |-
     cases n4:(kindA d.k == 2) with
     | false =>
      rw [n4] at hr;have HR:=hide hr;have N4:=hide n4;clear hr n4 hd;go_wp2_with fail;go_meet
      case rel =>
       have hb:=HO4.out.bad (b:=[Hx.YINT,Hx.ySc]) (by rw [drop_at HP4.out.lt,<- HTd.out];exact Hx.int_bad (by rw [HTd.out];exact (hgood _ HP4.out.lt).out) _ N4.out:Hx.Bad [Hx.YINT] (ts.drop (j+4)) d.line).cons;rw [HTd.out] at hb;exact ⟨false,j+4,⟨a,c,noTok⟩,rfl,HR.out.par,HK4.out.trans HR.out.kept (fun _ e=>e.elim .inl (fun e=>.inr (by omega))),HR.out.box,(fun e=>by cases e),fun _=>hb⟩
     | true =>
      rw [n4] at hr;have hp':PIs w5 b gt cap tb ts (j+5):=hr.par;have hx':w5.heap[w.heap.size]? = some (.cells (varC ⟨a,c,d⟩).toArray 166 (0,0)):=hr.box;have HK5:Hid (Kp (fun k=>k=b) w w5):=hide (HK4.out.trans hr.kept (fun _ e=>e.elim .inl (fun e=>.inr (by omega))));have HO5:=hide (HO4.out.app (by rw [drop_at HP4.out.lt,<- HTd.out];exact Hx.int_ok (by rw [HTd.out];exact (hgood _ HP4.out.lt).out) _ n4:Hx.Ok [Hx.YINT] (ts.drop (j+4)) (ts.drop (j+5))));have HP5:=hide hp';have HX5:=hide hx';clear hr hp' hx' n4 hd;go_wp2_with fail;refine (skip_mark Hx.ySc w5 b gt cap tb ts (j+5) _ rfl HP5.out).mono ?_;rintro e w6 ⟨rfl,hp,hk⟩;obtain ⟨y,hy⟩ : ∃ y,y=ts[j+5]'HP5.out.lt:=⟨_,rfl⟩;have HTy:=hide hy;rw [<- hy] at hp |-
      cases n5:isMark y Hx.ySc with
      | false =>
       rw [n5] at hp;have HR:=hide hp;have HKK:=hide hk;have N5:=hide n5;clear hp hk n5 hy;go_wp2_with fail;go_meet
       case rel =>
        have hb:=HO5.out.bad (b:=[Hx.ySc]) (by rw [drop_at HP5.out.lt,<- HTy.out];exact Hx.mark_bad (by rw [HTy.out];exact (hgood _ HP5.out.lt).out) _ (.inr (by decide)) _ N5.out:Hx.Bad [Hx.ySc] (ts.drop (j+5)) y.line);rw [HTy.out] at hb;exact ⟨false,j+5,⟨a,c,d⟩,rfl,HR.out,HK5.out.trans HKK.out (fun _ e=>.inl e),(HKK.out.block w.heap.size (Array.getElem?_eq_some_iff.1 HX5.out).1 hne1).trans HX5.out,(fun e=>by cases e),fun _=>hb⟩
      | true =>
       rw [n5] at hp;have hp':PIs w6 b gt cap tb ts (j+6):=hp;have hx':=(hk.block w.heap.size (Array.getElem?_eq_some_iff.1 HX5.out).1 hne1).trans HX5.out;have HK6:Hid (Kp (fun k=>k=b) w w6):=hide (HK5.out.trans hk (fun _ e=>.inl e));have HO6:=hide (HO5.out.app (by rw [drop_at HP5.out.lt,<- HTy.out];exact Hx.mark_ok (by rw [HTy.out];exact (hgood _ HP5.out.lt).out) _ (.inr (by decide)) _ n5:Hx.Ok [Hx.ySc] (ts.drop (j+5)) (ts.drop (j+6))));have HP6:=hide hp';have HX6:=hide hx';clear hp hk hp' hx' n5 hy;go_wp2_with fail;go_meet
       case rel =>
        refine ⟨true,j+6,⟨a,c,d⟩,rfl,HP6.out,HK6.out,HX6.out,fun _=>⟨rfl,HO6.out,x,y,_,?_,rfl⟩,(fun e=>by cases e)⟩;rw [drop_at HP1.out.lt,drop_at HP2.out.lt,drop_at HP3.out.lt,drop_at HP4.out.lt,drop_at HP5.out.lt,<- HTa.out,<- HTc.out,<- HTx.out,<- HTd.out,<- HTy.out]
 case rest =>
  obtain ⟨ok,j',va,rfl,hC⟩:=hcut;have HC:=hide hC;have hT2:PT wc base tb vt vs gs F vv vm:=HT.out.kept hC.kept (fun k hF e=>hFb (e ▸ hF));have HT2:=hide hT2;obtain ⟨x0,x1,x2,x3,x4,x5,x6,x7,x8,x9,x10,x11⟩:=cells12 (w:=wc) (A:=w.heap.size) hC.box;have p2:wc.cell? ⟨b,2,none⟩=some (.pointer (some ⟨tb,0,none⟩)):=Lib.cell_of_heap hC.par.box 2;have hO:=hT2.mem.own 1 _ rfl;simp only at hO;obtain ⟨av,cv,hvv,_,_⟩:=row_shape hO;obtain ⟨c0,c1,c2,cf,ctb,ctl,cF⟩:=hT2.cells;rw [hvv] at c1;have c1f:=cf 1;have HO:=hide hO;have hlow:=hT2.low;have hzz:=hC.kept.size;have hVl:w.heap.size<wc.heap.size:=(Array.getElem?_eq_some_iff.1 hC.box).1;have hbl2:=hC.par.own;clear hC hT2 hO cf c0 c2;obtain ⟨i0,hi0,hz0,hz1,hz2⟩:=info_parts Tryz.infoVarA;have H1C:Hid (∀ u∈varC va,u.oneCell'=true):=hide (by intro u hu;simp [varC,tokV] at hu;rcases hu with rfl | rfl | rfl | rfl | rfl | rfl | rfl | rfl | rfl | rfl | rfl | rfl <;> rfl);have HML:Hid (vs.length+1<=maxLen):=hide (by unfold maxLen;omega);have HBY:Hid ((vs.length+1)*120<=140737488355328):=hide (by omega);go_wp2_with fail
  go_region_law (refine step_append_own_at rfl _ _ 84 rfl base 166 i0 _ 12 120 Tryz.underlying84 hi0 hz0 hz1 hz2 rfl (by decide) _ vs.length (vs.flatMap varC) hvv.symm (by exact own_below HO.out ⟨rfl,rfl,rfl,by simp,fun k hk=>Below.heap_alloc _ _ _ hk⟩) ⟨_,0,none⟩ 1 1 (varC va) rfl rfl (news_new _ _ (by simp) (varC va) _) H1C.out HML.out HBY.out (by simp;omega) ?_;intro v' w7 hown' hgrow hat;obtain ⟨av7,cv7,rfl,_,_⟩:=row_shape hown';have p7:=hgrow.cell (a:=⟨b,2,none⟩) (by exact (((Below.refl _ _).alloc (Nat.le_refl _) _).cell hbl2).trans p2) (fun e=>hFb (HT2.out.inF b ⟨1,_,rfl,e.symm⟩));obtain ⟨hfin,hkp,e5,e6⟩:=PT.addVar (x:=va) (HT2.out.below (by exact ⟨rfl,rfl,rfl,by simp,fun k hk=>Below.heap_alloc _ _ _ hk⟩)) hgrow hown' hat;rw [hvv] at e5;have HFIN:=hide hfin;have HKP:=hide hkp;clear hfin hkp hown' hgrow hat)
  all_goals
   have hB2:=HC.out.kept.size;have hbel:Below wc.heap.size wc (wc.drew.alloc (.cells (varC va).toArray 166)):=⟨rfl,rfl,rfl,by simp,fun k hk=>Below.heap_alloc _ _ _ hk⟩;have hPI:=(HC.out.par.below hbel).kp HKP.out hFb hFg;have hKK:=((HC.out.kept.mono (G:=fun k=>k=b\/F k) (fun _ _ e=>.inl e)).below hbel).trans HKP.out (fun _ h=>.inl (.inr h));have hPT:=HFIN.out.mono (G:=fresh F w) (fun k h=>h.elim .inl (fun h=>.inr (by have:(wc.drew.alloc (.cells (varC va).toArray 166)).heap.size<=k:=h;simp at this;omega)));have HE:=hide (And.intro hPI (And.intro hPT hKK));clear hPI hKK hPT HFIN HKP e5 e6 hbel;go_wp2_with fail;go_ret;exact ⟨ok,j',va,_,rfl,wc,HC.out,HE.out⟩
end Go.Proofs.YtdjaiolfdbamcaaGreatDoor
