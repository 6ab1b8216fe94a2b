/- Walks of the parser's takeMode. -/
import Derived.Test.YtdjaiolfdbamcaaGreatDoorZPTab4
import Derived.Deep.CutRange
import Derived.Deep.RegionLaw
set_option maxRecDepth 20000
set_option maxHeartbeats 4000000
namespace Go.Proofs.YtdjaiolfdbamcaaGreatDoor
open Go.RowKit
def outerOf:Option Nat->Int
 | none => -1
 | some a=>a
def blkOf (gs:List MG) (ai:Option Nat):Option Nat:=ai.bind fun a=>(gs[a]?).map (·.blk)
def depOf (gs:List MG):Option Nat->Nat
 | none=>0
 | some a=>((gs[a]?).map fun g=>g.a.depth+1).getD 0
structure ModeR (w:World) (b gt cap tb:Nat) (ts:List Hx.Tok) (j base:Nat) (vt vv:Value) (vs:List VarA) (gs:List MG) (F:Nat->Prop) (ai:Option Nat) (dflt:Bool) (ok:Bool) (j':Nat) (gs':List MG) (vm':Value) (w':World):Prop where
 par:PIs w' b gt cap tb ts j'
 tab:PT w' base tb vt vs gs' (fresh F w) vv vm'
 kept:Kp (fun k=>k=b\/F k) w w'
 good:ok=true->∃ ext,Grow gs gs' ext/\j<j'/\gs'.length<=j'/\Hx.Ok [Hx.YMODE] (ts.drop j) (ts.drop j')/\Hx.MD false (ts.drop j) (outerOf ai) dflt (depOf gs ai) gs.length ext (ts.drop j') /\
  ∀ s:Hx.St,s.modes.length=gs.length->Hx.SS (ts.drop j) (outerOf ai) (depOf gs ai) dflt s (ts.drop j') (outerOf ai) (depOf gs ai) false (s.modesS ext)
 bad:ok=false->Hx.Bad [Hx.YMODE] (ts.drop j) (ts[j']'par.lt).line
structure ModesR (w:World) (b gt cap tb:Nat) (ts:List Hx.Tok) (j base:Nat) (vt vv:Value) (vs:List VarA) (gs:List MG) (F:Nat->Prop) (i:Nat) (hi:i<gs.length) (ok:Bool) (j':Nat) (gs':List MG) (vm':Value) (w':World):Prop where
 par:PIs w' b gt cap tb ts j'
 tab:PT w' base tb vt vs gs' (fresh F w) vv vm'
 kept:Kp (fun k=>k=b\/F k) w w'
 good:ok=true->∃ ext,Grow gs gs' ext/\j<=j'/\gs'.length<=j'/\(∀ l',Hx.Ok [Hx.yRb] (ts.drop j') l'->Hx.Ok [Hx.YMODES] (ts.drop j) l')/\(∀ ln,Hx.Bad [Hx.yRb] (ts.drop j') ln->Hx.Bad [Hx.YMODES] (ts.drop j) ln)/\Hx.MD true (ts.drop j) i false (gs[i].a.depth+1) gs.length ext (ts.drop j') /\
  ∀ s:Hx.St,s.modes.length=gs.length->Hx.SS (ts.drop j) i (gs[i].a.depth+1:Nat) false s (ts.drop j') i (gs[i].a.depth+1:Nat) false (s.modesS ext)
 bad:ok=false->Hx.Bad [Hx.YMODES] (ts.drop j) (ts[j']'par.lt).line
def ModeC (n:Nat):Prop:=∀ (w:World) (b gt cap tb:Nat) (ts:List Hx.Tok) (j base:Nat) (vt vv vm:Value) (vs:List VarA) (gs:List MG) (F:Nat->Prop) (ai:Option Nat) (dflt:Bool),
 PIs w b gt cap tb ts j->PT w base tb vt vs gs F vv vm->Links gs->¬ F b->¬ F gt->(∀ a,ai=some a->a<gs.length)->gs.length<=j->ts.length-j<=n ->
 Calls Tryz.prog 155 #[.pointer (some ⟨b,0,none⟩),arV (blkOf gs ai),.bool dflt] w fun e w'=>∃ ok j' gs' vm',e=.returned (.bool ok)/\ModeR w b gt cap tb ts j base vt vv vs gs F ai dflt ok j' gs' vm' w'
def ModesC (n:Nat):Prop:=∀ (w:World) (b gt cap tb:Nat) (ts:List Hx.Tok) (j base:Nat) (vt vv vm:Value) (vs:List VarA) (gs:List MG) (F:Nat->Prop) (i:Nat) (hi:i<gs.length),
 PIs w b gt cap tb ts j->PT w base tb vt vs gs F vv vm->Links gs->¬ F b->¬ F gt->gs.length<=j->ts.length-j<=n ->
 Calls Tryz.prog 199 #[.pointer (some ⟨b,0,none⟩),.pointer (some ⟨gs[i].blk,0,none⟩)] w fun e w'=>∃ ok j' gs' vm',e=.returned (.bool ok)/\ModesR w b gt cap tb ts j base vt vv vs gs F i hi ok j' gs' vm' w'
structure Cut5 (w:World) (b gt cap tb:Nat) (ts:List Hx.Tok) (j base:Nat) (vt vv vm:Value) (vs:List VarA) (gs:List MG) (F:Nat->Prop) (ai:Option Nat) (dflt:Bool) (gs1:List MG) (F1:Nat->Prop) (wx:World):Prop where
 par:PIs wx b gt cap tb ts j
 tab:PT wx base tb vt vs gs1 F1 vv vm
 notB:¬ F1 w.heap.size
 sub:∀ k,F1 k->fresh F w k
 kept:Kp (tight F w) w wx
 box:wx.heap[w.heap.size]? = some (.cells (newMode dflt (depOf gs ai) (outerOf ai) w.heap.size (blkOf gs ai)).box.toArray 171 (0,0))
 a:gs1.map (·.a)=gs.map (·.a)
 blk:∀ (i:Nat) (m:MG),gs[i]? = some m->∃ m':MG,gs1[i]? = some m'/\m'.blk=m.blk
 links:Links (gs1++[newMode dflt (depOf gs ai) (outerOf ai) w.heap.size (blkOf gs ai)])
structure Cut6 (w:World) (b gt cap tb:Nat) (ts:List Hx.Tok) (j base:Nat) (vt vv:Value) (vs:List VarA) (gs:List MG) (F:Nat->Prop) (ai:Option Nat) (dflt:Bool) (gs1:List MG) (vm':Value) (wx:World):Prop where
 par:PIs wx b gt cap tb ts j
 tab:PT wx base tb vt vs (gs1++[newMode dflt (depOf gs ai) (outerOf ai) w.heap.size (blkOf gs ai)]) (fresh F w) vv vm'
 kept:Kp F w wx
 a:gs1.map (·.a)=gs.map (·.a)
 blk:∀ (i:Nat) (m:MG),gs[i]? = some m->∃ m':MG,gs1[i]? = some m'/\m'.blk=m.blk
 links:Links (gs1++[newMode dflt (depOf gs ai) (outerOf ai) w.heap.size (blkOf gs ai)])
theorem Tryz.infoPtrA:(Tryz.prog.info? 164).map (fun i=>(i.zero,i.size,i.bytes))=some (some (.pointer none),1,8):=by kernel_rfl
theorem PT.tight {w:World} {base tb:Nat} {vt vv vm:Value} {vs:List VarA} {gs:List MG} {F:Nat->Prop} (h:PT w base tb vt vs gs F vv vm):PT w base tb vt vs gs (tight F w) vv vm :=
 ⟨h.mem,fun k hk=>⟨h.inF k hk,by obtain ⟨i,r,hr,e⟩:=hk;exact (h.mem.lt hr e).2⟩,h.low⟩
theorem MemIs.boxHeap {w:World} {base:Nat} {L:List Rw} (h:MemIs w base L) {i e b:Nat} {xs:List Value} (hr:L[i]? = some (Rw.box e b xs)):w.heap[b]? = some (.cells xs.toArray e (0,0)):=by
 obtain ⟨hl,ho⟩:=h.own i _ hr;rcases ho with ⟨h0,_⟩ | ⟨g,cap,cur,he,hb,hg,h1,h2,h3,h4⟩
 ·cases h0
 ·cases he
  rw [hg];have:cur=xs.toArray:=by
   apply Array.toList_inj.1;have h5:cur.toList.length=xs.length:=by simpa [Rw.box] using h3
   have h6:cur.toList.take xs.length=xs:=by simpa [Rw.box] using h4
   rw [<- h5,List.take_length] at h6;simpa using h6
  rw [this];rfl
theorem mode_step (n:Nat) (IH:ModesC n):ModeC (n+1):=by
 intro w b gt cap tb ts j base vt vv vm vs gs F ai dflt h hT hL hFb hFg hai hgj hn;have HIH:=hide IH;have HP:=hide h;have HT:=hide hT;have HT0:=hide hT.tight;have HL:=hide hL;have hbl:=h.own;have hgl:=h.lies;have hjl:=h.lt;have hfew:=h.ok.few;have htb:Hid (∀ k,tight F w k->k<w.heap.size):=hide (fun k h=>h.2);have hnb:¬ tight F w b:=fun h=>hFb h.1
 have hng:¬ tight F w gt:=fun h=>hFg h.1
 have hgood:∀ i (hi:i<ts.length),Hid (Hx.Good ts[i]):=fun i hi=>hide (h.ok.good _ (List.getElem_mem hi))
 clear IH hT hL;obtain ⟨pa,hpa⟩ : ∃ pa,arV (blkOf gs ai)=.pointer pa:=by cases blkOf gs ai <;> exact ⟨_,rfl⟩
 rw [hpa];have HPA:=hide hpa;clear hpa;go_enter Tryz.func155,Tryz.ntmps155;go_upto_if 13 with (fail)
 go_cut [] from 8 to 74 (fun wx=>∃ gs1 F1,Cut5 w b gt cap tb ts j base vt vv vm vs gs F ai dflt gs1 F1 wx)
 case first =>
  cases ai with
  | none =>
   obtain rfl:pa=none:=by have:=HPA.out;simpa [blkOf,arV] using this.symm
   go_wp2_with fail;go_meet
   case rel =>
    refine ⟨gs,tight F w,HP.out.below ((Below.refl _ _).alloc (Nat.le_refl _) _),HT0.out.below ((Below.refl _ _).alloc (Nat.le_refl _) _),fun h=>by have:=h.2;omega,fun k h=>.inl h.1,(Kp.refl _ _).alloc _,heap_alloc_new _ _,rfl,fun i m h=>⟨m,h,rfl⟩,?_⟩;unfold Links;rw [List.map_append];exact links_root HL.out w.heap.size
  | some a =>
   have ha:a<gs.length:=hai a rfl;have hbk:blkOf gs (some a)=some gs[a].blk:=by simp [blkOf,ha]
   obtain rfl:pa=some ⟨gs[a].blk,0,none⟩:=by have:=HPA.out;rw [hbk] at this;simpa [arV,ptrV] using this.symm
   obtain ⟨hmc,hmf,hmb1,hmb2,hmF⟩:=HT0.out.modeCells ha;have hO:=HT0.out.mem.own _ _ (pt_at2 ha);have hO':w.ownsRow base 164 1 gs[a].vw gs[a].wi.length (gs[a].wi.map ptrV):=hO;obtain ⟨av,cv,hvv,_,_⟩:=row_shape hO';have m5:w.cell? ⟨gs[a].blk,5,none⟩=some (.int .i64 gs[a].a.depth):=hmc 5 (by omega);have m8:w.cell? ⟨gs[a].blk,8,none⟩=some (.slice av gs[a].wi.length cv):=by rw [<- hvv];exact hmc 8 (by omega)
   have hka:(gs.map MG.key)[a]? = some gs[a].key:=by simp [ha]
   have hkl:=HL.out a _ hka;have hdp:gs[a].a.depth<=a:=hkl.dep;have hwl:gs[a].wi.length<=gs.length:=by
    have h1:gs[a].wi=inside (gs.map MG.key) a:=hkl.wi;rw [h1,inside,List.length_map];exact Nat.le_trans (List.length_filter_le _ _) (by simp)
   have hwp:IntKind.i64.wrap ((gs[a].a.depth:Int)+1)=(gs[a].a.depth:Int)+1:=IntWalk.i64_in _ (by omega);have HO:=hide hO';have HVV:=hide hvv;have HKA:=hide hka;have HDEP:Hid (depOf gs (some a)=gs[a].a.depth+1):=hide (by simp [depOf,ha]);have HBK:=hide hbk;have hlow:=HT0.out.low;clear hO hO' hvv hka hkl hmc hmf hbk;obtain ⟨i0,hi0,hz0,hz1,hz2⟩:=info_parts Tryz.infoPtrA;have hpv:Hid (∀ u∈[ptrV w.heap.size],u.oneCell'=true):=hide (by intro u hu;simp at hu;subst hu;rfl);have hne:gs[a].blk≠w.heap.size:=by omega
   have hne':w.heap.size≠gs[a].blk:=by omega
   have hkb:∀ o,Below w.heap.size w (w.alloc o):=fun o=>(Below.refl _ _).alloc (Nat.le_refl _) o
   have HKB:=hide hkb;clear hkb;go_wp2_with (at_builtin;refine wpList_append_own_at _ rfl _ _ 85 rfl base 164 i0 _ 1 8 Tryz.underlying85 hi0 hz0 hz1 hz2 rfl (by decide) _ _ _ HVV.out.symm (own_below HO.out ((HKB.out _).alloc (HKB.out _).size _)) ⟨w.heap.size+1,0,none⟩ 1 1 [ptrV w.heap.size] rfl rfl ?c1 ?c2 ?c3 ?c4 ?c5 ?_)
   case c1=>exact news_new _ _ (by simp) [_] _
   case c2=>exact hpv.out
   case c3=>unfold maxLen;omega
   case c4=>omega
   case c5=>simp;omega
   intro v' w7 hown' hgrow _ hat;obtain ⟨av7,cv7,rfl,_,_⟩:=row_shape hown';have hP1:PT ((w.alloc (.cells (newMode dflt (gs[a].a.depth+1) a w.heap.size (some gs[a].blk)).box.toArray 171)).alloc (.cells #[ptrV w.heap.size] 164)) base tb vt vs gs (tight F w) vv vm:=HT0.out.below ((HKB.out _).alloc (by simp) _);obtain ⟨hfin,hkp,e5,e6⟩:=PT.addWithin (B:=w.heap.size) hP1 ha hgrow hown' (by simpa using hat);rw [HVV.out] at e5;have HFIN:=hide hfin;have HKP:=hide hkp;clear hfin hkp hown' hgrow hat hP1;go_wp2_with fail;go_meet
   case rel =>
    have hB2:Below w.heap.size w ((w.alloc (.cells (newMode dflt (gs[a].a.depth+1) a w.heap.size (some gs[a].blk)).box.toArray 171)).alloc (.cells #[ptrV w.heap.size] 164)):=(HKB.out _).alloc (HKB.out _).size _;refine ⟨gs.set a (gs[a].addIn w.heap.size (.slice av7 (gs[a].wi.length+1) cv7)),_,(HP.out.below hB2).kp HKP.out hnb hng,HFIN.out,?_,?_,((Kp.refl _ w).below hB2).trans HKP.out (fun _ h=>.inl h),?_,?_,?_,?_⟩
    ·rintro (h | h)
     ·have:=h.2;omega
     ·simp at h;omega
    ·rintro k (h | h)
     ·exact .inl h.1
     ·simp at h;exact .inr (by omega)
    ·rw [HDEP.out,HBK.out]
     refine (HKP.out.block w.heap.size (by simp;omega) (fun h=>by have:=h.2;omega)).trans ?_;exact (((Below.refl (w.heap.size+1) (w.alloc (.cells (newMode dflt (gs[a].a.depth+1) a w.heap.size (some gs[a].blk)).box.toArray 171))).alloc (by simp) _).block w.heap.size (by omega)).trans (heap_alloc_new w _)
    ·rw [List.map_set]
     exact set_same _ _ _ (by simp [ha,MG.addIn])
    ·intro i m hm
     rw [List.getElem?_set]
     by_cases e:a=i
     ·subst e
      rw [if_pos rfl,if_pos ha];refine ⟨_,rfl,?_⟩;rw [List.getElem?_eq_getElem ha] at hm
      cases hm;rfl
     ·rw [if_neg e];exact ⟨m,hm,rfl⟩
    ·unfold Links
     rw [List.map_append,List.map_set,HDEP.out,HBK.out];exact links_inner HL.out a _ HKA.out w.heap.size
 case rest =>
  obtain ⟨gs1,F1,hC⟩:=hcut;have hlen:gs1.length=gs.length:=by have:=congrArg List.length hC.a;simpa using this
  have p2:wc.cell? ⟨b,2,none⟩=some (.pointer (some ⟨tb,0,none⟩)):=Lib.cell_of_heap hC.par.box 2;have hO:=hC.tab.mem.own 2 _ rfl;have hO':wc.ownsRow base 164 1 vm gs1.length (gs1.map fun m=>ptrV m.blk):=hO;obtain ⟨av,cv,hvv,_,_⟩:=row_shape hO';obtain ⟨_,_,c2,cf,ctb,ctl,cF⟩:=hC.tab.cells;rw [hvv] at c2;have c2f:=cf 2;have hlow:=hC.tab.low;have hzz:=hC.kept.size;have hbl2:=hC.par.own;have hBl:w.heap.size<wc.heap.size:=(Array.getElem?_eq_some_iff.1 hC.box).1;have hF1b:¬ F1 b:=fun h=>(hC.sub b h).elim hFb (fun h=>by omega)
  have hF1g:¬ F1 gt:=fun h=>(hC.sub gt h).elim hFg (fun h=>by omega)
  have HC:=hide hC;have HO:=hide hO';have HVV:=hide hvv;have HML:Hid (gs1.length+1<=maxLen):=hide (by unfold maxLen;omega);have HBY:Hid ((gs1.length+1)*8<=140737488355328):=hide (by omega);have H1C:Hid (∀ u∈[ptrV w.heap.size],u.oneCell'=true):=hide (by intro u hu;simp at hu;subst hu;rfl);obtain ⟨i0,hi0,hz0,hz1,hz2⟩:=info_parts Tryz.infoPtrA;have hsg:base<=w.heap.size:=HT0.out.low;have HLEN:=hide hlen;have hle1:gs1.length<=j:=by omega
  clear hC hO hO' hvv cf hlen;go_wp2_with fail
  go_cut [] from 8 to 74 (fun wx=>∃ vm',Cut6 w b gt cap tb ts j base vt vv vs gs F ai dflt gs1 vm' wx)
  case first =>
   go_region_law (refine step_append_own_at rfl _ _ 85 rfl base 164 i0 _ 1 8 Tryz.underlying85 hi0 hz0 hz1 hz2 rfl (by decide) _ gs1.length (gs1.map fun m=>ptrV m.blk) HVV.out.symm (by exact own_below HO.out ⟨rfl,rfl,rfl,by simp,fun k hk=>Below.heap_alloc _ _ _ hk⟩) ⟨_,0,none⟩ 1 1 [ptrV w.heap.size] rfl rfl (news_new _ _ (by simp) [ptrV w.heap.size] _) H1C.out HML.out HBY.out (by simp;omega) ?_;intro v' w7 hown' hgrow hat;obtain ⟨av7,cv7,rfl,_,_⟩:=row_shape hown';have p7:=hgrow.cell (a:=⟨b,2,none⟩) (by exact (((Below.refl _ _).alloc (Nat.le_refl _) _).cell hbl2).trans p2) (fun e=>hF1b (HC.out.tab.inF b ⟨2,_,rfl,e.symm⟩));obtain ⟨hfin,hkp,e5,e6⟩:=PT.addMode (dflt:=dflt) (depth:=depOf gs ai) (outer:=outerOf ai) (ar:=blkOf gs ai) (HC.out.tab.below (by exact ⟨rfl,rfl,rfl,by simp,fun k hk=>Below.heap_alloc _ _ _ hk⟩)) hgrow hown' hat (by exact (Below.heap_alloc _ _ _ hBl).trans HC.out.box) hsg HC.out.notB;rw [HVV.out] at e5;have HFIN:=hide hfin;have HKP:=hide hkp;clear hfin hkp hown' hgrow hat)
   all_goals
    have hbel:Below wc.heap.size wc (wc.drew.alloc (.cells [ptrV w.heap.size].toArray 164)):=⟨rfl,rfl,rfl,by simp,fun k hk=>Below.heap_alloc _ _ _ hk⟩;have hPI:=(HC.out.par.below hbel).kp HKP.out hF1b hF1g;have hKK:=((HC.out.kept.mono (G:=F) (fun _ _ h=>h.1)).below hbel).trans HKP.out (fun k h=>HC.out.sub k h);have hPT:=HFIN.out.mono (G:=fresh F w) (fun k h=>h.elim (fun h=>h.elim (HC.out.sub k) (fun h=>.inr (by have:(wc.drew.alloc (.cells [ptrV w.heap.size].toArray 164)).heap.size<=k:=h;simp at this;omega))) (fun e=>.inr (by omega)));have HE:=hide (And.intro hPI (And.intro hPT hKK));clear hPI hKK hPT HFIN HKP e5 e6 hbel p7;go_wp2_with fail;go_meet
    case rel=>exact ⟨_,HE.out.1,HE.out.2.1,HE.out.2.2,HC.out.a,HC.out.blk,HC.out.links⟩
  case rest =>
   obtain ⟨vm6,h6⟩:=hcut;have hgb:¬ fresh F w b:=fun h=>h.elim hFb (fun h=>by omega)
   have hgg:¬ fresh F w gt:=fun h=>h.elim hFg (fun h=>by omega)
   have hne1:w.heap.size≠b:=by omega
   have hne2:w.heap.size≠gt:=by omega
   obtain ⟨nm,hnm⟩ : ∃ nm,nm=newMode dflt (depOf gs ai) (outerOf ai) w.heap.size (blkOf gs ai):=⟨_,rfl⟩;have H6a:=hide h6.a;have H6b:=hide h6.blk;have hlk:=h6.links;have htab:=h6.tab;rw [<- hnm] at hlk htab;have HLK:=hide hlk;have HTB:=hide htab;have HPI:=hide h6.par;have HKP:=hide h6.kept;have HNM:=hide hnm;clear h6 hlk htab hnm p2 c2 c2f ctb ctl cF HC HO HVV HML HBY H1C hi0 hz0 hz1 hz2 hbl2;go_wp2_with fail;refine (skip_mark Hx.ymode _ b gt cap tb ts j _ rfl HPI.out).mono ?_;rintro e w1 ⟨rfl,hp1,hk1⟩;have hT1:=HTB.out.kept hk1 (fun k hF e=>hgb (e ▸ hF));have HT1:=hide hT1;have HK1:Hid (Kp (fun k=>k=b\/F k) w w1):=hide ((HKP.out.mono (G:=fun k=>k=b\/F k) (fun _ _ h=>.inr h)).trans hk1 (fun _ e=>.inl (.inl e)));have hbm:Hx.becomesP Hx.YMODE (ts[j]'h.lt)=some [Hx.ymode,Hx.YNAME,Hx.yLb,Hx.YROWS]:=rfl;have HBM:=hide hbm;clear hT1 hk1 hbm
   cases hm:isMark (ts[j]'h.lt) Hx.ymode with
   | false =>
    rw [hm] at hp1;have HM:=hide hm;have HP1:=hide hp1;clear hp1 hm;go_wp2_with fail;go_ret;refine ⟨false,j,_,_,rfl,HP1.out,HT1.out,HK1.out,(fun e=>by cases e),fun _=>?_⟩;rw [drop_at h.lt];exact Hx.Bad.becomes HBM.out (Hx.mark_bad (hgood _ h.lt).out _ (.inl (by decide)) _ HM.out).cons
   | true =>
    rw [hm] at hp1;have hp1':PIs w1 b gt cap tb ts (j+1):=hp1;have HM:=hide hm;have HP1:=hide hp1';clear hp1 hp1' hm;have hi2:gs1.length<(gs1++[nm]).length:=by simp
    have hget:(gs1++[nm])[gs1.length]'hi2=nm:=by simp
    have hbox:=HT1.out.mem.boxHeap (pt_at0 hi2);rw [hget] at hbox;have hbk:nm.blk=w.heap.size:=by rw [HNM.out];rfl
    rw [hbk] at hbox;have HBX:=hide hbox;clear hbox;have hse:∀ x,(gs1++[nm]).set gs1.length x=gs1++[x]:=fun x=>by simp
    have hse2:∀ y x,(gs1++[y]).set gs1.length x=gs1++[x]:=fun y x=>by simp
    have hlks:∀ x:MG,x.key=nm.key->Hid (Links (gs1++[x])):=fun x hx=>hide (by have:=HLK.out;unfold Links at *;rw [List.map_append] at *;simpa [hx] using this)
    go_wp2_with fail;refine (ptake_any w1 b gt cap tb ts (j+1) w.heap.size 0 _ _ 1 HP1.out HBX.out (by simp [MG.box,tokV]) hne1 hne2 (by decide)).mono ?_;intro e w2 hr;obtain rfl:=hr.ret;obtain ⟨ta,hta⟩ : ∃ ta,ta=ts[j+1]'HP1.out.lt:=⟨_,rfl⟩;have HTA:=hide hta;rw [<- hta] at hr |-;have hGk:∀ k,fresh F w k->(k=b\/k=w.heap.size)->k=((gs1++[nm])[gs1.length]'hi2).blk:=fun k hF e=>by rw [hget,hbk];rcases e with e | e;exact absurd (e ▸ hF) hgb;exact e
    have HK2:Hid (Kp (fun k=>k=b\/F k) w w2):=hide (HK1.out.trans hr.kept (fun _ e=>e.elim (fun e=>.inl (.inl e)) (fun e=>.inr (by omega))))
    cases n1:(kindA ta.k == 1) with
    | false =>
     rw [n1] at hr;have hT2:=HT1.out.name (t:=nm.a.name) hi2 hr.kept hGk (by rw [hget,hbk];exact hr.box);have HT2:=hide hT2;have HR:=hide hr;have N1:=hide n1;clear hr hT2 n1 hta;go_wp2_with fail;go_ret;refine ⟨false,j+1,_,_,rfl,HR.out.par,HT2.out,HK2.out,(fun e=>by cases e),fun _=>?_⟩;have hb:=(Hx.mark_ok (hgood _ h.lt).out _ (.inl (by decide)) (ts.drop (j+1)) HM.out).consBad (b:=[Hx.YNAME,Hx.yLb,Hx.YROWS]) (by rw [drop_at HP1.out.lt,<- HTA.out];exact (Hx.name_bad (by rw [HTA.out];exact (hgood _ HP1.out.lt).out) _ N1.out).cons:Hx.Bad [Hx.YNAME,Hx.yLb,Hx.YROWS] (ts.drop (j+1)) ta.line);rw [HTA.out] at hb;rw [drop_at h.lt];exact Hx.Bad.becomes HBM.out hb
    | true =>
     rw [n1] at hr;have hT2:=HT1.out.name (t:=ta) hi2 hr.kept hGk (by rw [hget,hbk];exact hr.box);rw [hget,hse] at hT2;have hp2:PIs w2 b gt cap tb ts (j+2):=hr.par;have HT2:=hide hT2;have HP2:=hide hp2;have N1:=hide n1
     have HO2:Hid (Hx.Ok [Hx.ymode,Hx.YNAME] (ts.drop j) (ts.drop (j+2))):=hide (by
      rw [drop_at h.lt];refine (Hx.mark_ok (hgood _ h.lt).out _ (.inl (by decide)) _ HM.out).cons ?_
      rw [drop_at HP1.out.lt,<- HTA.out];exact Hx.name_ok (by rw [HTA.out];exact (hgood _ HP1.out.lt).out) _ n1)
     clear hr hT2 hp2 n1 hta;go_wp2_with fail;refine (skip_mark Hx.yLb w2 b gt cap tb ts (j+2) _ rfl HP2.out).mono ?_;rintro e w3 ⟨rfl,hp3,hk3⟩;have hT3:=HT2.out.kept hk3 (fun k hF e=>hgb (e ▸ hF));have HT3:=hide hT3;have HK3:Hid (Kp (fun k=>k=b\/F k) w w3):=hide (HK2.out.trans hk3 (fun _ e=>.inl (.inl e)));clear hT3 hk3
     cases n2:isMark (ts[j+2]'HP2.out.lt) Hx.yLb with
     | false =>
      rw [n2] at hp3;have HP3:=hide hp3;have N2:=hide n2;clear hp3 n2;go_wp2_with fail;go_ret;refine ⟨false,j+2,_,_,rfl,HP3.out,HT3.out,HK3.out,(fun e=>by cases e),fun _=>?_⟩;have hb:=HO2.out.bad (b:=[Hx.yLb,Hx.YROWS]) (by rw [drop_at HP2.out.lt];exact (Hx.mark_bad (hgood _ HP2.out.lt).out _ (.inr (by decide)) _ N2.out).cons);rw [drop_at h.lt] at hb |-;exact Hx.Bad.becomes HBM.out hb
     | true =>
      rw [n2] at hp3;have hp3':PIs w3 b gt cap tb ts (j+3):=hp3;have HP3:=hide hp3';have HO3:Hid (Hx.Ok [Hx.ymode,Hx.YNAME,Hx.yLb] (ts.drop j) (ts.drop (j+3))):=hide (HO2.out.app (by rw [drop_at HP2.out.lt];exact Hx.mark_ok (hgood _ HP2.out.lt).out _ (.inr (by decide)) _ n2:Hx.Ok [Hx.yLb] (ts.drop (j+2)) (ts.drop (j+3))));have hs3:=HK3.out.size;have N2:=hide n2;clear hp3 hp3' n2;have hi3:gs1.length<(gs1++[nm.named ta]).length:=by simp
      have hget3:(gs1++[nm.named ta])[gs1.length]'hi3=nm.named ta:=by simp
      have TR:=takeRows_any w3 b gt cap tb ts (j+3) base vt vv vm6 vs (gs1++[nm.named ta]) (fresh F w) gs1.length hi3 HP3.out HT3.out hgb hgg (by rw [hget3,HNM.out];rfl);rw [show ((gs1++[nm.named ta])[gs1.length]'hi3).blk=w.heap.size by rw [hget3];exact hbk] at TR;have HTR:=hide TR;clear TR;go_wp2_with fail;refine HTR.out.mono ?_;rintro e w4 ⟨ok,j4,rs,v4,rfl,hR⟩;have hT4:=hR.tab;rw [hget3,hse2] at hT4;have HT4:=hide hT4;have HR:=hide hR;have HK4:Hid (Kp (fun k=>k=b\/F k) w w4):=hide (HK3.out.trans hR.kept (fun k e=>e.elim (fun e=>.inl (.inl e)) (fun e=>e.elim (fun e=>.inl (.inr e)) .inr)));have hsub4:∀ k,fresh (fresh F w) w3 k->fresh F w k:=fun k h=>h.elim id (fun h=>.inr (Nat.le_trans hs3 h))
      clear hR hT4
      cases ok with
      | false =>
       go_wp2_with fail;go_ret;refine ⟨false,j4,_,_,rfl,HR.out.par,HT4.out.mono hsub4,HK4.out,(fun e=>by cases e),fun _=>?_⟩;have hb:=HO3.out.bad (HR.out.bad rfl);rw [drop_at h.lt] at hb |-;exact Hx.Bad.becomes HBM.out hb
      | true =>
       have hle4:=HR.out.le rfl;have hi4:gs1.length<(gs1++[(nm.named ta).withRows rs v4]).length:=by simp
       have hget4:(gs1++[(nm.named ta).withRows rs v4])[gs1.length]'hi4=(nm.named ta).withRows rs v4:=by simp
       have TM:=HIH.out w4 b gt cap tb ts j4 base vt vv vm6 vs (gs1++[(nm.named ta).withRows rs v4]) (fresh F w) gs1.length hi4 HR.out.par (HT4.out.mono hsub4) (hlks ((nm.named ta).withRows rs v4) rfl).out hgb hgg (by simp;omega) (by omega);rw [show ((gs1++[(nm.named ta).withRows rs v4])[gs1.length]'hi4).blk=w.heap.size by rw [hget4];exact hbk] at TM;have HTM:=hide TM;clear TM;go_wp2_with fail;refine HTM.out.mono ?_;rintro e w5 ⟨ok,j5,gs5,vm5,rfl,hR5⟩;have HR5:=hide hR5;have HK5:Hid (Kp (fun k=>k=b\/F k) w w5):=hide (HK4.out.trans hR5.kept (fun k e=>e.elim (fun e=>.inl (.inl e)) (fun e=>e.elim (fun e=>.inl (.inr e)) .inr)));have hs4:=HK4.out.size;have hsub5:∀ k,fresh (fresh F w) w4 k->fresh F w k:=fun k h=>h.elim id (fun h=>.inr (Nat.le_trans hs4 h))
       clear hR5
       cases ok with
       | false =>
        go_wp2_with fail;go_ret;refine ⟨false,j5,_,_,rfl,HR5.out.par,HR5.out.tab.mono hsub5,HK5.out,(fun e=>by cases e),fun _=>?_⟩;have hb:=HO3.out.bad (HR.out.okb rfl _ (HR5.out.bad rfl));rw [drop_at h.lt] at hb |-;exact Hx.Bad.becomes HBM.out hb
       | true =>
        go_wp2_with fail;refine (skip_mark Hx.yRb w5 b gt cap tb ts j5 _ rfl HR5.out.par).mono ?_;rintro e w6 ⟨rfl,hp6,hk6⟩;have HP6:=hide hp6;have HK6:=hide hk6;clear hp6 hk6;go_wp2_with fail;go_ret;obtain ⟨ext,hgr,hle5,hl5,ho5,hob5,hmd5,hss5⟩:=HR5.out.good rfl;have hlt5:=HR5.out.par.lt;have hnma:nm.a=⟨noTok,dflt,depOf gs ai,outerOf ai,[]⟩:=by rw [HNM.out];rfl
        have hlen:=HLEN.out;refine ⟨_,_,gs5,vm5,rfl,HP6.out,(HR5.out.tab.mono hsub5).kept HK6.out (fun k hF e=>hgb (e ▸ hF)),HK5.out.trans HK6.out (fun _ e=>.inl (.inl e)),fun e=>⟨⟨ta,dflt,depOf gs ai,outerOf ai,rs⟩::ext,⟨?_,?_,hgr.links⟩,?_,?_,?_,?_,?_⟩,fun e=>?_⟩
        ·rw [hgr.a,List.map_append,H6a.out]
         simp [MG.named,MG.withRows,hnma]
        ·intro q m hm
         obtain ⟨m',hm',hb'⟩:=H6b.out q m hm;have hql:q<gs1.length:=(List.getElem?_eq_some_iff.1 hm').1;obtain ⟨m2,hm2,hb2⟩:=hgr.blk q m' (by rw [List.getElem?_append_left hql];exact hm');exact ⟨m2,hm2,hb2.trans hb'⟩
        ·rw [e,if_pos rfl];omega
        ·rw [e,if_pos rfl];omega
        ·rw [e,if_pos rfl]
         have ho:=HO3.out.app (HR.out.okr rfl _ (ho5 _ (by rw [drop_at hlt5];exact Hx.mark_ok (hgood _ hlt5).out _ (.inr (by decide)) _ e:Hx.Ok [Hx.yRb] (ts.drop j5) (ts.drop (j5+1)))));rw [drop_at h.lt] at ho |-;exact Hx.Ok.becomes HBM.out ho
        ·rw [e,if_pos rfl,drop_at h.lt,drop_at HP1.out.lt,drop_at HP2.out.lt,<- HTA.out]
         obtain ⟨hdr,hdw⟩:=HR.out.der rfl;have hdd:((nm.named ta).withRows rs v4).a.depth=depOf gs ai:=by simp [MG.named,MG.withRows,hnma]
         rw [hget4,hdd,List.length_append,hlen,drop_at hlt5] at hmd5;rw [drop_at HR.out.par.lt] at hdr hmd5;exact .mode HM.out (Hx.kind_name (by rw [HTA.out];exact (hgood _ HP1.out.lt).out) N1.out) N2.out hdr hdw hmd5 e
        ·intro s hs
         rw [e,if_pos rfl,drop_at h.lt,drop_at HP1.out.lt,drop_at HP2.out.lt,<- HTA.out];refine Hx.SS.whole (Hx.word_of (hgood _ h.lt).out (by decide) HM.out) (Hx.sign_of (hgood _ hlt5).out (by decide) e) rfl (HR.out.ss rfl) (fun s' hs'=>?_) (drop_at hlt5);have h5:=hss5 s' (by rw [hs',hs];simp [hlen]);rw [hget4] at h5;have hdd:((nm.named ta).withRows rs v4).a.depth=depOf gs ai:=by simp [MG.named,MG.withRows,hnma]
         rw [hdd,hlen,<- hs] at h5;simpa using h5
        ·have hl:∀ k (hk:k<ts.length),k=j5->Hx.Bad [Hx.YMODE] (ts.drop j) (ts[k]).line:=by
          rintro k hk rfl;have hb:=HO3.out.bad (HR.out.okb rfl _ (hob5 _ (by rw [drop_at hlt5];exact Hx.mark_bad (hgood _ hlt5).out _ (.inr (by decide)) _ e)));rw [drop_at h.lt] at hb |-;exact Hx.Bad.becomes HBM.out hb
         exact hl _ _ (by rw [e];rfl)
end Go.Proofs.YtdjaiolfdbamcaaGreatDoor
