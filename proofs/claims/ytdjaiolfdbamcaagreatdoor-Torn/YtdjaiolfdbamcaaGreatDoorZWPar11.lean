/- Walks of the parser's takeModes. -/
import Derived.Test.YtdjaiolfdbamcaaGreatDoorZWPar10
import Derived.Deep.LoopGhost
set_option maxRecDepth 20000
set_option maxHeartbeats 2000000
namespace Go.Proofs.YtdjaiolfdbamcaaGreatDoor
section
open Go.RowKit
section
variable {ts:List Hx.Tok} {j:Nat}
theorem modes_dflt (hj:j<ts.length) (hm:isMark ts[j] Hx.ydefault=true) (hg:Hx.Good ts[j]):Hx.becomesP Hx.YMODES ts[j]=some [Hx.ydefault,Hx.YMODE,Hx.YMODES]:=by
 rw [Hx.mark_word hg _ (by decide)] at hm;show some (if Hx.isW ts[j] Hx.ydefault then _ else _)=_;rw [if_pos hm]
theorem modes_mode (hj:j<ts.length) (h1:isMark ts[j] Hx.ydefault=false) (hm:isMark ts[j] Hx.ymode=true) (hg:Hx.Good ts[j]):Hx.becomesP Hx.YMODES ts[j]=some [Hx.YMODE,Hx.YMODES]:=by
 rw [Hx.mark_word hg _ (by decide)] at h1 hm;show some (if Hx.isW ts[j] Hx.ydefault then _ else if Hx.isW ts[j] Hx.ymode then _ else _)=_;rw [if_neg (by simp [h1]),if_pos hm]
theorem modes_done (hj:j<ts.length) (h1:isMark ts[j] Hx.ydefault=false) (hm:isMark ts[j] Hx.ymode=false) (hg:Hx.Good ts[j]):Hx.becomesP Hx.YMODES ts[j]=some [Hx.yRb]:=by
 rw [Hx.mark_word hg _ (by decide)] at h1 hm;show some (if Hx.isW ts[j] Hx.ydefault then _ else if Hx.isW ts[j] Hx.ymode then _ else _)=_;rw [if_neg (by simp [h1]),if_neg (by simp [hm])]
end
structure ModesInv (w:World) (b gt cap tb:Nat) (ts:List Hx.Tok) (j base:Nat) (vt vv:Value) (vs:List VarA) (gs:List MG) (F:Nat->Prop) (i:Nat) (hi:i<gs.length) (k jj:Nat) (g1:List MG) (ext:List Hx.MA) (vm1:Value) (wr:World):Prop where
 par:PIs wr b gt cap tb ts jj
 tab:PT wr base tb vt vs g1 (fresh F w) vv vm1
 kept:Kp (fun k=>k=b\/F k) w wr
 grow:Grow gs g1 ext
 le:j<=jj
 few:g1.length<=jj
 left:ts.length-jj<k
 ok:∀ l',Hx.Ok [Hx.YMODES] (ts.drop jj) l'->Hx.Ok [Hx.YMODES] (ts.drop j) l'
 okb:∀ ln,Hx.Bad [Hx.YMODES] (ts.drop jj) ln->Hx.Bad [Hx.YMODES] (ts.drop j) ln
 ss:∀ s:Hx.St,s.modes.length=gs.length->Hx.SS (ts.drop j) i (gs[i].a.depth+1:Nat) false s (ts.drop jj) i (gs[i].a.depth+1:Nat) false (s.modesS ext)
 der:Hx.MD true (ts.drop j) i false (gs[i].a.depth+1) gs.length ext (ts.drop jj)
theorem modes_of (n:Nat) (IH:ModeC n):ModesC n:=by
 intro w b gt cap tb ts j base vt vv vm vs gs F i hi h hT hL hFb hFg hgj hn;have HIH:=hide IH;have hbl:=h.own;have hgl:=h.lies;have hfew:=h.ok.few;have hgood:∀ i (hi:i<ts.length),Hid (Hx.Good ts[i]):=fun i hi=>hide (h.ok.good _ (List.getElem_mem hi))
 have hgb:¬ fresh F w b:=fun h=>h.elim hFb (fun h=>by omega)
 have hgg:¬ fresh F w gt:=fun h=>h.elim hFg (fun h=>by omega)
 have H0:Hid (∃ jj g1 ext vm1,ModesInv w b gt cap tb ts j base vt vv vs gs F i hi 3002 jj g1 ext vm1 w):=hide
  ⟨j,gs,[],vm,h,hT.mono (fun _ h=>.inl h),Kp.refl _ _,⟨by simp,fun _ m hm=>⟨m,hm,rfl⟩,hL⟩,Nat.le_refl _,hgj,by omega,fun _ k=>k,fun _ k=>k,fun s _=>Hx.SS.refl _ _ _ _ _,.none _ _ _ _⟩
 obtain ⟨mb,hmb⟩ : ∃ mb,mb=gs[i].blk:=⟨_,rfl⟩;rw [<- hmb];have HMB:=hide hmb;clear IH hT hL hmb;go_enter Tryz.func199,Tryz.ntmps199;go_wp2_with fail
 go_loopg [] 3002 (fun k wr=>∃ jj g1 ext vm1,ModesInv w b gt cap tb ts j base vt vv vs gs F i hi k jj g1 ext vm1 wr)
 case atStart=>exact H0.out
 case round =>
  obtain ⟨jj,g1,ext,vm1,hI⟩:=hrel;clear H0;have HI:=hide hI;clear hI;have hwr:=HI.out.kept.size;have hjl:=HI.out.par.lt;have hle:=HI.out.le;have hlf:=HI.out.left;have hfg:=HI.out.few;go_wp2_with fail;refine (next_any wr b gt cap tb ts jj HI.out.par).mono ?_;rintro e w1 ⟨rfl,hb1⟩;have HB1:=hide hb1;clear hb1;go_wp2_with fail;refine (is_any (ts[jj]'HI.out.par.lt) _ w1).mono ?_;rintro e w2 ⟨rfl,hb2⟩;have HB2:=hide (HB1.out.trans (hb2.mono HB1.out.size));clear hb2 HB1;rw [show (⟨#[100,101,102,97,117,108,116]⟩ : ByteArray).toList=Hx.ydefault by rw [Lib.toList_data]];have hlen1:=HI.out.grow.len;have hi1:i<g1.length:=by omega
  have hblk1:blkOf g1 (some i)=some mb:=by
   obtain ⟨m',hm',hb'⟩:=HI.out.grow.blk i gs[i] (List.getElem?_eq_getElem hi);simp [blkOf,hm',hb',HMB.out]
  have hdep1:depOf g1 (some i)=gs[i].a.depth+1:=by
   have h1:(g1.map (·.a))[i]? = some gs[i].a:=by rw [HI.out.grow.a,List.getElem?_append_left (by simpa using hi)];simp [hi]
   rw [List.getElem?_map,Option.map_eq_some_iff] at h1;obtain ⟨m,hm,ha⟩:=h1;simp [depOf,hm,ha]
  have HB:=hide hblk1;have HDP:=hide hdep1;have HLN:=hide hlen1;clear hblk1 hdep1 hlen1
  /- what a call of takeMode leaves,from a place q on where the default stands or does not -/
  have STEP:∀ (W:World) (q:Nat) (df:Bool),PIs W b gt cap tb ts q->PT W base tb vt vs g1 (fresh F w) vv vm1->Kp (fun k=>k=b\/F k) w W->q=(if df then jj+1 else jj) ->
    Hid (Calls Tryz.prog 155 #[.pointer (some ⟨b,0,none⟩),.pointer (some ⟨mb,0,none⟩),.bool df] W fun e w'=>∃ ok j' gs' vm',e=.returned (.bool ok)/\ModeR W b gt cap tb ts q base vt vv vs g1 (fresh F w) (some i) df ok j' gs' vm' w'/\PT w' base tb vt vs gs' (fresh F w) vv vm'/\Kp (fun k=>k=b\/F k) w w'):=fun W q df hP hPT hK hq=>hide (by
   have:=HIH.out W b gt cap tb ts q base vt vv vm1 vs g1 (fresh F w) (some i) df hP hPT HI.out.grow.links hgb hgg (fun a e=>by cases e;exact hi1) (by cases df <;> simp at hq <;> omega) (by cases df <;> simp at hq <;> omega);rw [HB.out] at this;refine Calls.mono this ?_;rintro e w' ⟨ok,j',gs',vm',rfl,hR⟩
   exact ⟨ok,j',gs',vm',rfl,hR,hR.tab.mono (fun k h=>h.elim id (fun h=>.inr (Nat.le_trans hK.size h))),hK.trans hR.kept (fun k e=>e.elim (fun e=>.inl (.inl e)) (fun e=>e.elim (fun e=>.inl (.inr e)) .inr))⟩)
  cases hd:isMark (ts[jj]'HI.out.par.lt) Hx.ydefault with
  | true =>
   have HD:=hide hd;clear hd;go_wp2_with fail;refine (skip_mark Hx.ydefault w2 b gt cap tb ts jj _ rfl (HI.out.par.below HB2.out)).mono ?_;rintro e w3 ⟨rfl,hp3,hk3⟩;rw [HD.out] at hp3 |-;have hp3':PIs w3 b gt cap tb ts (jj+1):=hp3;have ST:=STEP w3 (jj+1) true hp3' ((HI.out.tab.below HB2.out).kept hk3 (fun k hF e=>hgb (e ▸ hF))) ((HI.out.kept.below HB2.out).trans hk3 (fun _ e=>.inl (.inl e))) rfl;have hbm:=modes_dflt HI.out.par.lt HD.out (hgood _ HI.out.par.lt).out;have HBM:=hide hbm;have HO1:Hid (Hx.Ok [Hx.ydefault] (ts.drop jj) (ts.drop (jj+1))):=hide (by rw [drop_at HI.out.par.lt];exact Hx.mark_ok (hgood _ HI.out.par.lt).out _ (.inl (by decide)) _ HD.out);clear hp3 hp3' hk3 STEP hbm;go_wp2_with fail;refine ST.out.mono ?_;rintro e w4 ⟨ok,j4,g4,vm4,rfl,hR,hT4,hK4⟩;have HR:=hide hR;have HT4:=hide hT4;have HK4:=hide hK4;clear hR hT4 hK4 ST
   cases ok with
   | false =>
    go_wp2_with fail;go_ret;refine ⟨false,j4,_,_,rfl,HR.out.par,HT4.out,HK4.out,(fun e=>by cases e),fun _=>HI.out.okb _ ?_⟩;have hb:=HO1.out.bad (b:=[Hx.YMODE,Hx.YMODES]) (HR.out.bad rfl).cons;rw [drop_at HI.out.par.lt] at hb |-;exact Hx.Bad.becomes HBM.out hb
   | true =>
    have fin:Hid (∃ jj' g1' ext' vm1',ModesInv w b gt cap tb ts j base vt vv vs gs F i hi (ts.length-jj) jj' g1' ext' vm1' w4):=hide (by
     obtain ⟨ex,hgr,hlt4,hl4,ho4,hmd4,hss4⟩:=HR.out.good rfl;refine ⟨j4,g4,ext++ex,vm4,HR.out.par,HT4.out,HK4.out,HI.out.grow.trans hgr,by omega,hl4,by have:=HR.out.par.lt;omega,fun l' k=>HI.out.ok _ ?_,fun ln k=>HI.out.okb _ ?_,fun s hs=>?_,?_⟩
     ·have ho:=HO1.out.app (ho4.app k)
      rw [drop_at HI.out.par.lt] at ho |-;exact Hx.Ok.becomes HBM.out ho
     ·have hb:=HO1.out.bad (ho4.bad k)
      rw [drop_at HI.out.par.lt] at hb |-;exact Hx.Bad.becomes HBM.out hb
     ·have h1:=HI.out.ss s hs
      have h2:Hx.SS (ts.drop jj) i (gs[i].a.depth+1:Nat) false (s.modesS ext) (ts.drop (jj+1)) i (gs[i].a.depth+1:Nat) true (s.modesS ext):=by rw [drop_at HI.out.par.lt];exact Hx.SS.dflt (Hx.word_of (hgood _ HI.out.par.lt).out (by decide) HD.out)
      have h3:=hss4 (s.modesS ext) (by rw [Hx.modes_modes];simp [hs,HLN.out]);rw [HDP.out] at h3;have e5:s.modesS (ext++ex)=(s.modesS ext).modesS ex:=by simp [Hx.St.modesS]
      rw [e5];exact h1.trans (h2.trans h3)
     ·rw [HDP.out,HLN.out] at hmd4
      have h0:=HI.out.der;rw [drop_at HI.out.par.lt] at h0
      exact .dear h0 HD.out hmd4)
    go_wp2_with fail
    go_roundg (ts.length-jj)
    case measure=>omega
    case rel=>exact fin.out
  | false =>
   have HD:=hide hd;clear hd;go_wp2_with fail;refine (next_any w2 b gt cap tb ts jj (HI.out.par.below HB2.out)).mono ?_;rintro e w3 ⟨rfl,hb3⟩;have HB3:=hide (HB2.out.trans (hb3.mono HB2.out.size));clear hb3;go_wp2_with fail;refine (is_any (ts[jj]'HI.out.par.lt) _ w3).mono ?_;rintro e w4 ⟨rfl,hb4⟩;have HB4:=hide (HB3.out.trans (hb4.mono HB3.out.size));clear hb4;rw [show (⟨#[109,111,100,101]⟩ : ByteArray).toList=Hx.ymode by rw [Lib.toList_data]]
   cases hm:isMark (ts[jj]'HI.out.par.lt) Hx.ymode with
   | false =>
    have HM:=hide hm;clear hm STEP;go_wp2_with fail;go_ret;have hbm:=modes_done HI.out.par.lt HD.out HM.out (hgood _ HI.out.par.lt).out;refine ⟨true,jj,g1,vm1,rfl,HI.out.par.below HB4.out,HI.out.tab.below HB4.out,HI.out.kept.below HB4.out,fun _=>⟨ext,HI.out.grow,HI.out.le,HI.out.few,fun l' k=>HI.out.ok _ ?_,fun ln k=>HI.out.okb _ ?_,HI.out.der,HI.out.ss⟩,(fun e=>by cases e)⟩
    ·rw [drop_at HI.out.par.lt] at k |-;exact Hx.Ok.becomes hbm k
    ·rw [drop_at HI.out.par.lt] at k |-;exact Hx.Bad.becomes hbm k
   | true =>
    have HM:=hide hm;clear hm;go_wp2_with fail;refine (skip_mark Hx.ydefault w4 b gt cap tb ts jj _ rfl (HI.out.par.below HB4.out)).mono ?_;rintro e w5 ⟨rfl,hp5,hk5⟩;rw [HD.out] at hp5 |-;have hp5':PIs w5 b gt cap tb ts jj:=hp5;have ST:=STEP w5 jj false hp5' ((HI.out.tab.below HB4.out).kept hk5 (fun k hF e=>hgb (e ▸ hF))) ((HI.out.kept.below HB4.out).trans hk5 (fun _ e=>.inl (.inl e))) rfl;have hbm:=modes_mode HI.out.par.lt HD.out HM.out (hgood _ HI.out.par.lt).out;have HBM:=hide hbm;clear hp5 hp5' hk5 STEP hbm;go_wp2_with fail;refine ST.out.mono ?_;rintro e w6 ⟨ok,j4,g4,vm4,rfl,hR,hT4,hK4⟩;have HR:=hide hR;have HT4:=hide hT4;have HK4:=hide hK4;clear hR hT4 hK4 ST
    cases ok with
    | false =>
     go_wp2_with fail;go_ret;refine ⟨false,j4,_,_,rfl,HR.out.par,HT4.out,HK4.out,(fun e=>by cases e),fun _=>HI.out.okb _ ?_⟩;have hb:=(HR.out.bad rfl).app (b:=[Hx.YMODES]);rw [drop_at HI.out.par.lt] at hb |-;exact Hx.Bad.becomes HBM.out hb
    | true =>
     have fin:Hid (∃ jj' g1' ext' vm1',ModesInv w b gt cap tb ts j base vt vv vs gs F i hi (ts.length-jj) jj' g1' ext' vm1' w6):=hide (by
      obtain ⟨ex,hgr,hlt4,hl4,ho4,hmd4,hss4⟩:=HR.out.good rfl;refine ⟨j4,g4,ext++ex,vm4,HR.out.par,HT4.out,HK4.out,HI.out.grow.trans hgr,by omega,hl4,by have:=HR.out.par.lt;omega,fun l' k=>HI.out.ok _ ?_,fun ln k=>HI.out.okb _ ?_,fun s hs=>?_,?_⟩
      ·have ho:=ho4.app k
       rw [drop_at HI.out.par.lt] at ho |-;exact Hx.Ok.becomes HBM.out ho
      ·have hb:=ho4.bad k
       rw [drop_at HI.out.par.lt] at hb |-;exact Hx.Bad.becomes HBM.out hb
      ·have h1:=HI.out.ss s hs
       have h3:=hss4 (s.modesS ext) (by rw [Hx.modes_modes];simp [hs,HLN.out]);rw [HDP.out] at h3;have e5:s.modesS (ext++ex)=(s.modesS ext).modesS ex:=by simp [Hx.St.modesS]
       rw [e5];exact h1.trans h3
      ·rw [HDP.out,HLN.out] at hmd4
       have h0:=HI.out.der;rw [drop_at HI.out.par.lt] at h0 hmd4
       exact .more h0 HD.out HM.out hmd4)
     go_wp2_with fail
     go_roundg (ts.length-jj)
     case measure=>omega
     case rel=>exact fin.out
theorem modes_all (n:Nat):ModeC n:=by
 induction n with
 | zero=>intro w b gt cap tb ts j base vt vv vm vs gs F ai dflt h _ _ _ _ _ _ hn;exact absurd h.lt (by omega)
 | succ n ih=>exact mode_step n (modes_of n ih)
theorem takeMode_any:ModeC 3001:=modes_all 3001
end
section
open Go.RowKit
def varsS (s:Hx.St) (vs:List VarA):Hx.St:=vs.foldl (fun s v=>s.addVar v.name v.first v.last) s
inductive VarsD:List Hx.Tok->List VarA->List Hx.Tok->Prop
 | nil (l:List Hx.Tok):VarsD l [] l
 | snoc {l r:List Hx.Tok} {vs:List VarA} {va:VarA} {t x y:Hx.Tok} (h:VarsD l vs (t::va.name::va.first::x::va.last::y::r)) (ht:isMark t Hx.yvar=true):VarsD l (vs++[va]) r
def TabD (ts:List Hx.Tok) (vs:List VarA) (ms:List Hx.MA):Prop:=∃ t m e r,VarsD ts vs (t::m)/\isMark t Hx.yvar=false/\Hx.MD false (t::m) (-1) false 0 0 ms (e::r)/\e.k=101
structure TableR (w:World) (b gt cap tb:Nat) (ts:List Hx.Tok) (base:Nat) (vt:Value) (F:Nat->Prop) (ok:Bool) (j':Nat) (vs:List VarA) (gs':List MG) (vv' vm':Value) (w':World):Prop where
 par:PIs w' b gt cap tb ts j'
 tab:PT w' base tb vt vs gs' (fresh F w) vv' vm'
 kept:Kp (fun k=>k=b\/F k) w w'
 good:ok=true->Links gs'/\Hx.Run [Hx.YTABLE] ts 0/\TabD ts vs (gs'.map (·.a))/\vs.length<=3001/\gs'.length<=3001/\∃ n,Hx.senF n ts (-1) 0 false Hx.St.zero=some ((varsS Hx.St.zero vs).modesS (gs'.map (·.a)))
 bad:ok=false->Hx.Run [Hx.YTABLE] ts (ts[j']'par.lt).line
structure TableInv (w:World) (b gt cap tb:Nat) (ts:List Hx.Tok) (base:Nat) (vt:Value) (F:Nat->Prop) (vm:Value) (k jj:Nat) (vs:List VarA) (vv:Value) (wr:World):Prop where
 par:PIs wr b gt cap tb ts jj
 tab:PT wr base tb vt vs [] (fresh F w) vv vm
 kept:Kp (fun k=>k=b\/F k) w wr
 few:vs.length<=jj
 left:ts.length-jj<k
 ok:∀ l',Hx.Ok [Hx.YTABLE] (ts.drop jj) l'->Hx.Ok [Hx.YTABLE] ts l'
 okb:∀ ln,Hx.Bad [Hx.YTABLE] (ts.drop jj) ln->Hx.Bad [Hx.YTABLE] ts ln
 ss:Hx.SS ts (-1) 0 false Hx.St.zero (ts.drop jj) (-1) 0 false (varsS Hx.St.zero vs)
 der:VarsD ts vs (ts.drop jj)
section
variable {ts:List Hx.Tok} {j:Nat}
theorem table_var (hj:j<ts.length) (hm:isMark ts[j] Hx.yvar=true) (hg:Hx.Good ts[j]):Hx.becomesP Hx.YTABLE ts[j]=some [Hx.yvar,Hx.YNAME,Hx.YINT,Hx.yDd,Hx.YINT,Hx.ySc,Hx.YTABLE]:=by
 rw [Hx.mark_word hg _ (by decide)] at hm;show some (if Hx.isW ts[j] Hx.yvar then _ else _)=_;rw [if_pos hm]
theorem table_mode (hj:j<ts.length) (hm:isMark ts[j] Hx.yvar=false) (hg:Hx.Good ts[j]):Hx.becomesP Hx.YTABLE ts[j]=some [Hx.YMODE]:=by
 rw [Hx.mark_word hg _ (by decide)] at hm;show some (if Hx.isW ts[j] Hx.yvar then _ else _)=_;rw [if_neg (by simp [hm])]
end
theorem takeTable_any (w:World) (b gt cap tb:Nat) (ts:List Hx.Tok) (base:Nat) (vt vv vm:Value) (F:Nat->Prop) (h:PIs w b gt cap tb ts 0) (hT:PT w base tb vt [] [] F vv vm) (hFb:¬ F b) (hFg:¬ F gt) :
  Calls Tryz.prog 103 #[.pointer (some ⟨b,0,none⟩)] w fun e w'=>∃ ok j' vs gs' vv' vm',e=.returned (.bool ok)/\TableR w b gt cap tb ts base vt F ok j' vs gs' vv' vm' w':=by
 have hbl:=h.own;have hgl:=h.lies;have hfew:=h.ok.few;have hgood:∀ i (hi:i<ts.length),Hid (Hx.Good ts[i]):=fun i hi=>hide (h.ok.good _ (List.getElem_mem hi))
 have hgb:¬ fresh F w b:=fun h=>h.elim hFb (fun h=>by omega)
 have hgg:¬ fresh F w gt:=fun h=>h.elim hFg (fun h=>by omega)
 have H0:Hid (∃ jj vs vv',TableInv w b gt cap tb ts base vt F vm 3002 jj vs vv' w):=hide
  ⟨0,[],vv,h,hT.mono (fun _ h=>.inl h),Kp.refl _ _,by simp,by omega,fun _ k=>k,fun _ k=>k,Hx.SS.refl _ _ _ _ _,.nil _⟩
 clear hT;go_enter Tryz.func103,Tryz.ntmps103;go_wp2_with fail
 go_loopg [] 3002 (fun k wr=>∃ jj vs vv',TableInv w b gt cap tb ts base vt F vm k jj vs vv' wr)
 case atStart=>exact H0.out
 case round =>
  obtain ⟨jj,vs,vv1,hI⟩:=hrel;clear H0;have HI:=hide hI;clear hI;have hwr:=HI.out.kept.size;have hjl:=HI.out.par.lt;have hlf:=HI.out.left;have hfv:=HI.out.few;go_wp2_with fail;refine (next_any wr b gt cap tb ts jj HI.out.par).mono ?_;rintro e w1 ⟨rfl,hb1⟩;have HB1:=hide hb1;clear hb1;go_wp2_with fail;refine (is_any (ts[jj]'HI.out.par.lt) _ w1).mono ?_;rintro e w2 ⟨rfl,hb2⟩;have HB2:=hide (HB1.out.trans (hb2.mono HB1.out.size));clear hb2;rw [show (⟨#[118,97,114]⟩ : ByteArray).toList=Hx.yvar by rw [Lib.toList_data]];have hs2:=HB2.out.size;have hsub2:∀ W:World,w.heap.size<=W.heap.size->∀ k,fresh (fresh F w) W k->fresh F w k:=fun W hW k h=>h.elim id (fun h=>.inr (Nat.le_trans hW h))
  cases hm:isMark (ts[jj]'HI.out.par.lt) Hx.yvar with
  | true =>
   have HM:=hide hm;clear hm;have hbm:=table_var HI.out.par.lt HM.out (hgood _ HI.out.par.lt).out;have HBM:=hide hbm;clear hbm;go_wp2_with fail;refine (takeVar_any w2 b gt cap tb ts jj base vt vv1 vm vs [] (fresh F w) (HI.out.par.below HB2.out) HM.out (HI.out.tab.below HB2.out) hgb hgg (by omega)).mono ?_;rintro e w3 ⟨ok,j3,va,vv3,rfl,wx,hC,hP3,hT3,hK3⟩;have HC:=hide hC;have HP3:=hide hP3;have HT3:=hide (hT3.mono (hsub2 w2 (by omega)));have HK3:Hid (Kp (fun k=>k=b\/F k) w w3):=hide ((HI.out.kept.below HB2.out).trans hK3 (fun k e=>e.elim (fun e=>.inl (.inl e)) (fun e=>e.elim (fun e=>.inl (.inr e)) .inr)));clear hC hP3 hT3 hK3
   cases ok with
   | false =>
    go_wp2_with fail;go_ret;refine ⟨false,j3,_,_,_,_,rfl,HP3.out,HT3.out,HK3.out,(fun e=>by cases e),fun _=>?_⟩;have hb:=(HC.out.bad rfl).app (b:=[Hx.YTABLE]);have hb2:=HI.out.okb _ (by rw [drop_at HI.out.par.lt] at hb |-;exact Hx.Bad.becomes HBM.out hb);exact hb2 []
   | true =>
    have fin:Hid (∃ jj' vs' vv',TableInv w b gt cap tb ts base vt F vm (ts.length-jj) jj' vs' vv' w3):=hide (by
     obtain ⟨hj3,hok3,x,y,r,hdr,hr⟩:=HC.out.good rfl;subst hj3;have hjl3:=HP3.out.lt;refine ⟨jj+6,vs++[va],vv3,HP3.out,HT3.out,HK3.out,by simp;omega,by omega,fun l' k=>HI.out.ok _ ?_,fun ln k=>HI.out.okb _ ?_,HI.out.ss.trans ?_,?_⟩
     ·have ho:=hok3.app k
      rw [drop_at HI.out.par.lt] at ho |-;exact Hx.Ok.becomes HBM.out ho
     ·have hb:=hok3.bad k
      rw [drop_at HI.out.par.lt] at hb |-;exact Hx.Bad.becomes HBM.out hb
     ·rw [drop_at HI.out.par.lt,hdr,<- hr]
      have e5:varsS Hx.St.zero (vs++[va])=(varsS Hx.St.zero vs).addVar va.name va.first va.last:=by simp [varsS]
      rw [e5];exact Hx.SS.var (Hx.word_of (hgood _ HI.out.par.lt).out (by decide) HM.out)
     ·have h0:=HI.out.der
      rw [drop_at HI.out.par.lt,hdr] at h0;rw [<- hr]
      exact .snoc h0 HM.out)
    go_wp2_with fail
    go_roundg (ts.length-jj)
    case measure=>omega
    case rel=>exact fin.out
  | false =>
   have HM:=hide hm;clear hm;have hbm:=table_mode HI.out.par.lt HM.out (hgood _ HI.out.par.lt).out;have HBM:=hide hbm;clear hbm;have TM:=takeMode_any w2 b gt cap tb ts jj base vt vv1 vm vs [] (fresh F w) none false (HI.out.par.below HB2.out) (HI.out.tab.below HB2.out) (fun i k hk=>by simp at hk) hgb hgg (fun a e=>by cases e) (by simp) (by omega);have HTM:=hide TM;clear TM;go_wp2_with fail;refine HTM.out.mono ?_;rintro e w3 ⟨ok,j3,g3,vm3,rfl,hR⟩;have HR:=hide hR;have HT3:=hide (hR.tab.mono (hsub2 w2 (by omega)));have HK3:Hid (Kp (fun k=>k=b\/F k) w w3):=hide ((HI.out.kept.below HB2.out).trans hR.kept (fun k e=>e.elim (fun e=>.inl (.inl e)) (fun e=>e.elim (fun e=>.inl (.inr e)) .inr)));clear hR
   cases ok with
   | false =>
    go_wp2_with fail;go_ret;refine ⟨false,j3,_,_,_,_,rfl,HR.out.par,HT3.out,HK3.out,(fun e=>by cases e),fun _=>?_⟩;have hb:=HR.out.bad rfl;have hb2:=HI.out.okb _ (by rw [drop_at HI.out.par.lt] at hb |-;exact Hx.Bad.becomes HBM.out hb);exact hb2 []
   | true =>
    have hfk:=fun W=>field_kind W (kindA (ts[j3]'HR.out.par.lt).k) (ts[j3]'HR.out.par.lt).n (ts[j3]'HR.out.par.lt).line (ts[j3]'HR.out.par.lt).s
    go_wp2_with fail;refine (next_any w3 b gt cap tb ts j3 HR.out.par).mono ?_;rintro e w4 ⟨rfl,hb4⟩;rw [aggA_eq];have HB4:=hide hb4;clear hb4;obtain ⟨kd,hkd⟩ : ∃ kd,kd=kindA (ts[j3]'HR.out.par.lt).k:=⟨_,rfl⟩;rw [<- hkd] at hfk |-;have HKD:=hide hkd;clear hkd;obtain ⟨ex,hgr,hlt3,hl3,ho3,hmd3,hss3⟩:=HR.out.good rfl;have HGR:=hide hgr;have HO3:Hid (Hx.Ok [Hx.YTABLE] ts (ts.drop j3)):=hide (HI.out.ok _ (by rw [drop_at HI.out.par.lt] at ho3 |-;exact Hx.Ok.becomes HBM.out ho3));have HSS:=hide hss3;have HMD:=hide hmd3;have hg3l:g3.length<=3001:=by have:=HR.out.par.lt;omega
    have hvl:vs.length<=3001:=by omega
    clear hgr ho3 hss3 hmd3;have hgd:=(hgood _ HR.out.par.lt).out
    cases hk0:(kd == 0) with
    | true =>
     have hend:(ts[j3]'HR.out.par.lt).k=101:=by
      rw [HKD.out] at hk0;rcases hgd with h | h | h | ⟨h,_⟩ | ⟨h,_⟩
      ·exact h
      all_goals (rw [h] at hk0;simp [kindA] at hk0)
     have HEND:=hide hend;clear hend hgd;go_wp2_with fail;go_ret;refine ⟨true,j3,vs,g3,vv1,vm3,rfl,HR.out.par.below HB4.out,HT3.out.below HB4.out,HK3.out.below HB4.out,fun _=>⟨HGR.out.links,?_,?_,hvl,hg3l,?_⟩,(fun e=>by cases e)⟩
     ·have:=HO3.out [] 0 ⟨1,by rw [drop_at HR.out.par.lt];simp [Hx.runF,HEND.out]⟩
      exact this
     ·have ea:g3.map (·.a)=ex:=by have:=HGR.out.a;simpa using this
      rw [ea];have h0:=HI.out.der;have h1:=HMD.out;rw [drop_at HI.out.par.lt] at h0 h1;rw [drop_at HR.out.par.lt] at h1;exact ⟨_,_,_,_,h0,HM.out,h1,HEND.out⟩
     ·have ea:g3.map (·.a)=ex:=by have:=HGR.out.a;simpa using this
      rw [ea];have hz:(varsS Hx.St.zero vs).modes.length=([] : List MG).length:=by
       have:∀ (l:List VarA) (s:Hx.St),(varsS s l).modes=s.modes:=by
        intro l
        induction l with
        | nil=>intro s;rfl
        | cons v r ih=>intro s;simp only [varsS,List.foldl_cons] at ih |-;rw [ih];simp [Hx.St.addVar,Hx.St.number_modes,Hx.St.wrong_modes]
       rw [this];rfl
      have h1:=HI.out.ss.trans (HSS.out _ hz);exact h1 1 _ (by rw [drop_at HR.out.par.lt];simp [Hx.senF,HEND.out])
    | false =>
     have hend:¬ (ts[j3]'HR.out.par.lt).k=101:=fun h=>by rw [HKD.out,h] at hk0;simp [kindA] at hk0
     have HEND:=hide hend;clear hend hgd;go_wp2_with fail;go_ret;refine ⟨false,j3,vs,g3,vv1,vm3,rfl,HR.out.par.below HB4.out,HT3.out.below HB4.out,HK3.out.below HB4.out,(fun e=>by cases e),fun _=>?_⟩;exact HO3.out [] _ ⟨1,by rw [drop_at HR.out.par.lt];simp [Hx.runF,HEND.out]⟩
end
end Go.Proofs.YtdjaiolfdbamcaaGreatDoor
