/- Walks of the parser's takeRows. -/
import Derived.Test.YtdjaiolfdbamcaaGreatDoorZPTab
import Derived.Deep.LoopGhost
import Derived.Deep.RegionLaw
set_option maxRecDepth 20000
set_option maxHeartbeats 2000000
namespace Go.Proofs.YtdjaiolfdbamcaaGreatDoor
open Go.RowKit
theorem Tryz.infoRowA:(Tryz.prog.info? 232).map (fun i=>(i.zero,i.size,i.bytes))=some (some (.agg rowZ),10,104):=by kernel_rfl
def MG.withRows (m:MG) (rs:List Hx.RowA) (v:Value):MG:={ m with a:={ m.a with rows:=rs },vr:=v }
structure RowsR (w:World) (b gt cap tb:Nat) (ts:List Hx.Tok) (j base:Nat) (vt vv vm:Value) (vs:List VarA) (gs:List MG) (F:Nat->Prop) (i:Nat) (hi:i<gs.length) (ok:Bool) (j':Nat) (rs:List Hx.RowA) (v':Value) (w':World):Prop where
 par:PIs w' b gt cap tb ts j'
 tab:PT w' base tb vt vs (gs.set i (gs[i].withRows rs v')) (fresh F w) vv vm
 kept:Kp (fun k=>k=b\/F k) w w'
 le:ok=true->j<=j'
 few:ok=true->rs.length<=j'
 okr:ok=true->∀ l',Hx.Ok [Hx.YMODES] (ts.drop j') l'->Hx.Ok [Hx.YROWS] (ts.drop j) l'
 okb:ok=true->∀ ln,Hx.Bad [Hx.YMODES] (ts.drop j') ln->Hx.Bad [Hx.YROWS] (ts.drop j) ln
 bad:ok=false->Hx.Bad [Hx.YROWS] (ts.drop j) (ts[j']'par.lt).line
 ss:ok=true->∀ (inn dp:Int) (dear:Bool) (s:Hx.St),0<=inn/\inn<s.modes.length->Hx.SS (ts.drop j) inn dp dear s (ts.drop j') inn dp dear (s.rowsS inn.toNat rs)
 der:ok=true->Hx.RowsD (ts.drop j) rs (ts.drop j')/\isMark (ts[j']'par.lt) Hx.ywhen=false
structure RowsInv (w:World) (b gt cap tb:Nat) (ts:List Hx.Tok) (j base:Nat) (vt vv vm:Value) (vs:List VarA) (gs:List MG) (F:Nat->Prop) (i:Nat) (hi:i<gs.length) (k jj:Nat) (rs:List Hx.RowA) (v':Value) (wr:World):Prop where
 par:PIs wr b gt cap tb ts jj
 tab:PT wr base tb vt vs (gs.set i (gs[i].withRows rs v')) (fresh F w) vv vm
 kept:Kp (fun k=>k=b\/F k) w wr
 le:j<=jj
 few:rs.length<=jj
 left:ts.length-jj<k
 ok:∀ l',Hx.Ok [Hx.YROWS] (ts.drop jj) l'->Hx.Ok [Hx.YROWS] (ts.drop j) l'
 okb:∀ ln,Hx.Bad [Hx.YROWS] (ts.drop jj) ln->Hx.Bad [Hx.YROWS] (ts.drop j) ln
 ss:∀ (inn dp:Int) (dear:Bool) (s:Hx.St),0<=inn/\inn<s.modes.length->Hx.SS (ts.drop j) inn dp dear s (ts.drop jj) inn dp dear (s.rowsS inn.toNat rs)
 der:Hx.RowsD (ts.drop j) rs (ts.drop jj)
section
variable {ts:List Hx.Tok} {j j' ln:Nat}
theorem rows_more (hj:j<ts.length) (hm:isMark ts[j] Hx.ywhen=true) (hg:Hx.Good ts[j]):Hx.becomesP Hx.YROWS ts[j]=some [Hx.ywhen,Hx.YGUARD,Hx.YDOES,Hx.ySc,Hx.YROWS]:=by
 rw [Hx.mark_word hg _ (by decide)] at hm;show some (if Hx.isW ts[j] Hx.ywhen then _ else _)=_;rw [if_pos hm]
theorem rows_done (hj:j<ts.length) (hm:isMark ts[j] Hx.ywhen=false) (hg:Hx.Good ts[j]):Hx.becomesP Hx.YROWS ts[j]=some [Hx.YMODES]:=by
 rw [Hx.mark_word hg _ (by decide)] at hm;show some (if Hx.isW ts[j] Hx.ywhen then _ else _)=_;rw [if_neg (by simp [hm])]
end
theorem PT.addRowW {w w':World} {base tb:Nat} {vt vv vm v v':Value} {vs:List VarA} {gs:List MG} {F:Nat->Prop} {rs:List Hx.RowA} {r:Hx.RowA} {i:Nat} (hi:i<gs.length) (h:PT w base tb vt vs (gs.set i (gs[i].withRows rs v)) F vv vm) (hg:w.grownBy w' v.ownBlock)
  (ho:w'.ownsRow base 232 10 v' (rs.length+1) (rs.flatMap rowC++rowC r)) (hat:v'.ownBlock=v.ownBlock\/v'.ownBlock=some w.heap.size) :
  PT (w'.setCell ⟨gs[i].blk,7,none⟩ v') base tb vt vs (gs.set i (gs[i].withRows (rs++[r]) v')) (fresh F w) vv vm/\Kp F w (w'.setCell ⟨gs[i].blk,7,none⟩ v')/\w'.cell? ⟨gs[i].blk,7,none⟩=some v/\w'.frozen? ⟨gs[i].blk,7,none⟩=false:=by
 have hi1:i<(gs.set i (gs[i].withRows rs v)).length:=by simpa using hi
 have hget:(gs.set i (gs[i].withRows rs v))[i]'hi1=gs[i].withRows rs v:=by simp
 have:=PT.addRow (r:=r) (v':=v') h hi1 (by rw [hget];exact hg) (by rw [hget];exact ho) (by rw [hget];exact hat);rw [hget,List.set_set] at this;exact this
theorem rowC_cells (r:Hx.RowA):∃ c0 c1 c2 c3 c4 c5 c6 c7 c8 c9,rowC r=[c0,c1,c2,c3,c4,c5,c6,c7,c8,c9]:=by
 obtain ⟨wh,g,dest,_,_⟩:=r
 cases dest with
 | none=>exact ⟨_,_,_,_,_,_,_,_,_,_,rfl⟩
 | some t=>exact ⟨_,_,_,_,_,_,_,_,_,_,rfl⟩
theorem rowC_one (r:Hx.RowA):∀ u∈rowC r,u.oneCell'=true:=by
 obtain ⟨wh,g,dest,_,_⟩:=r;have hg:(gval g).oneCell'=true:=by rcases gval_if g with e | ⟨T,x,e⟩ <;> rw [e] <;> rfl
 intro u hu
 cases dest with
 | none=>simp [rowC,destC] at hu;rcases hu with rfl | rfl | rfl | rfl | rfl | rfl | rfl | rfl | rfl | rfl <;> first | exact hg | rfl
 | some t=>simp [rowC,destC] at hu;rcases hu with rfl | rfl | rfl | rfl | rfl | rfl | rfl | rfl | rfl | rfl <;> first | exact hg | rfl
theorem takeRows_any (w:World) (b gt cap tb:Nat) (ts:List Hx.Tok) (j base:Nat) (vt vv vm:Value) (vs:List VarA) (gs:List MG) (F:Nat->Prop) (i:Nat) (hi:i<gs.length) (h:PIs w b gt cap tb ts j)
  (hT:PT w base tb vt vs gs F vv vm) (hFb:¬ F b) (hFg:¬ F gt) (hr0:gs[i].a.rows=[]) :
  Calls Tryz.prog 198 #[.pointer (some ⟨b,0,none⟩),.pointer (some ⟨gs[i].blk,0,none⟩)] w fun e w'=>∃ ok j' rs v',e=.returned (.bool ok)/\RowsR w b gt cap tb ts j base vt vv vm vs gs F i hi ok j' rs v' w':=by
 have hbl:=h.own;have hgl:=h.lies;have hgood:∀ i (hi:i<ts.length),Hid (Hx.Good ts[i]):=fun i hi=>hide (h.ok.good _ (List.getElem_mem hi))
 have hfew:=h.ok.few
 have H0:Hid (∃ jj rs v',RowsInv w b gt cap tb ts j base vt vv vm vs gs F i hi 3002 jj rs v' w):=hide (by
  refine ⟨j,[],gs[i].vr,h,?_,Kp.refl _ _,Nat.le_refl _,by simp,by omega,fun _ k=>k,fun _ k=>k,fun inn dp dear s _=>Hx.SS.refl _ _ _ _ _,.nil _⟩;have e:gs.set i (gs[i].withRows [] gs[i].vr)=gs:=by
   refine set_same _ _ _ ?_;rw [List.getElem?_eq_getElem hi,MG.withRows,<- hr0]
  rw [e];exact hT.mono (fun _ h=>.inl h))
 have hgb:¬ fresh F w b:=fun h=>h.elim hFb (fun h=>by omega)
 have hgg:¬ fresh F w gt:=fun h=>h.elim hFg (fun h=>by omega)
 obtain ⟨mb,hmb⟩ : ∃ mb,mb=gs[i].blk:=⟨_,rfl⟩;rw [<- hmb];have HMB:=hide hmb;clear hT hmb hr0;go_enter Tryz.func198,Tryz.ntmps198;go_wp2_with fail
 go_loopg [] 3002 (fun k wr=>∃ jj rs v',RowsInv w b gt cap tb ts j base vt vv vm vs gs F i hi k jj rs v' wr)
 case atStart=>exact H0.out
 case round =>
  obtain ⟨jj,rs,v',hI⟩:=hrel;clear H0;have HI:=hide hI;clear hI;have hwr:=HI.out.kept.size;have hjl:=HI.out.par.lt;have hle:=HI.out.le;have hlf:=HI.out.left;have hfr:=HI.out.few;go_wp2_with fail;refine (next_any wr b gt cap tb ts jj HI.out.par).mono ?_;rintro e w1 ⟨rfl,hb1⟩;have HB1:=hide hb1;clear hb1;go_wp2_with fail;refine (is_any (ts[jj]'HI.out.par.lt) _ w1).mono ?_;rintro e w2 ⟨rfl,hb2⟩;have HB2:=hide (HB1.out.trans (hb2.mono HB1.out.size));clear hb2;rw [show (⟨#[119,104,101,110]⟩ : ByteArray).toList=Hx.ywhen by rw [Lib.toList_data]];have hs2:=HB2.out.size
  cases hm:isMark (ts[jj]'HI.out.par.lt) Hx.ywhen with
  | false =>
   have HM:=hide hm;clear hm;go_wp2_with fail;go_ret;have hb:=rows_done HI.out.par.lt HM.out (hgood _ HI.out.par.lt).out;refine ⟨true,jj,rs,v',rfl,HI.out.par.below HB2.out,HI.out.tab.below HB2.out,HI.out.kept.below HB2.out,fun _=>HI.out.le,fun _=>HI.out.few,fun _ l' k=>HI.out.ok _ ?_,fun _ ln k=>HI.out.okb _ ?_,(fun e=>by cases e),fun _=>HI.out.ss,fun _=>⟨HI.out.der,HM.out⟩⟩
   ·rw [drop_at HI.out.par.lt] at k |-;exact Hx.Ok.becomes hb k
   ·rw [drop_at HI.out.par.lt] at k |-;exact Hx.Bad.becomes hb k
  | true =>
   have HM:=hide hm;clear hm;have hne1:w2.heap.size≠b:=by omega
   have hne2:w2.heap.size≠gt:=by omega
   have hb':=rows_more HI.out.par.lt HM.out (hgood _ HI.out.par.lt).out;have HBM:=hide hb';clear hb';go_wp2_with fail;refine (takeRow_any _ b gt cap tb ts jj w2.heap.size ((HI.out.par.below HB2.out).below ((Below.refl _ _).alloc (Nat.le_refl _) _)) hne1 hne2 HM.out (heap_alloc_new _ _)).mono ?_;rintro e w3 ⟨ok,j3,rfl,hR⟩;have HR:=hide hR;have HK3:Hid (Kp (fun k=>k=b\/F k) w w3):=hide (((HI.out.kept.below HB2.out).alloc _).trans hR.kept (fun _ e=>e.elim (fun e=>.inl (.inl e)) (fun e=>.inr (by omega))))
   have HT3:Hid (PT w3 base tb vt vs (gs.set i (gs[i].withRows rs v')) (tight (fresh F w) w2) vv vm):=hide (by
    have t2:=(HI.out.tab.below HB2.out);have t3:PT w2 base tb vt vs (gs.set i (gs[i].withRows rs v')) (tight (fresh F w) w2) vv vm:=⟨t2.mem,fun k hk=>⟨t2.inF k hk,by obtain ⟨i,r,hr,e⟩:=hk;exact (t2.mem.lt hr e).2⟩,t2.low⟩;refine (t3.below ((Below.refl _ _).alloc (Nat.le_refl _) _)).kept hR.kept (fun k hk e=>?_);rcases e with e | e
    ·exact hgb (e ▸ hk.1)
    ·have:=hk.2;omega)
   clear hR
   cases ok with
   | false =>
    go_wp2_with fail;go_ret;refine ⟨false,j3,rs,v',rfl,HR.out.par,HT3.out.mono (fun _ h=>h.1),HK3.out,(fun e=>by cases e),(fun e=>by cases e),(fun e=>by cases e),(fun e=>by cases e),fun _=>HI.out.okb _ ?_,(fun e=>by cases e),(fun e=>by cases e)⟩;have:=HR.out.bad rfl;rw [drop_at HI.out.par.lt] at this |-;exact Hx.Bad.becomes HBM.out (this.app (b:=[Hx.YROWS]))
   | true =>
    obtain ⟨r,hbox,hj3,hok3,hder3,hss3⟩:=HR.out.good rfl;have hget:(gs.set i (gs[i].withRows rs v'))[i]'(by simpa using hi)=gs[i].withRows rs v':=by simp
    have hi1:i<(gs.set i (gs[i].withRows rs v')).length:=by simpa using hi
    have hO:=HT3.out.mem.own _ _ (pt_at1 hi1);rw [hget] at hO;have hO':w3.ownsRow base 232 10 v' rs.length (rs.flatMap rowC):=hO;obtain ⟨av,cv,hvv,_,_⟩:=row_shape hO';obtain ⟨hmc,hmf,hmb1,hmb2,hmF⟩:=HT3.out.modeCells hi1;rw [hget] at hmc hmf hmb1 hmb2 hmF;have m7:w3.cell? ⟨mb,7,none⟩=some (.slice av rs.length cv):=by rw [HMB.out,<- hvv];exact hmc 7 (by omega)
    have f7:w3.frozen? ⟨mb,7,none⟩=false:=by rw [HMB.out];exact hmf 7
    obtain ⟨c0,c1,c2,c3,c4,c5,c6,c7,c8,c9,hrc⟩:=rowC_cells r;have hbox':=hbox;rw [hrc] at hbox';obtain ⟨x0,x1,x2,x3,x4,x5,x6,x7,x8,x9⟩:=cells10 (w:=w3) (A:=w2.heap.size) hbox';have hVl:w2.heap.size<w3.heap.size:=(Array.getElem?_eq_some_iff.1 hbox).1;have H1C:Hid (∀ u∈[c0,c1,c2,c3,c4,c5,c6,c7,c8,c9],u.oneCell'=true):=hide (by rw [<- hrc];exact rowC_one r);have HML:Hid (rs.length+1<=maxLen):=hide (by unfold maxLen;omega);have HBY:Hid ((rs.length+1)*104<=140737488355328):=hide (by omega);have HO:=hide hO';have hlow:=HT3.out.low;have HRC:=hide hrc;have HVV:=hide hvv;have HSS:=hide hss3;have HDER:=hide hder3;have HOK3:=hide hok3;have hmb2':mb<w3.heap.size:=by rw [HMB.out];exact hmb2
    have hmne:mb≠w2.heap.size:=by have:=hmF.2;rw [HMB.out];exact fun e=>by have h2:gs[i].blk<w2.heap.size:=this;omega
    clear hbox hbox' hO hO' hmc hmf hmb1 hmb2 hmF hrc hss3 hok3 hder3;obtain ⟨i0,hi0,hz0,hz1,hz2⟩:=info_parts Tryz.infoRowA;go_wp2_with fail
    go_region_law (refine step_append_own_at rfl _ _ 169 rfl base 232 i0 _ 10 104 Tryz.underlying169 hi0 hz0 hz1 hz2 rfl (by decide) _ rs.length (rs.flatMap rowC) HVV.out.symm (by exact own_below HO.out ⟨rfl,rfl,rfl,by simp,fun k hk=>Below.heap_alloc _ _ _ hk⟩) ⟨_,0,none⟩ 1 1 [c0,c1,c2,c3,c4,c5,c6,c7,c8,c9] rfl rfl (news_new _ _ (by simp) [c0,c1,c2,c3,c4,c5,c6,c7,c8,c9] _) H1C.out HML.out HBY.out (by simp;omega) ?_;intro v7 w7 hown' hgrow hat;obtain ⟨av7,cv7,rfl,_,_⟩:=row_shape hown';obtain ⟨hfin,hkp,e5,e6⟩:=PT.addRowW (r:=r) hi (HT3.out.below (by exact ⟨rfl,rfl,rfl,by simp,fun k hk=>Below.heap_alloc _ _ _ hk⟩)) hgrow (HRC.out ▸ hown') hat;rw [<- HMB.out] at hfin hkp e5 e6;have HFIN:=hide hfin;have HKP:=hide hkp;clear hfin hkp hown' hgrow hat)
    all_goals
     have hbel:Below w3.heap.size w3 (w3.drew.alloc (.cells [c0,c1,c2,c3,c4,c5,c6,c7,c8,c9].toArray 232)):=⟨rfl,rfl,rfl,by simp,fun k hk=>Below.heap_alloc _ _ _ hk⟩;have hnb:¬ tight (fresh F w) w2 b:=fun h=>hgb h.1
     have hng:¬ tight (fresh F w) w2 gt:=fun h=>hgg h.1
     have hPI:=(HR.out.par.below hbel).kp HKP.out hnb hng;have hKK:=(HK3.out.below hbel).trans HKP.out (fun k h=>h.1.elim (fun h=>.inl (.inr h)) .inr);have hPT:=HFIN.out.mono (G:=fresh F w) (fun k h=>h.elim (fun h=>h.1) (fun h=>.inr (by have:(w3.drew.alloc (.cells [c0,c1,c2,c3,c4,c5,c6,c7,c8,c9].toArray 232)).heap.size<=k:=h;simp at this;omega)))
     have fin:Hid (RowsInv w b gt cap tb ts j base vt vv vm vs gs F i hi (ts.length-jj) j3 (rs++[r]) (.slice av7 (rs.length+1) cv7) (w7.setCell ⟨mb,7,none⟩ (.slice av7 (rs.length+1) cv7))):=hide (by
      refine ⟨hPI,hPT,hKK,by omega,by simp;omega,by have:=HR.out.par.lt;omega,fun l' k=>HI.out.ok _ ?_,fun ln k=>HI.out.okb _ ?_,fun inn dp dear s hin=>?_,.snoc HI.out.der HDER.out⟩
      ·have h1:=HOK3.out
       rw [drop_at HI.out.par.lt] at h1 |-;exact Hx.Ok.becomes HBM.out (h1.app k)
      ·have h1:=HOK3.out
       rw [drop_at HI.out.par.lt] at h1 |-;exact Hx.Bad.becomes HBM.out (h1.bad k)
      ·rw [Hx.rows_snoc]
       exact (HI.out.ss inn dp dear s hin).trans (HSS.out inn dp dear _ ⟨hin.1,by rw [Hx.rows_len];exact hin.2⟩))
     clear hPI hKK hPT HFIN HKP e5 e6 hbel;go_wp2_with fail
     go_roundg (ts.length-jj)
     case measure=>omega
     case rel=>exact ⟨_,_,_,fin.out⟩
end Go.Proofs.YtdjaiolfdbamcaaGreatDoor
