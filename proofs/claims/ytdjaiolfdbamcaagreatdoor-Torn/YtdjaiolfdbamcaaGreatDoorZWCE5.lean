/- The walk of appendRow. -/
import Derived.Test.YtdjaiolfdbamcaaGreatDoorZWCE3
set_option maxRecDepth 20000
set_option maxHeartbeats 4000000
namespace Go.Proofs.YtdjaiolfdbamcaaGreatDoor
section
open Go.RowKit
attribute [local go_sem ↓] Go.wp_at_zero Go.wp_at_succ
def rOk (vs:List VarA) (gs:List MG) (r:Hx.RowA):Prop:=gOk vs r.g/\∀ a,r.dest=some a->gs.any (sameM a.s)=true
theorem appendRow_any (c wb tb base:Nat) (vt vv vm lv:Value) (vs:List VarA) (gs:List MG) (hok:TabOk vs gs) (r:Hx.RowA) (w:World) (v:Value) (n:Nat) (xs:List Value) (h:EmC w c wb tb base vt vv vm lv vs gs) (hr:rOk vs gs r) (ho:w.ownsRow c 5 1 v n xs) (hn:n+(Cx.rowCode vs (gs.map (·.a)) r).length<=80000) :
  Calls Tryz.prog 121 #[.pointer (some ⟨wb,0,none⟩),v,.agg (rowC r).toArray] w fun e w'=>∃ v',e=.returned v'/\Gr c w w' 5 1 v v' (n+(Cx.rowCode vs (gs.map (·.a)) r).length) (xs++(Cx.rowCode vs (gs.map (·.a)) r).map Cx.bV):=by
 obtain ⟨wh,g,dest,hdo,hdp⟩:=r;obtain ⟨Tl,xl,hgl⟩:=gval_iface g;have hBr:Below w.heap.size w ((w.alloc (.cells (rowC ⟨wh,g,dest,hdo,hdp⟩).toArray 232)).alloc (.cells #[.int .u8 0] 5)):=((below_a _ _).trans ((below_a _ _).mono (by simp)));have hz:((w.alloc (.cells (rowC ⟨wh,g,dest,hdo,hdp⟩).toArray 232)).alloc (.cells #[.int .u8 0] 5)).heap.size=w.heap.size+2:=by simp
 have hRB:((w.alloc (.cells (rowC ⟨wh,g,dest,hdo,hdp⟩).toArray 232)).alloc (.cells #[.int .u8 0] 5)).heap[w.heap.size]? = some (.cells (rowC ⟨wh,g,dest,hdo,hdp⟩).toArray 232 (0,0)):=((below_a _ _).block w.heap.size (by simp)).trans (heap_alloc_new w _);have hEB:((w.alloc (.cells (rowC ⟨wh,g,dest,hdo,hdp⟩).toArray 232)).alloc (.cells #[.int .u8 0] 5)).heap[w.heap.size+1]? = some (.cells #[.int .u8 0] 5 (0,0)):=by
  have:=heap_alloc_new (w.alloc (.cells (rowC ⟨wh,g,dest,hdo,hdp⟩).toArray 232)) (.cells #[.int .u8 0] 5);simpa using this
 obtain ⟨W0,hW0⟩ : ∃ W0,W0=(w.alloc (.cells (rowC ⟨wh,g,dest,hdo,hdp⟩).toArray 232)).alloc (.cells #[.int .u8 0] 5):=⟨_,rfl⟩;rw [<- hW0] at hBr hz hRB hEB
 have HG:Hid (∀ Y,Below w.heap.size w Y->Calls Tryz.prog 171 #[.pointer (some ⟨wb,0,none⟩),v,.iface Tl xl] Y fun e w'=>∃ v',e=.returned v'/\Gr c Y w' 5 1 v v' (n+(Cx.gCode vs g).length) (xs++(Cx.gCode vs g).map Cx.bV)):=hide (fun Y hY=>by
  have:=appendGuard_any c wb tb base vt vv vm lv vs gs hok g Y v n xs (h.below hY) hr.1 (own_below ho hY) (by simp [Cx.rowCode] at hn;omega)
  rw [hgl] at this;exact this)
 have hvb:∀ k,v.ownBlock=some k->k<w.heap.size:=fun k hk=>(ho.lt k hk).2
 obtain ⟨i0,hi0,hz0,hz1,hz2⟩:=info_parts Tryz.infoByte;have hle:=h.le
 cases dest with
 | none =>
  have hcode:Cx.rowCode vs (gs.map (·.a)) ⟨wh,g,none,hdo,hdp⟩=Cx.gCode vs g++[2]++Cx.two 1++[0]:=rfl;rw [hcode] at hn |-;rw [show (rowC ⟨wh,g,none,hdo,hdp⟩).toArray=#[.int .i64 (kindA wh.k),.string wh.s,.int .i64 wh.n,.int .i64 wh.line,.iface Tl xl,.bool true,.int .i64 0,.string ⟨#[]⟩,.int .i64 0,.int .i64 0] by rw [<- hgl];rfl] at hW0 hRB |-;obtain ⟨av,cv,rfl,_,_⟩:=row_shape ho;clear h ho hr hcode hgl;go_enter Tryz.func121,Tryz.ntmps121;go_upto_region 4 with (fail);rw [<- hW0];clear hW0;have r4:W0.cell? ⟨w.heap.size,4,none⟩=some (.iface Tl xl):=Lib.cell_of_heap hRB 4;have hlen:n+(Cx.gCode vs g).length<=79000+1000:=by simp at hn;omega
  have hEl:w.heap.size+1<W0.heap.size:=by omega
  have hEv:∀ j u,([.int .u8 0] : List Value)[j]? = some u->W0.cell? ⟨w.heap.size+1,j,none⟩=some u:=fun j u hu=>by rw [Lib.cell_of_heap hEB j];simpa using hu
  clear hn hEB hRB;go_wp2_with fail;refine (HG.out _ hBr).mono ?_;rintro e w1 ⟨v1,rfl,hG1⟩;obtain ⟨hc1,hv1,hb1⟩:=gx_box (b:=w.heap.size+1) hG1 hEl (fun k hk=>by have:=hvb k hk;omega);obtain ⟨a1,c1,rfl,_,_⟩:=row_shape hG1.own;have HG1:=hide (hG1.after hBr);have hs1:=HG1.out.kept.size;clear hG1 HG;go_wp2_with (at_builtin;refine wpList_append_own_at _ rfl _ _ 64 rfl c 5 i0 _ 1 1 Tryz.underlying64 hi0 hz0 hz1 hz2 rfl (by decide) _ (n+(Cx.gCode vs g).length) _ rfl (own_below HG1.out.own (below_a _ _)) ⟨w1.heap.size,0,none⟩ 1 1 [.int .u8 2] rfl rfl (news_new _ _ rfl [_] _) (ones1 rfl) ?c3 ?c4 ?c5 ?_)
  case c3=>unfold maxLen;omega
  case c4=>omega
  case c5=>simp;omega
  intro v2 w2 hown hgrow _ hat;have hG2:=gr_made hown hgrow (by simpa using hat);obtain ⟨hc2,hv2,hb2⟩:=gx_box (b:=w.heap.size+1) hG2 hb1 hv1;have HG2:=hide (HG1.out.trans hG2);have hs2:=HG2.out.kept.size;obtain ⟨a2,c2,rfl,_,_⟩:=row_shape hG2.own;clear hown hgrow hat hG2 HG1;go_wp2_with fail;refine (AppendTwo_any w2 c _ _ _ 1 HG2.out.own (by omega) (by omega)).mono ?_;rintro e w3 ⟨v3,rfl,hG3⟩;obtain ⟨hc3,hv3,hb3⟩:=gx_box (b:=w.heap.size+1) hG3 hb2 hv2;have HG3:=hide (HG2.out.trans hG3);have hs3:=HG3.out.kept.size;obtain ⟨a3,c3,rfl,_,_⟩:=row_shape hG3.own
  have HEV:Hid (∀ j u,([.int .u8 0] : List Value)[j]? = some u->w3.cell? ((⟨w.heap.size+1,0,none⟩ : Addr).add j)=some u):=hide (fun j u hu=>by
   have e1:((⟨w.heap.size+1,0,none⟩ : Addr).add j)=⟨w.heap.size+1,j,none⟩:=by simp [Addr.add];omega
   rw [e1,hc3,hc2,hc1]
   exact hEv j u hu)
  clear hG3 HG2 hc1 hc2 hc3 hv1 hv2 hv3 hb1 hb2 hb3;go_wp2_with (at_builtin;refine wpList_append_own_at _ rfl _ _ 64 rfl c 5 i0 _ 1 1 Tryz.underlying64 hi0 hz0 hz1 hz2 rfl (by decide) _ (n+(Cx.gCode vs g).length+1+2) _ rfl HG3.out.own ⟨w.heap.size+1,0,none⟩ 1 1 [.int .u8 0] rfl rfl HEV.out ?c2 ?c3 ?c4 ?c5 ?_)
  case c2=>intro u hu;simp at hu;subst hu;rfl
  case c3=>unfold maxLen;omega
  case c4=>omega
  case c5=>omega
  intro v4 w4 hown hgrow _ hat;have hG4:=HG3.out.trans (gr_grown hown hgrow hat)
  have HG4:Hid (Gr c w w4 5 1 (.slice av n cv) v4 (n+(Cx.gCode vs g++[2]++Cx.two 1++[0]).length) (xs++(Cx.gCode vs g++[2]++Cx.two 1++[0]).map Cx.bV)):=hide (by
   have e1:n+(Cx.gCode vs g++[2]++Cx.two 1++[0]).length=n+(Cx.gCode vs g).length+1+2+1:=by simp [Cx.two];omega
   have e2:(Cx.gCode vs g++[2]++Cx.two 1++[0]).map Cx.bV=(Cx.gCode vs g).map Cx.bV++[.int .u8 2]++(Cx.two 1).map Cx.bV++[.int .u8 0]:=by simp [Cx.bV]
   rw [e1,e2]
   simpa [List.append_assoc] using hG4)
  clear hown hgrow hat hG4 HG3;go_wp2_with fail;go_ret;exact ⟨_,rfl,HG4.out⟩
 | some a =>
  have hnr:Cx.endCode (gs.map (·.a)) ⟨wh,g,some a,hdo,hdp⟩=[1,UInt8.ofNat (Cx.numberOf (gs.map (·.a)) (Cx.modeIx (gs.map (·.a)) a.s))]:=rfl;have hany:=hr.2 a rfl;have hix:gs.findIdx (sameM a.s)<gs.length:=List.findIdx_lt_length_of_exists (List.any_eq_true.1 hany);have hmx:Cx.modeIx (gs.map (·.a)) a.s<gs.length:=by rw [Cx.modeIx,modeIx_any];exact hix
  have HF:Hid (∀ Y,Below w.heap.size w Y->Calls Tryz.prog 170 #[.pointer (some ⟨tb,0,none⟩),.string a.s] Y fun e w'=>e=.returned (ptrV (bl gs (Cx.modeIx (gs.map (·.a)) a.s)))/\Below Y.heap.size Y w'):=hide (fun Y hY=>Find_any Y base tb vt vv vm vs gs _ (h.pt.below hY) (by have:=hok.modes;omega) a.s hany);have HN:Hid (∀ Y,Below w.heap.size w Y->Calls Tryz.prog 80 #[.pointer (some ⟨wb,0,none⟩),ptrV (bl gs (Cx.modeIx (gs.map (·.a)) a.s))] Y fun e w'=>e=.returned (.int .i64 (Cx.numberOf (gs.map (·.a)) (Cx.modeIx (gs.map (·.a)) a.s)))/\Below Y.heap.size Y w'):=hide (fun Y hY=>numberOf_any Y c wb tb base vt vv vm lv vs gs (h.below hY) hok _ hmx);have hcode:Cx.rowCode vs (gs.map (·.a)) ⟨wh,g,some a,hdo,hdp⟩=Cx.gCode vs g++[2]++Cx.two 2++[1,UInt8.ofNat (Cx.numberOf (gs.map (·.a)) (Cx.modeIx (gs.map (·.a)) a.s))]:=rfl;rw [hcode] at hn |-;generalize Cx.numberOf (gs.map (·.a)) (Cx.modeIx (gs.map (·.a)) a.s)=nr at *;generalize bl gs (Cx.modeIx (gs.map (·.a)) a.s)=mb at *;rw [show (rowC ⟨wh,g,some a,hdo,hdp⟩).toArray=#[.int .i64 (kindA wh.k),.string wh.s,.int .i64 wh.n,.int .i64 wh.line,.iface Tl xl,.bool false,.int .i64 (kindA a.k),.string a.s,.int .i64 a.n,.int .i64 a.line] by rw [<- hgl];rfl] at hW0 hRB |-;have hwl:wb<w.heap.size:=Nat.lt_of_lt_of_le h.lt h.le;have xw:W0.cell? ⟨wb,0,none⟩=some (.pointer (some ⟨tb,0,none⟩)):=(hBr.cell (p:=⟨wb,0,none⟩) hwl).trans (Lib.cell_of_heap h.box 0);have x7:W0.cell? ⟨w.heap.size,7,none⟩=some (.string a.s):=Lib.cell_of_heap hRB 7;have hwW:wb<W0.heap.size:=by omega
  have hrW:w.heap.size<W0.heap.size:=by omega
  obtain ⟨av,cv,rfl,_,_⟩:=row_shape ho;have hlen:n+(Cx.gCode vs g).length<=79000+1000:=by simp at hn;omega
  clear h ho hr hcode hgl hnr hany hix hmx hn;unfold ptrV at HF HN;go_enter Tryz.func121,Tryz.ntmps121;go_upto_region 3 with (fail);rw [<- hW0];clear hW0
  go_region_held3 (fun Y=>Y.cell? ⟨wb,0,none⟩=some (.pointer (some ⟨tb,0,none⟩))/\Y.cell? ⟨w.heap.size,7,none⟩=some (.string a.s)) (first | go_keep | (exact ⟨by with_reducible assumption,by with_reducible assumption⟩))
   (first
    | (go_at_call 170;refine (HF.out _ ?_).mono ?_;exact hBr.trans ((below_d _).mono hBr.size);rintro e wf ⟨rfl,hbf⟩;have hBf:=hBr.trans (((below_d W0).trans (hbf.mono (below_d W0).size)).mono hBr.size);have yw:=(hbf.cell (p:=⟨wb,0,none⟩) hwW).trans xw;have y7:=(hbf.cell (p:=⟨w.heap.size,7,none⟩) hrW).trans x7;have hsf:=hbf.size)
    | (go_at_call 80;refine (HN.out _ hBf).mono ?_;rintro e wn ⟨rfl,hbn⟩;have zw:=(hbn.cell (p:=⟨wb,0,none⟩) (Nat.lt_of_lt_of_le hwW hsf)).trans yw;have z7:=(hbn.cell (p:=⟨w.heap.size,7,none⟩) (Nat.lt_of_lt_of_le hrW hsf)).trans y7))
  have hBn:Below w.heap.size w wn:=hBf.trans (hbn.mono (by have:=hBf.size;omega));have hBW:Below w.heap.size w (wn.alloc (.cells #[.int .u8 1,.int .u8 (IntKind.u8.wrap nr)] 5)):=hBn.trans ((below_a _ _).mono hBn.size);have hEv:∀ j u,([.int .u8 1,.int .u8 ((nr:Int) % 256)] : List Value)[j]? = some u->(wn.alloc (.cells #[.int .u8 1,.int .u8 (IntKind.u8.wrap nr)] 5)).cell? ⟨wn.heap.size,j,none⟩=some u:=fun j u hu=>by
   have hwr:IntKind.u8.wrap (nr:Int)=(nr:Int) % 256:=rfl;rw [Lib.cell_of_heap (heap_alloc_new wn _) j,hwr];simpa using hu
  have hEl:wn.heap.size<(wn.alloc (.cells #[.int .u8 1,.int .u8 (IntKind.u8.wrap nr)] 5)).heap.size:=by simp
  have hwn:w.heap.size<=wn.heap.size:=hBn.size;have r4:(wn.alloc (.cells #[.int .u8 1,.int .u8 (IntKind.u8.wrap nr)] 5)).cell? ⟨w.heap.size,4,none⟩=some (.iface Tl xl):=((below_a wn _).cell (p:=⟨w.heap.size,4,none⟩) (Nat.lt_of_lt_of_le (Nat.lt_of_lt_of_le hrW hsf) hbn.size)).trans ((hbn.cell (p:=⟨w.heap.size,4,none⟩) (Nat.lt_of_lt_of_le hrW hsf)).trans ((hbf.cell (p:=⟨w.heap.size,4,none⟩) hrW).trans (Lib.cell_of_heap hRB 4)));clear hbf hbn hBf yw y7 zw z7 xw x7 hRB hEB hBr HF HN;generalize wn.alloc (.cells #[.int .u8 1,.int .u8 (IntKind.u8.wrap nr)] 5)=W at *;obtain ⟨EB,hEB⟩ : ∃ EB,EB=wn.heap.size:=⟨_,rfl⟩;rw [<- hEB] at hEv hEl hwn |-;clear hEB;go_wp2_with fail;refine (HG.out _ hBW).mono ?_;rintro e w1 ⟨v1,rfl,hG1⟩;obtain ⟨hc1,hv1,hb1⟩:=gx_box (b:=EB) hG1 hEl (fun k hk=>by have:=hvb k hk;omega);obtain ⟨a1,c1,rfl,_,_⟩:=row_shape hG1.own;have HG1:=hide (hG1.after hBW);have hs1:=HG1.out.kept.size;clear hG1 HG;go_wp2_with (at_builtin;refine wpList_append_own_at _ rfl _ _ 64 rfl c 5 i0 _ 1 1 Tryz.underlying64 hi0 hz0 hz1 hz2 rfl (by decide) _ (n+(Cx.gCode vs g).length) _ rfl (own_below HG1.out.own (below_a _ _)) ⟨w1.heap.size,0,none⟩ 1 1 [.int .u8 2] rfl rfl (news_new _ _ rfl [_] _) (ones1 rfl) ?c3 ?c4 ?c5 ?_)
  case c3=>unfold maxLen;omega
  case c4=>omega
  case c5=>simp;omega
  intro v2 w2 hown hgrow _ hat;have hG2:=gr_made hown hgrow (by simpa using hat);obtain ⟨hc2,hv2,hb2⟩:=gx_box (b:=EB) hG2 hb1 hv1;have HG2:=hide (HG1.out.trans hG2);have hs2:=HG2.out.kept.size;obtain ⟨a2,c2,rfl,_,_⟩:=row_shape hG2.own;clear hown hgrow hat hG2 HG1;go_wp2_with fail;refine (AppendTwo_any w2 c _ _ _ 2 HG2.out.own (by omega) (by omega)).mono ?_;rintro e w3 ⟨v3,rfl,hG3⟩;obtain ⟨hc3,hv3,hb3⟩:=gx_box (b:=EB) hG3 hb2 hv2;have HG3:=hide (HG2.out.trans hG3);have hs3:=HG3.out.kept.size;obtain ⟨a3,c3,rfl,_,_⟩:=row_shape hG3.own
  have HEV:Hid (∀ j u,([.int .u8 1,.int .u8 ((nr:Int) % 256)] : List Value)[j]? = some u->w3.cell? ((⟨EB,0,none⟩ : Addr).add j)=some u):=hide (fun j u hu=>by
   have e1:((⟨EB,0,none⟩ : Addr).add j)=⟨EB,j,none⟩:=by simp [Addr.add];omega
   rw [e1,hc3,hc2,hc1]
   exact hEv j u hu)
  clear hG3 HG2 hc1 hc2 hc3 hv1 hv2 hv3 hb1 hb2 hb3;go_wp2_with (at_builtin;refine wpList_append_own_at _ rfl _ _ 64 rfl c 5 i0 _ 1 1 Tryz.underlying64 hi0 hz0 hz1 hz2 rfl (by decide) _ (n+(Cx.gCode vs g).length+1+2) _ rfl HG3.out.own ⟨EB,0,none⟩ 2 2 [.int .u8 1,.int .u8 ((nr:Int) % 256)] rfl rfl HEV.out ?c2 ?c3 ?c4 ?c5 ?_)
  case c2=>intro u hu;simp at hu;rcases hu with rfl | rfl <;> rfl
  case c3=>unfold maxLen;omega
  case c4=>omega
  case c5=>omega
  intro v4 w4 hown hgrow _ hat;have hG4:=HG3.out.trans (gr_grown hown hgrow hat)
  have HG4:Hid (Gr c w w4 5 1 (.slice av n cv) v4 (n+(Cx.gCode vs g++[2]++Cx.two 2++[1,UInt8.ofNat nr]).length) (xs++(Cx.gCode vs g++[2]++Cx.two 2++[1,UInt8.ofNat nr]).map Cx.bV)):=hide (by
   have e1:n+(Cx.gCode vs g++[2]++Cx.two 2++[1,UInt8.ofNat nr]).length=n+(Cx.gCode vs g).length+1+2+2:=by simp [Cx.two];omega
   have e2:(Cx.gCode vs g++[2]++Cx.two 2++[1,UInt8.ofNat nr]).map Cx.bV=(Cx.gCode vs g).map Cx.bV++[.int .u8 2]++(Cx.two 2).map Cx.bV++[.int .u8 1,.int .u8 ((nr:Int) % 256)]:=by rw [<- Cx.bV_ofNat];simp [Cx.bV]
   rw [e1,e2]
   simpa [List.append_assoc] using hG4)
  clear hown hgrow hat hG4 HG3;go_wp2_with fail;go_ret;exact ⟨_,rfl,HG4.out⟩
end
section
open Go.RowKit
attribute [local go_sem ↓] Go.wp_at_zero Go.wp_at_succ
theorem own_mono {w:World} {b b' e size n:Nat} {v:Value} {xs:List Value} (h:w.ownsRow b e size v n xs) (hb:b'<=b):w.ownsRow b' e size v n xs:=by
 refine ⟨h.1,?_⟩;rcases h.2 with hn | ⟨g,cap,cur,e1,e2,rest⟩
 ·exact .inl hn
 ·exact .inr ⟨g,cap,cur,e1,Nat.le_trans hb e2,rest⟩
theorem EmC.mono {w:World} {c c' wb tb base:Nat} {vt vv vm lv:Value} {vs:List VarA} {gs:List MG} (h:EmC w c wb tb base vt vv vm lv vs gs) (hc:c<=c') (hw:c'<=w.heap.size):EmC w c' wb tb base vt vv vm lv vs gs:=by
 obtain ⟨gl,cap,e,hl,hcc⟩:=h.lv;exact ⟨h.pt.mono (fun k hk=>Nat.lt_of_lt_of_le hk hc),h.box,⟨gl,cap,e,Nat.lt_of_lt_of_le hl hc,hcc⟩,Nat.lt_of_lt_of_le h.lt hc,hw⟩
def progTo (vs:List VarA) (ms:List Hx.MA) (l:List Nat):List UInt8:=l.flatMap fun j=>(Cx.rowsOf ms j).flatMap (Cx.rowCode vs ms)
theorem progTo_take (vs:List VarA) (ms:List Hx.MA) (l:List Nat) (i:Nat) (hi:i<l.length):progTo vs ms (l.take (i+1))=progTo vs ms (l.take i)++(Cx.rowsOf ms l[i]).flatMap (Cx.rowCode vs ms):=by
 unfold progTo;rw [List.take_add_one,List.getElem?_eq_getElem hi,List.flatMap_append];simp
theorem flat_take {α β : Type} (f : α -> List β) (l:List α) (i:Nat) (hi:i<l.length):(l.take (i+1)).flatMap f=(l.take i).flatMap f++f l[i]:=by
 rw [List.take_add_one,List.getElem?_eq_getElem hi,List.flatMap_append];simp
theorem flat_le {α β : Type} (f : α -> List β) (l:List α) (i:Nat):((l.take i).flatMap f).length<=(l.flatMap f).length:=by
 conv=>rhs;rw [<- List.take_append_drop i l,List.flatMap_append,List.length_append]
 omega
theorem path_lt {gs:List MG} (hl:Links gs):∀ i,i<gs.length->∀ j∈Cx.path (gs.map (·.a)) i,j<gs.length:=by
 intro i
 induction i using Nat.strongRecOn with
 | _ i ih =>
  intro hi j hj;have ho:=outer_lt hl hi;rw [path_step hl hi] at hj
  by_cases h0:Cx.outerOf (gs.map (·.a)) i<0
  ·rw [if_pos h0] at hj;simp at hj;omega
  ·rw [if_neg h0,List.mem_append] at hj
   rcases hj with hj | hj
   ·exact ih (Cx.outerOf (gs.map (·.a)) i).toNat (by omega) (by omega) j hj
   ·simp at hj;omega
def TabR (vs:List VarA) (gs:List MG):Prop:=∀ m∈gs,m.a.rows.length<=10000/\∀ r∈m.a.rows,rOk vs gs r
theorem rows_of {gs:List MG} {j:Nat} (hj:j<gs.length):Cx.rowsOf (gs.map (·.a)) j=gs[j].a.rows:=by simp [Cx.rowsOf,hj]
theorem rowC_ten (r:Hx.RowA):∃ (k0:Int) (s0:ByteArray) (n0 l0:Int) (T:TypeId) (x:Value) (b:Bool) (k1:Int) (s1:ByteArray) (n1 l1:Int),rowC r=[.int .i64 k0,.string s0,.int .i64 n0,.int .i64 l0,.iface T x,.bool b,.int .i64 k1,.string s1,.int .i64 n1,.int .i64 l1]:=by
 obtain ⟨wh,g,dest,_,_⟩:=r;obtain ⟨T,x,hg⟩:=gval_iface g
 cases dest with
 | none=>exact ⟨_,_,_,_,T,x,true,_,_,_,_,by simp only [rowC,destC,hg];rfl⟩
 | some t=>exact ⟨_,_,_,_,T,x,false,_,_,_,_,by simp only [rowC,destC,hg];rfl⟩
theorem program_any (c wb tb base:Nat) (vt vv vm lv:Value) (vs:List VarA) (gs:List MG) (hok:TabOk vs gs) (w:World) (h:EmC w c wb tb base vt vv vm lv vs gs) (hr:TabR vs gs) (i:Nat) (hi:i<gs.length) (hn:(Cx.program vs (gs.map (·.a)) i).length<=80000) :
  Calls Tryz.prog 81 #[.pointer (some ⟨wb,0,none⟩),ptrV (bl gs i)] w fun e w'=>∃ v',e=.returned v'/\w'.ownsRow w.heap.size 5 1 v' (Cx.program vs (gs.map (·.a)) i).length ((Cx.program vs (gs.map (·.a)) i).map Cx.bV)/\Below w.heap.size w w':=by
 have HP:=hide (Path_any base tb vt vv vm vs gs _ hok.links (by have:=hok.modes;omega) i hi w h.pt);have hpl:=path_lt hok.links i hi;have hpn:=path_len hok.links i hi;have hml:=hok.modes;have hprog:Cx.program vs (gs.map (·.a)) i=progTo vs (gs.map (·.a)) (Cx.path (gs.map (·.a)) i)++[0]:=rfl;have HPR:=hide hprog;have hpt:∀ k,(progTo vs (gs.map (·.a)) ((Cx.path (gs.map (·.a)) i).take k)).length+1<=80000:=fun k=>by
  have:=flat_le (fun j=>(Cx.rowsOf (gs.map (·.a)) j).flatMap (Cx.rowCode vs (gs.map (·.a)))) (Cx.path (gs.map (·.a)) i) k;have e:(Cx.program vs (gs.map (·.a)) i).length=(progTo vs (gs.map (·.a)) (Cx.path (gs.map (·.a)) i)).length+1:=by rw [hprog];simp
  unfold progTo at e |-;omega
 have HPT:=hide hpt;have HPL:=hide hpl;have HE:=hide h;have HR:=hide hr;obtain ⟨i0,hi0,hz0,hz1,hz2⟩:=info_parts Tryz.infoByte;clear hprog hpt hpl hr;generalize hpp:Cx.path (gs.map (·.a)) i=pth at *;have hcw:=h.le;clear h;go_enter Tryz.func81,Tryz.ntmps81;go_wp2_with fail;refine HP.out.mono ?_;rintro e w1 ⟨v1,rfl,ho1,hb1⟩;have hE1:=(HE.out.below hb1).mono (c':=w1.heap.size) (by have:=hb1.size;omega) (Nat.le_refl _);have HE1:=hide hE1;obtain ⟨a1,c1,rfl,_,_⟩:=row_shape ho1;have hcells:∀ k (hk:k<pth.length),∃ pb,a1=some ⟨pb,0,none⟩/\pb<w1.heap.size/\w1.cell? ⟨pb,k,none⟩=some (.pointer (some ⟨bl gs pth[k],0,none⟩)):=by
  intro k hk;obtain ⟨pb,cap,hv2,_,hl,_,_,hcc⟩:=row_open ho1 (by omega)
  cases hv2
  exact ⟨pb,rfl,hl,(hcc k (by omega)).trans (by simp [hk,ptrV])⟩
 have HC:=hide hcells;have HB1:=hide hb1;have hs1:=hb1.size;clear hcells ho1 hb1 hE1 HP HE;go_wp2_with fail
 go_loopg [5,13] (pth.length) (fun k v5 v13 wr=>∃ q:Nat,q+k=pth.length/\v13=.int .i64 q/\Below w1.heap.size w1 wr/\wr.ownsRow w1.heap.size 5 1 v5 (progTo vs (gs.map (·.a)) (pth.take q)).length ((progTo vs (gs.map (·.a)) (pth.take q)).map Cx.bV))
 case atStart=>exact ⟨0,by omega,rfl,Below.refl _ _,World.ownsRow_nil _ _ _ _⟩
 case round =>
  obtain ⟨q,hq,rfl,hb,ho⟩:=hrel;have HB:=hide hb;have HO:=hide ho;have hsr:=hb.size
  by_cases hlt:q<pth.length
  ·have hqi:(q:Int)<pth.length:=by omega
   have hq0:(0:Int)<=q:=by omega
   obtain ⟨pb,rfl,hpb,hck⟩:=HC.out q hlt;have hjl:pth[q]<gs.length:=HPL.out _ (List.getElem_mem hlt);have xp:=(hb.cell (p:=⟨pb,q,none⟩) hpb).trans hck;have hstep:=progTo_take vs (gs.map (·.a)) pth q hlt;rw [rows_of hjl] at hstep;have HST:=hide hstep;have hmx:=HPT.out (q+1);rw [hstep,List.length_append] at hmx;have hTr:=HE1.out.pt.below hb;obtain ⟨ar,cr,hvr,hrc⟩:=hTr.rowCells hjl;have c7:wr.cell? ⟨bl gs pth[q],7,none⟩=some (.slice ar gs[pth[q]].a.rows.length cr):=by
    rw [bl_at hjl];exact ((hTr.modeCells hjl).1 7 (by omega)).trans (by show some gs[pth[q]].vr=_;rw [hvr])
   obtain ⟨hrn,hro⟩:=HR.out gs[pth[q]] (List.getElem_mem hjl);have HRO:=hide hro;have hrc1:∀ k (hk:k<gs[pth[q]].a.rows.length),∃ gr,ar=some ⟨gr,0,none⟩/\gr<w1.heap.size/\∀ k',k'<10->w1.cell? ⟨gr,k*10+k',none⟩=(rowC gs[pth[q]].a.rows[k])[k']? := by
    intro k hk;obtain ⟨ar',cr',hvr',hrc'⟩:=HE1.out.pt.rowCells hjl;obtain ⟨gr,e1,h1,h2⟩:=hrc' k hk;rw [hvr] at hvr'
    cases hvr'
    exact ⟨gr,e1,h1,h2⟩
   have HRC:=hide hrc1;clear hck hstep hb ho hTr hrc hrc1 hvr hro;generalize bl gs pth[q]=bj at *;generalize gs[pth[q]].a.rows=rows at *;generalize progTo vs (gs.map (·.a)) (pth.take q)=acc at *;go_wp2_with fail
   go_loopg [5,22] (rows.length) (fun k v5 v22 wi=>∃ r:Nat,r+k=rows.length/\v22=.int .i64 r/\Below w1.heap.size w1 wi/\wi.ownsRow w1.heap.size 5 1 v5 (acc++(rows.take r).flatMap (Cx.rowCode vs (gs.map (·.a)))).length ((acc++(rows.take r).flatMap (Cx.rowCode vs (gs.map (·.a)))).map Cx.bV))
   case atStart=>exact ⟨0,by omega,rfl,HB.out,by simpa using HO.out⟩
   case round =>
    obtain ⟨r,hr,rfl,hb,ho⟩:=hrel;have HBi:=hide hb;have HOi:=hide ho;have hsi:=hb.size
    by_cases hrl:r<rows.length
    ·have hri:(r:Int)<rows.length:=by omega
     have hr0:(0:Int)<=r:=by omega
     obtain ⟨gr,rfl,hgr,hcr⟩:=HRC.out r hrl;have hft:=flat_take (Cx.rowCode vs (gs.map (·.a))) rows r hrl;have hfl:=flat_le (Cx.rowCode vs (gs.map (·.a))) rows (r+1);have HFT:=hide hft;rw [hft,List.length_append] at hfl;have hro:=HRO.out rows[r] (List.getElem_mem hrl);have hmi:(acc++(rows.take r).flatMap (Cx.rowCode vs (gs.map (·.a)))).length+(Cx.rowCode vs (gs.map (·.a)) rows[r]).length<=80000:=by rw [List.length_append];omega
     have CK:Hid (∀ Y,Below wr.heap.size wr Y->Calls Tryz.prog 121 #[.pointer (some ⟨wb,0,none⟩),u5,.agg (rowC rows[r]).toArray] Y fun e w'=>∃ v',e=.returned v'/\Gr w1.heap.size Y w' 5 1 u5 v' ((acc++(rows.take r).flatMap (Cx.rowCode vs (gs.map (·.a)))).length+(Cx.rowCode vs (gs.map (·.a)) rows[r]).length) ((acc++(rows.take r).flatMap (Cx.rowCode vs (gs.map (·.a)))).map Cx.bV++(Cx.rowCode vs (gs.map (·.a)) rows[r]).map Cx.bV)):=hide (fun Y hY =>
      appendRow_any w1.heap.size wb tb base vt vv vm lv vs gs hok rows[r] Y u5 _ _ (HE1.out.below (HBi.out.trans (hY.mono hsi))) hro (own_below HOi.out hY) hmi)
     have hcc:=fun k hk=>(hb.cell (p:=⟨gr,r*10+k,none⟩) hgr).trans (hcr k hk)
     obtain ⟨k0,s0,n0,l0,Tg,xg,b0,k1,s1,n1,l1,hd⟩:=rowC_ten rows[r];rw [hd] at hcc CK;have z0:wr.cell? ⟨gr,r*10,none⟩=some (.int .i64 k0):=hcc 0 (by omega);have z1:wr.cell? ⟨gr,r*10+1,none⟩=some (.string s0):=hcc 1 (by omega);have z2:wr.cell? ⟨gr,r*10+2,none⟩=some (.int .i64 n0):=hcc 2 (by omega);have z3:wr.cell? ⟨gr,r*10+3,none⟩=some (.int .i64 l0):=hcc 3 (by omega);have z4:wr.cell? ⟨gr,r*10+4,none⟩=some (.iface Tg xg):=hcc 4 (by omega);have z5:wr.cell? ⟨gr,r*10+5,none⟩=some (.bool b0):=hcc 5 (by omega);have z6:wr.cell? ⟨gr,r*10+6,none⟩=some (.int .i64 k1):=hcc 6 (by omega);have z7:wr.cell? ⟨gr,r*10+7,none⟩=some (.string s1):=hcc 7 (by omega);have z8:wr.cell? ⟨gr,r*10+8,none⟩=some (.int .i64 n1):=hcc 8 (by omega);have z9:wr.cell? ⟨gr,r*10+9,none⟩=some (.int .i64 l1):=hcc 9 (by omega);clear hcc hcr hd hft hro hb ho;go_wp2_with fail;refine (CK.out _ (below_a _ _)).mono ?_;rintro e w2 ⟨v2,rfl,hG⟩;have HG:=hide (hG.after (below_a _ _));have HB2:Hid (Below w1.heap.size w1 w2):=hide (HBi.out.trans (HG.out.kept.toBelow (fun k e=>(HOi.out.lt k e).1) hsi))
     have HO2:Hid (w2.ownsRow w1.heap.size 5 1 v2 (acc++(rows.take (r+1)).flatMap (Cx.rowCode vs (gs.map (·.a)))).length ((acc++(rows.take (r+1)).flatMap (Cx.rowCode vs (gs.map (·.a)))).map Cx.bV)):=hide (by
      rw [HFT.out,<- List.append_assoc,List.length_append,List.map_append];exact HG.out.own)
     clear hG CK z0 z1 z2 z3 z4 z5 z6 z7 z8 z9;go_wp2_with fail
     go_roundg (rows.length-(r+1))
     case measure=>omega
     case rel=>exact ⟨r+1,by omega,by go_num,HB2.out,HO2.out⟩
    ·obtain rfl:r=rows.length:=by omega
     rw [List.take_length] at HOi;go_wp2_with fail
     go_roundg (pth.length-(q+1))
     case measure=>omega
     case rel=>exact ⟨q+1,by omega,by go_num,HBi.out,by rw [HST.out];exact HOi.out⟩
  ·obtain rfl:q=pth.length:=by omega
   rw [List.take_length] at HO;have hlast:=HPT.out pth.length;rw [List.take_length] at hlast;obtain ⟨L,hL⟩ : ∃ L,L=(progTo vs (gs.map (·.a)) pth).length:=⟨_,rfl⟩;obtain ⟨ys,hys⟩ : ∃ ys,ys=(progTo vs (gs.map (·.a)) pth).map Cx.bV:=⟨_,rfl⟩;rw [<- hL,<- hys] at HO;rw [<- hL] at hlast;have HPO:Hid ((Cx.program vs (gs.map (·.a)) i).length=L+1/\(Cx.program vs (gs.map (·.a)) i).map Cx.bV=ys++[.int .u8 0]):=hide ⟨by rw [HPR.out,List.length_append,hL];rfl,by rw [HPR.out,List.map_append,hys];rfl⟩;have HOa:=hide (own_below HO.out (below_a wr (.cells #[.int .u8 0] 5)));obtain ⟨a5,c5,rfl,_,_⟩:=row_shape HO.out;clear hb ho hL hys HPR HPT HPL HR HC HE1 hn;go_wp2_with (at_builtin;refine wpList_append_own_at _ rfl _ _ 64 rfl w1.heap.size 5 i0 _ 1 1 Tryz.underlying64 hi0 hz0 hz1 hz2 rfl (by decide) _ L ys rfl HOa.out ⟨wr.heap.size,0,none⟩ 1 1 [.int .u8 0] rfl rfl (news_new _ _ rfl [_] _) (ones1 rfl) ?c3 ?c4 ?c5 ?_)
   case c3=>unfold maxLen;omega
   case c4=>omega
   case c5=>omega
   intro v9 w9 hown hgrow _ hat;have hG:=gr_made hown hgrow (by simpa using hat);have HB9:Hid (Below w.heap.size w w9):=hide (HB1.out.trans ((HB.out.trans (hG.kept.toBelow (fun k e=>(HO.out.lt k e).1) hsr)).mono hs1));have HO9:Hid (w9.ownsRow w.heap.size 5 1 v9 (L+1) (ys++[.int .u8 0])):=hide (own_mono hG.own hs1);clear hown hgrow hat hG;go_wp2_with fail;go_ret;exact ⟨_,rfl,by rw [HPO.out.1,HPO.out.2];exact HO9.out,HB9.out⟩
end
end Go.Proofs.YtdjaiolfdbamcaaGreatDoor
