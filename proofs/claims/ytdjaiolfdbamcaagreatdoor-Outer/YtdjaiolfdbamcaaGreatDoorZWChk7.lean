/- The walk of the checker's checkAtom. -/
import Derived.Test.YtdjaiolfdbamcaaGreatDoorZWChk5
import Derived.Deep.RegionHeld3
import Derived.Deep.RegionWith
import Derived.Deep.DrawnRows
set_option maxRecDepth 20000
set_option maxHeartbeats 4000000
namespace Go.Proofs.YtdjaiolfdbamcaaGreatDoor
open Go.RowKit
attribute [local go_sem ↓] Go.wp_at_zero Go.wp_at_succ
theorem Tryz.infoKey:(Tryz.prog.info? 322).map (fun i=>(i.zero,i.size,i.bytes))=some (some (.agg #[.bool false,.string ⟨#[]⟩,.string ⟨#[]⟩,.int .i64 0]),4,48):=by kernel_rfl
def atomC (was:Option Hx.Tok) (n o i:Hx.Tok):Array Value:=#[.bool was.isSome,.int .i64 (kindA n.k),.string n.s,.int .i64 n.n,.int .i64 n.line,.int .i64 (kindA o.k),.string o.s,.int .i64 o.n,.int .i64 o.line,.int .i64 (kindA i.k),.string i.s,.int .i64 i.n,.int .i64 i.line]
theorem CI.addBox {w w':World} {c k:Nat} {row:Option Nat} {v:Value} (hg:w.grownBy w' row) (hk:k<w.heap.size) (hr:¬ row=some k) (hc:k≠c):(w'.setCell ⟨c,2,none⟩ v).heap[k]? = w.heap[k]? :=
 (Below.heap_setCell _ _ _ _ hc).trans (((Kp.refl (fun q=>row=some q) w).grown hg (fun _ h=>.inl h)).block k hk hr)
theorem checkAtom_any (w:World) (c tb base:Nat) (vt vv vm:Value) (vs:List VarA) (gs:List MG) (s:CS) (va:Value) (was:Option Hx.Tok) (n o i:Hx.Tok) (h:CI w c tb s va) (hT:PT w base tb vt vs gs (fun k=>k<c) vv vm) (hvl:vs.length≤3001) (hlen:(ckAtom vs s (atomKey was n o i) n.line i).atoms.length≤10000) :
  Calls Tryz.prog 204 #[.pointer (some ⟨c,0,none⟩),.agg (atomC was n o i)] w fun e w'=>CkR w c tb va (ckAtom vs s (atomKey was n o i) n.line i) e w':=by
 have hla:(s.addAtom (atomKey was n o i)).atoms.length≤10000:=hlen
 have hls:s.atoms.length≤10000:=by
  unfold CS.addAtom at hla
  split at hla
  ·exact hla
  ·simp at hla;omega
 obtain ⟨av,cv,hav,_,_⟩:=row_shape h.own
 subst hav
 have hcl:=h.lt
 have HVB:=hide (fun k e=>h.own.lt k e)
 have HT0:=hide hT
 have hB1:Below w.heap.size w (w.alloc (.cells #[.bool was.isSome,.int .i64 (kindA n.k),.string n.s,.int .i64 n.n,.int .i64 n.line,.int .i64 (kindA o.k),.string o.s,.int .i64 o.n,.int .i64 o.line,.int .i64 (kindA i.k),.string i.s,.int .i64 i.n,.int .i64 i.line] 307)):=(Below.refl _ _).alloc (Nat.le_refl _) _
 have hB2:Below w.heap.size w ((w.alloc (.cells #[.bool was.isSome,.int .i64 (kindA n.k),.string n.s,.int .i64 n.n,.int .i64 n.line,.int .i64 (kindA o.k),.string o.s,.int .i64 o.n,.int .i64 o.line,.int .i64 (kindA i.k),.string i.s,.int .i64 i.n,.int .i64 i.line] 307)).alloc (.cells #[.bool was.isSome,.string n.s,.string o.s,.int .i64 i.n] 322)):=hB1.alloc (by simp) _
 have hA:((w.alloc (.cells #[.bool was.isSome,.int .i64 (kindA n.k),.string n.s,.int .i64 n.n,.int .i64 n.line,.int .i64 (kindA o.k),.string o.s,.int .i64 o.n,.int .i64 o.line,.int .i64 (kindA i.k),.string i.s,.int .i64 i.n,.int .i64 i.line] 307)).alloc (.cells #[.bool was.isSome,.string n.s,.string o.s,.int .i64 i.n] 322)).heap[w.heap.size]? = some (.cells #[.bool was.isSome,.int .i64 (kindA n.k),.string n.s,.int .i64 n.n,.int .i64 n.line,.int .i64 (kindA o.k),.string o.s,.int .i64 o.n,.int .i64 o.line,.int .i64 (kindA i.k),.string i.s,.int .i64 i.n,.int .i64 i.line] 307 (0,0)):=by
  refine (((Below.refl (w.heap.size+1) (w.alloc (.cells #[.bool was.isSome,.int .i64 (kindA n.k),.string n.s,.int .i64 n.n,.int .i64 n.line,.int .i64 (kindA o.k),.string o.s,.int .i64 o.n,.int .i64 o.line,.int .i64 (kindA i.k),.string i.s,.int .i64 i.n,.int .i64 i.line] 307))).alloc (by simp) _).block w.heap.size (by omega)).trans ?_
  exact heap_alloc_new w _
 have hK:((w.alloc (.cells #[.bool was.isSome,.int .i64 (kindA n.k),.string n.s,.int .i64 n.n,.int .i64 n.line,.int .i64 (kindA o.k),.string o.s,.int .i64 o.n,.int .i64 o.line,.int .i64 (kindA i.k),.string i.s,.int .i64 i.n,.int .i64 i.line] 307)).alloc (.cells #[.bool was.isSome,.string n.s,.string o.s,.int .i64 i.n] 322)).heap[w.heap.size+1]? = some (.cells #[.bool was.isSome,.string n.s,.string o.s,.int .i64 i.n] 322 (0,0)):=by
  have:=heap_alloc_new (w.alloc (.cells #[.bool was.isSome,.int .i64 (kindA n.k),.string n.s,.int .i64 n.n,.int .i64 n.line,.int .i64 (kindA o.k),.string o.s,.int .i64 o.n,.int .i64 o.line,.int .i64 (kindA i.k),.string i.s,.int .i64 i.n,.int .i64 i.line] 307)) (.cells #[.bool was.isSome,.string n.s,.string o.s,.int .i64 i.n] 322)
  simpa using this
 have hsz:((w.alloc (.cells #[.bool was.isSome,.int .i64 (kindA n.k),.string n.s,.int .i64 n.n,.int .i64 n.line,.int .i64 (kindA o.k),.string o.s,.int .i64 o.n,.int .i64 o.line,.int .i64 (kindA i.k),.string i.s,.int .i64 i.n,.int .i64 i.line] 307)).alloc (.cells #[.bool was.isSome,.string n.s,.string o.s,.int .i64 i.n] 322)).heap.size=w.heap.size+2:=by simp
 have HCI:=hide (h.below hB2)
 have HW0:Hid (Kp (CF c (.slice av s.atoms.length cv)) w _):=hide (Kp.ofBelow hB2)
 have KB:Hid (∀ Y,Kp (CF c (.slice av s.atoms.length cv)) w Y→Below c w Y):=hide (fun Y hY=>h.toBelow hY)
 have HA:=hide hA
 have HK:=hide hK
 have HSZ:=hide hsz
 clear h hT hB1 hB2 hA hK hsz
 rw [show atomC was n o i=#[.bool was.isSome,.int .i64 (kindA n.k),.string n.s,.int .i64 n.n,.int .i64 n.line,.int .i64 (kindA o.k),.string o.s,.int .i64 o.n,.int .i64 o.line,.int .i64 (kindA i.k),.string i.s,.int .i64 i.n,.int .i64 i.line] from rfl]
 go_enter Tryz.func204,Tryz.ntmps204
 go_upto_region 2 with (fail)
 generalize hWW:((w.alloc (.cells #[.bool was.isSome,.int .i64 (kindA n.k),.string n.s,.int .i64 n.n,.int .i64 n.line,.int .i64 (kindA o.k),.string o.s,.int .i64 o.n,.int .i64 o.line,.int .i64 (kindA i.k),.string i.s,.int .i64 i.n,.int .i64 i.line] 307)).alloc (.cells #[.bool was.isSome,.string n.s,.string o.s,.int .i64 i.n] 322))=W at *
 clear hWW
 have y2:W.cell? ⟨c,2,none⟩=some (.slice av s.atoms.length cv):=Lib.cell_of_heap HCI.out.box 2
 have k0:W.cell? ⟨w.heap.size+1,0,none⟩=some (.bool was.isSome):=Lib.cell_of_heap HK.out 0
 have k1:W.cell? ⟨w.heap.size+1,1,none⟩=some (.string n.s):=Lib.cell_of_heap HK.out 1
 have k2:W.cell? ⟨w.heap.size+1,2,none⟩=some (.string o.s):=Lib.cell_of_heap HK.out 2
 have k3:W.cell? ⟨w.heap.size+1,3,none⟩=some (.int .i64 i.n):=Lib.cell_of_heap HK.out 3
 obtain ⟨b,hbq⟩ : ∃ b,s.atoms.any (fun a=>a.same (atomKey was n o i))=b:=⟨_,rfl⟩
 have HBQ:=hide hbq
 have CK:Hid (∀ X,Below W.heap.size W X→Calls Tryz.prog 225 #[.slice av s.atoms.length cv,.agg #[.bool was.isSome,.string n.s,.string o.s,.int .i64 i.n]] X fun e w'=>e=.returned (.bool b)∧Below X.heap.size X w'):=hide (fun X hX=>by
  have:=containsKey_any X (c+1) (.slice av s.atoms.length cv) s.atoms (atomKey was n o i) (own_below HCI.out.own hX) (by omega)
  rw [hbq] at this
  exact this)
 have hcW:c<W.heap.size:=HCI.out.lt
 have hkW:w.heap.size+1<W.heap.size:=by rw [HSZ.out];omega
 clear hbq
 go_region_held3 (fun X=>X.cell? ⟨c,2,none⟩=some (.slice av s.atoms.length cv)∧X.cell? ⟨w.heap.size+1,0,none⟩=some (.bool was.isSome)∧X.cell? ⟨w.heap.size+1,1,none⟩=some (.string n.s)∧X.cell? ⟨w.heap.size+1,2,none⟩=some (.string o.s)∧X.cell? ⟨w.heap.size+1,3,none⟩=some (.int .i64 i.n)) (first | go_keep | (exact ⟨by with_reducible assumption,by with_reducible assumption,by with_reducible assumption,by with_reducible assumption,by with_reducible assumption⟩))
  ((go_at_call 225;refine (CK.out _ ?_).mono ?_;exact ⟨rfl,rfl,rfl,Nat.le_refl _,fun _ _=>rfl⟩;rintro e w1 ⟨rfl,hb1⟩;have z2:=(hb1.cell (p:=⟨c,2,none⟩) hcW).trans y2;have z3:=(hb1.cell (p:=⟨w.heap.size+1,0,none⟩) hkW).trans k0;have z4:=(hb1.cell (p:=⟨w.heap.size+1,1,none⟩) hkW).trans k1;have z5:=(hb1.cell (p:=⟨w.heap.size+1,2,none⟩) hkW).trans k2;have z6:=(hb1.cell (p:=⟨w.heap.size+1,3,none⟩) hkW).trans k3))
 have hb1':Below W.heap.size W w1:=⟨hb1.os,hb1.tape,hb1.output,hb1.size,hb1.block⟩
 have HCI1:=hide (HCI.out.below hb1')
 have HA1:=hide ((hb1'.block w.heap.size (by omega)).trans HA.out)
 have HK1:=hide ((hb1'.block (w.heap.size+1) hkW).trans HK.out)
 have HW1:=hide (HW0.out.below hb1')
 have hc1:c<w1.heap.size:=Nat.lt_of_lt_of_le hcW hb1'.size
 have hk1:w.heap.size+1<w1.heap.size:=Nat.lt_of_lt_of_le hkW hb1'.size
 clear hb1 hb1' y2 k0 k1 k2 k3 CK HCI HA HK HW0 HSZ hcW hkW
 cases b with
 | true =>
  have HVO:Hid (∀ k,(Value.slice av s.atoms.length cv).ownBlock=some k→(Value.slice av s.atoms.length cv).ownBlock=some k∨w.heap.size≤k):=hide (fun _ e=>.inl e)
  have HAD:Hid (s.addAtom (atomKey was n o i)=s):=hide (by unfold CS.addAtom;rw [if_pos HBQ.out])
  clear z2 z3 z4 z5 z6
  go_wp2_with fail
  have HS1:=hide (show ckAtom vs s (atomKey was n o i) n.line i=((s.ref (decide ((8:Int)<(s.atoms.length:Nat))) 1 n.line).ref (!(vs.any (sameV n.s))) 3 n.line).ref (badB i.n) 4 i.line by
   have e8:decide ((8:Int)<(s.atoms.length:Nat))=decide (8<s.atoms.length):=by rw [Bool.eq_iff_iff];simp;omega
   rw [e8];simp only [ckAtom,HAD.out];rfl)
  have hXl:w.heap.size<w1.heap.size:=by omega
  have hXc:c<w1.heap.size:=HCI1.out.lt
  have y2:w1.cell? ⟨c,2,none⟩=some (.slice av s.atoms.length cv):=Lib.cell_of_heap HCI1.out.box 2
  have nAc:¬ w.heap.size=c:=by omega
  obtain ⟨a0,a1,a2,a3,a4,a5,a6,a7,a8,a9,a10,a11,a12⟩:=cells13 HA1.out
  clear a0 a5 a6 a7 a8 a9 a10 a11 a12
  go_region_held3 (fun Y=>Y.cell? ⟨c,2,none⟩=some (.slice av s.atoms.length cv)∧Y.cell? ⟨w.heap.size,1,none⟩=some (.int .i64 (kindA n.k))∧Y.cell? ⟨w.heap.size,2,none⟩=some (.string n.s)∧Y.cell? ⟨w.heap.size,3,none⟩=some (.int .i64 n.n)∧Y.cell? ⟨w.heap.size,4,none⟩=some (.int .i64 n.line)) (first | go_keep | (exact ⟨by with_reducible assumption,by with_reducible assumption,by with_reducible assumption,by with_reducible assumption,by with_reducible assumption⟩))
   ((go_at_call 156;refine (refuse_any _ c tb (s.rows:Int) (.slice av s.atoms.length cv) s.cl _ 1 n ?_).mono ?_;exact HCI1.out.box;intro e w2 hr2;obtain rfl:=hr2.ret;have z2:w2.cell? ⟨c,2,none⟩=some (.slice av s.atoms.length cv):=Lib.cell_of_heap hr2.box 2;have z3:=(hr2.kept.cell (o:=1) hXl nAc).trans a1;have z4:=(hr2.kept.cell (o:=2) hXl nAc).trans a2;have z5:=(hr2.kept.cell (o:=3) hXl nAc).trans a3;have z6:=(hr2.kept.cell (o:=4) hXl nAc).trans a4))
  have HCI3:=hide (CI.ref (show CI w1.drew c tb s _ from ⟨HCI1.out.box,HCI1.out.own⟩) hr2)
  have HA3:=hide ((hr2.kept.block w.heap.size hXl nAc).trans HA1.out)
  have hX2l:w.heap.size<w2.heap.size:=Nat.lt_of_lt_of_le hXl hr2.kept.size
  have hX2c:c<w2.heap.size:=Nat.lt_of_lt_of_le hXc hr2.kept.size
  have HW3:=hide (HW1.out.drew.trans hr2.kept (fun _ e=>.inl (.inl e)))
  have HT3:=hide (HT0.out.belowC (KB.out _ HW3.out))
  generalize hs3:s.ref (decide ((8:Int)<(s.atoms.length:Nat))) 1 n.line=s3 at *
  clear hs3 hr2 y2 a1 a2 a3 a4 z2 z3 z4 z5 z6
  obtain ⟨_,v1,_,_,_,hbl3,hbc3⟩:=HT3.out.cells
  obtain ⟨a0,a1,a2,a3,a4,a5,a6,a7,a8,a9,a10,a11,a12⟩:=cells13 HA3.out
  clear a0 a5 a6 a7 a8 a9 a10 a11 a12
  have ntc:¬ tb=c:=by omega
  have y0:w2.cell? ⟨c,0,none⟩=some (.pointer (some ⟨tb,0,none⟩)):=Lib.cell_of_heap HCI3.out.1.box 0
  have CK:Hid (∀ Y,Below w2.heap.size w2 Y→Calls Tryz.prog 157 #[vv,.string n.s] Y fun e w'=>e=.returned (.bool (vs.any (sameV n.s)))∧Below Y.heap.size Y w'):=hide (fun Y hY=>by
   have:=hasVar_any Y vv vs.length vs n.s (HT3.out.below hY).vsl hvl
   rw [List.take_length] at this
   exact this)
  generalize vs.any (sameV n.s)=bv at *
  go_wp2_with fail
  go_region_held3 (fun Y=>Y.cell? ⟨c,0,none⟩=some (.pointer (some ⟨tb,0,none⟩))∧Y.cell? ⟨tb,1,none⟩=some vv∧Y.cell? ⟨w.heap.size,1,none⟩=some (.int .i64 (kindA n.k))∧Y.cell? ⟨w.heap.size,2,none⟩=some (.string n.s)∧Y.cell? ⟨w.heap.size,3,none⟩=some (.int .i64 n.n)∧Y.cell? ⟨w.heap.size,4,none⟩=some (.int .i64 n.line)) (first | go_keep | (exact ⟨by with_reducible assumption,by with_reducible assumption,by with_reducible assumption,by with_reducible assumption,by with_reducible assumption,by with_reducible assumption⟩))
   (first
    | (go_at_call 157;refine (CK.out _ ?_).mono ?_;exact ⟨rfl,rfl,rfl,Nat.le_refl _,fun _ _=>rfl⟩;rintro e w4 ⟨rfl,hb4⟩;have q0:=(hb4.cell (p:=⟨c,0,none⟩) hX2c).trans y0;have q1:=(hb4.cell (p:=⟨tb,1,none⟩) hbl3).trans v1;have q2:=(hb4.cell (p:=⟨w.heap.size,1,none⟩) hX2l).trans a1;have q3:=(hb4.cell (p:=⟨w.heap.size,2,none⟩) hX2l).trans a2;have q4:=(hb4.cell (p:=⟨w.heap.size,3,none⟩) hX2l).trans a3;have q5:=(hb4.cell (p:=⟨w.heap.size,4,none⟩) hX2l).trans a4;have hX4l:=Nat.lt_of_lt_of_le hX2l hb4.size;have htl4:=Nat.lt_of_lt_of_le hbl3 hb4.size)
    | (go_at_call 156;refine (refuse_any _ c tb (s3.rows:Int) (.slice av s.atoms.length cv) s3.cl _ 3 n ?_).mono ?_;exact (hb4.block c hX2c).trans HCI3.out.1.box;intro e w5 hr5;obtain rfl:=hr5.ret;have p0:w5.cell? ⟨c,0,none⟩=some (.pointer (some ⟨tb,0,none⟩)):=Lib.cell_of_heap hr5.box 0;have p1:=(hr5.kept.cell (o:=1) htl4 ntc).trans q1;have p2:=(hr5.kept.cell (o:=1) hX4l nAc).trans q2;have p3:=(hr5.kept.cell (o:=2) hX4l nAc).trans q3;have p4:=(hr5.kept.cell (o:=3) hX4l nAc).trans q4;have p5:=(hr5.kept.cell (o:=4) hX4l nAc).trans q5))
  have hb4':Below w2.heap.size w2 w4:=⟨hb4.os,hb4.tape,hb4.output,hb4.size,hb4.block⟩
  have HCI5:=hide ((HCI3.out.1.below hb4').ref hr5)
  have HA5:=hide ((hr5.kept.block w.heap.size hX4l nAc).trans ((hb4.block w.heap.size hX2l).trans HA3.out))
  have HW5:=hide ((HW3.out.below hb4').trans hr5.kept (fun _ e=>.inl (.inl e)))
  clear hb4 hb4' hr5 y0 v1 a1 a2 a3 a4 q0 q1 q2 q3 q4 q5 p0 p1 p2 p3 p4 p5 CK
  obtain ⟨a0,a1,a2,a3,a4,a5,a6,a7,a8,a9,a10,a11,a12⟩:=cells13 HA5.out
  clear a0 a1 a2 a3 a4 a5 a6 a7 a8
  go_wp2_with fail
  refine (checkBound_any w5 c tb _ _ _ i HCI5.out.1.box).mono ?_
  intro e w6 hr6
  obtain rfl:=hr6.ret
  have HR6:=hide (HCI5.out.1.ref hr6)
  have HW6:=hide (HW5.out.trans hr6.kept (fun _ e=>.inl (.inl e)))
  clear hr6 a9 a10 a11 a12
  go_wp2_with fail
  go_end0
  exact ⟨rfl,HW6.out,⟨_,by rw [HS1.out];exact HR6.out.1,HVO.out⟩⟩
 | false =>
  have HAD:Hid (s.addAtom (atomKey was n o i)={ s with atoms:=s.atoms++[atomKey was n o i] }):=hide (by unfold CS.addAtom;rw [if_neg (by rw [HBQ.out];simp)])
  have zf:w1.frozen? ⟨c,2,none⟩=false:=Lib.frozen_of_heap HCI1.out.box 2
  obtain ⟨i0,hi0,hz0',hz1',hz2'⟩:=info_parts Tryz.infoKey
  go_wp2_with fail
  go_region_law (refine step_append_own_at rfl _ _ 204 rfl (c+1) 322 i0 _ 4 48 Tryz.underlying204 hi0 hz0' hz1' hz2' rfl (by decide) _ s.atoms.length (s.atoms.flatMap AK.cells) rfl (by exact own_below HCI1.out.own ⟨rfl,rfl,rfl,by simp,fun k hk=>Below.heap_alloc _ _ _ hk⟩) ⟨_,0,none⟩ 1 1 [.bool was.isSome,.string n.s,.string o.s,.int .i64 i.n] rfl rfl (news_new _ _ (by simp) [_,_,_,_] _) (by intro u hu;simp at hu;rcases hu with rfl | rfl | rfl | rfl <;> rfl) (by unfold maxLen;omega) (by omega) (by simp;omega) ?_;intro v' w7 hown' hgrow hat;obtain ⟨av7,cv7,rfl,_,_⟩:=row_shape hown';obtain ⟨hfin,hbel,e5,e6⟩:=CI.add (k:=atomKey was n o i) (HCI1.out.below (by exact ⟨rfl,rfl,rfl,by simp,fun k hk=>Below.heap_alloc _ _ _ hk⟩)) hgrow hown';have HFIN:=hide hfin;have HBEL:=hide hbel;have HGR:=hide hgrow;have HAT:=hide hat;clear hfin hbel hown' hgrow hat)
  all_goals
   have HA7:=hide ((CI.addBox (k:=w.heap.size) (c:=c) (v:=.slice av7 (s.atoms.length+1) cv7) HGR.out (by simp;omega) (fun e=>by have:=(HVB.out _ e).2;omega) (by omega)).trans (by exact (Below.heap_alloc _ _ _ (by omega)).trans HA1.out))
   have HW7:=hide (((by exact ⟨HW1.out.os,HW1.out.tape,HW1.out.output,(HW1.out.alloc _).size,(HW1.out.alloc _).block⟩ : Kp (CF c (.slice av s.atoms.length cv)) w _).grown HGR.out (fun _ e=>.inl (.inr e))).setCell (p:=⟨c,2,none⟩) (.inl (.inl rfl)) (.slice av7 (s.atoms.length+1) cv7))
   have HVO:Hid (∀ k,(Value.slice av7 (s.atoms.length+1) cv7).ownBlock=some k→(Value.slice av s.atoms.length cv).ownBlock=some k∨w.heap.size≤k):=hide (fun k e=>by
    rcases HAT.out with h | h
    ·exact .inl (h ▸ e)
    ·right;rw [h] at e;simp at e;omega)
   clear z2 z3 z4 z5 z6 zf e5 e6 HGR HBEL HAT
   generalize hX:w7.setCell ⟨c,2,none⟩ (.slice av7 (s.atoms.length+1) cv7)=X at *
   clear hX
   generalize hL1:s.atoms.length+1=L1 at *
   generalize hs1:({ s with atoms:=s.atoms++[atomKey was n o i] }:CS)=s1 at *
   have HL1:Hid (s1.atoms.length=L1):=hide (by rw [← hs1,← hL1];simp)
   clear hs1 hL1
   go_wp2_with fail
   have HS1:=hide (show ckAtom vs s (atomKey was n o i) n.line i=((s1.ref (decide ((8:Int)<(L1:Nat))) 1 n.line).ref (!(vs.any (sameV n.s))) 3 n.line).ref (badB i.n) 4 i.line by
    have e8:decide ((8:Int)<(L1:Nat))=decide (8<L1):=by rw [Bool.eq_iff_iff];simp;omega
    rw [e8];simp only [ckAtom,HAD.out,HL1.out];rfl)
   have hXl:w.heap.size<X.heap.size:=(Array.getElem?_eq_some_iff.1 HA7.out).1
   have hXc:c<X.heap.size:=HFIN.out.lt
   have y2:X.cell? ⟨c,2,none⟩=some (.slice av7 L1 cv7):=Lib.cell_of_heap HFIN.out.box 2
   have nAc:¬ w.heap.size=c:=by omega
   obtain ⟨a0,a1,a2,a3,a4,a5,a6,a7,a8,a9,a10,a11,a12⟩:=cells13 HA7.out
   clear a0 a5 a6 a7 a8 a9 a10 a11 a12
   go_region_held3 (fun Y=>Y.cell? ⟨c,2,none⟩=some (.slice av7 L1 cv7)∧Y.cell? ⟨w.heap.size,1,none⟩=some (.int .i64 (kindA n.k))∧Y.cell? ⟨w.heap.size,2,none⟩=some (.string n.s)∧Y.cell? ⟨w.heap.size,3,none⟩=some (.int .i64 n.n)∧Y.cell? ⟨w.heap.size,4,none⟩=some (.int .i64 n.line)) (first | go_keep | (exact ⟨by with_reducible assumption,by with_reducible assumption,by with_reducible assumption,by with_reducible assumption,by with_reducible assumption⟩))
    ((go_at_call 156;refine (refuse_any _ c tb (s1.rows:Int) (.slice av7 L1 cv7) s1.cl _ 1 n ?_).mono ?_;exact HFIN.out.box;intro e w2 hr2;obtain rfl:=hr2.ret;have z2:w2.cell? ⟨c,2,none⟩=some (.slice av7 L1 cv7):=Lib.cell_of_heap hr2.box 2;have z3:=(hr2.kept.cell (o:=1) hXl nAc).trans a1;have z4:=(hr2.kept.cell (o:=2) hXl nAc).trans a2;have z5:=(hr2.kept.cell (o:=3) hXl nAc).trans a3;have z6:=(hr2.kept.cell (o:=4) hXl nAc).trans a4))
   have HCI3:=hide (CI.ref (show CI X.drew c tb s1 _ from ⟨HFIN.out.box,HFIN.out.own⟩) hr2)
   have HA3:=hide ((hr2.kept.block w.heap.size hXl nAc).trans HA7.out)
   have hX2l:w.heap.size<w2.heap.size:=Nat.lt_of_lt_of_le hXl hr2.kept.size
   have hX2c:c<w2.heap.size:=Nat.lt_of_lt_of_le hXc hr2.kept.size
   have HW3:=hide (HW7.out.drew.trans hr2.kept (fun _ e=>.inl (.inl e)))
   have HT3:=hide (HT0.out.belowC (KB.out _ HW3.out))
   generalize hs3:s1.ref (decide ((8:Int)<(L1:Nat))) 1 n.line=s3 at *
   clear hs3 hr2 y2 a1 a2 a3 a4 z2 z3 z4 z5 z6
   obtain ⟨_,v1,_,_,_,hbl3,hbc3⟩:=HT3.out.cells
   obtain ⟨a0,a1,a2,a3,a4,a5,a6,a7,a8,a9,a10,a11,a12⟩:=cells13 HA3.out
   clear a0 a5 a6 a7 a8 a9 a10 a11 a12
   have ntc:¬ tb=c:=by omega
   have y0:w2.cell? ⟨c,0,none⟩=some (.pointer (some ⟨tb,0,none⟩)):=Lib.cell_of_heap HCI3.out.1.box 0
   have CK:Hid (∀ Y,Below w2.heap.size w2 Y→Calls Tryz.prog 157 #[vv,.string n.s] Y fun e w'=>e=.returned (.bool (vs.any (sameV n.s)))∧Below Y.heap.size Y w'):=hide (fun Y hY=>by
    have:=hasVar_any Y vv vs.length vs n.s (HT3.out.below hY).vsl hvl
    rw [List.take_length] at this
    exact this)
   generalize vs.any (sameV n.s)=bv at *
   go_wp2_with fail
   go_region_held3 (fun Y=>Y.cell? ⟨c,0,none⟩=some (.pointer (some ⟨tb,0,none⟩))∧Y.cell? ⟨tb,1,none⟩=some vv∧Y.cell? ⟨w.heap.size,1,none⟩=some (.int .i64 (kindA n.k))∧Y.cell? ⟨w.heap.size,2,none⟩=some (.string n.s)∧Y.cell? ⟨w.heap.size,3,none⟩=some (.int .i64 n.n)∧Y.cell? ⟨w.heap.size,4,none⟩=some (.int .i64 n.line)) (first | go_keep | (exact ⟨by with_reducible assumption,by with_reducible assumption,by with_reducible assumption,by with_reducible assumption,by with_reducible assumption,by with_reducible assumption⟩))
    (first
     | (go_at_call 157;refine (CK.out _ ?_).mono ?_;exact ⟨rfl,rfl,rfl,Nat.le_refl _,fun _ _=>rfl⟩;rintro e w4 ⟨rfl,hb4⟩;have q0:=(hb4.cell (p:=⟨c,0,none⟩) hX2c).trans y0;have q1:=(hb4.cell (p:=⟨tb,1,none⟩) hbl3).trans v1;have q2:=(hb4.cell (p:=⟨w.heap.size,1,none⟩) hX2l).trans a1;have q3:=(hb4.cell (p:=⟨w.heap.size,2,none⟩) hX2l).trans a2;have q4:=(hb4.cell (p:=⟨w.heap.size,3,none⟩) hX2l).trans a3;have q5:=(hb4.cell (p:=⟨w.heap.size,4,none⟩) hX2l).trans a4;have hX4l:=Nat.lt_of_lt_of_le hX2l hb4.size;have htl4:=Nat.lt_of_lt_of_le hbl3 hb4.size)
     | (go_at_call 156;refine (refuse_any _ c tb (s3.rows:Int) (.slice av7 L1 cv7) s3.cl _ 3 n ?_).mono ?_;exact (hb4.block c hX2c).trans HCI3.out.1.box;intro e w5 hr5;obtain rfl:=hr5.ret;have p0:w5.cell? ⟨c,0,none⟩=some (.pointer (some ⟨tb,0,none⟩)):=Lib.cell_of_heap hr5.box 0;have p1:=(hr5.kept.cell (o:=1) htl4 ntc).trans q1;have p2:=(hr5.kept.cell (o:=1) hX4l nAc).trans q2;have p3:=(hr5.kept.cell (o:=2) hX4l nAc).trans q3;have p4:=(hr5.kept.cell (o:=3) hX4l nAc).trans q4;have p5:=(hr5.kept.cell (o:=4) hX4l nAc).trans q5))
   have hb4':Below w2.heap.size w2 w4:=⟨hb4.os,hb4.tape,hb4.output,hb4.size,hb4.block⟩
   have HCI5:=hide ((HCI3.out.1.below hb4').ref hr5)
   have HA5:=hide ((hr5.kept.block w.heap.size hX4l nAc).trans ((hb4.block w.heap.size hX2l).trans HA3.out))
   have HW5:=hide ((HW3.out.below hb4').trans hr5.kept (fun _ e=>.inl (.inl e)))
   clear hb4 hb4' hr5 y0 v1 a1 a2 a3 a4 q0 q1 q2 q3 q4 q5 p0 p1 p2 p3 p4 p5 CK
   obtain ⟨a0,a1,a2,a3,a4,a5,a6,a7,a8,a9,a10,a11,a12⟩:=cells13 HA5.out
   clear a0 a1 a2 a3 a4 a5 a6 a7 a8
   go_wp2_with fail
   refine (checkBound_any w5 c tb _ _ _ i HCI5.out.1.box).mono ?_
   intro e w6 hr6
   obtain rfl:=hr6.ret
   have HR6:=hide (HCI5.out.1.ref hr6)
   have HW6:=hide (HW5.out.trans hr6.kept (fun _ e=>.inl (.inl e)))
   clear hr6 a9 a10 a11 a12
   go_wp2_with fail
   go_end0
   exact ⟨rfl,HW6.out,⟨_,by rw [HS1.out];exact HR6.out.1,HVO.out⟩⟩
end Go.Proofs.YtdjaiolfdbamcaaGreatDoor
