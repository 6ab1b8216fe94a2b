/- The walk of Find. -/
import Derived.Test.YtdjaiolfdbamcaaGreatDoorZWCFK
import Derived.Test.YtdjaiolfdbamcaaGreatDoorZCFind
import Derived.Test.YtdjaiolfdbamcaaGreatDoorZWCFJ
import Derived.Test.YtdjaiolfdbamcaaGreatDoorZPRound
set_option maxRecDepth 20000
set_option maxHeartbeats 4000000
namespace Go.Proofs.YtdjaiolfdbamcaaGreatDoor
open Go.RowKit
def FindR (w w':World) (e:Ending) (r:Option (Int×ByteArray×List Int)):Prop :=
 Below w.heap.size w w'∧match r with
 | none=>e=.returned (.agg #[.int .i64 0,.int .i64 0,.string ⟨#[]⟩,.slice none 0 0,.slice none 0 0])
 | some (code,x)=>∃ v u,e=.returned (.agg #[.int .i64 code,.int .i64 0,.string x.1,v,u])∧w'.ownsRow w.heap.size 3 1 v (x.2.length/2) ((x.2.take (x.2.length/2)).map (.int .i64))∧w'.ownsRow w.heap.size 3 1 u (x.2.length/2) ((x.2.drop (x.2.length/2)).map (.int .i64))∧∀ k,v.ownBlock=some k→u.ownBlock≠some k
theorem CFind_any (w:World) (tb:Nat) (vs:List VarA) (ms:List Hx.MA)
  (CP:Hid (∀ Y,Below w.heap.size w Y→Calls Tryz.prog 76 #[.pointer (some ⟨tb,0,none⟩)] Y fun e w'=>∃ s,e=.returned s∧PlM w' s (Cx.places ms)∧Below Y.heap.size Y w'))
  (CS:Hid (∀ Y,Below w.heap.size w Y→Calls Tryz.prog 77 #[.pointer (some ⟨tb,0,none⟩)] Y fun e w'=>∃ s,e=.returned s∧ScM w' s (Cx.scenes vs ms)∧Below Y.heap.size Y w'))
  (hpl:(Cx.places ms).length≤100000) (hsl:(Cx.scenes vs ms).length≤100000000) (hn:∀ p∈Cx.places ms,p.1.size≤1000∧p.2.length≤1000) (hm:∀ s∈Cx.scenes vs ms,∃ h,s.1.length=2*h∧h≤1000) :
  Calls Tryz.prog 46 #[.pointer (some ⟨tb,0,none⟩)] w fun e w'=>FindR w w' e (Cx.find vs ms):=by
 have HFI:Hid (Cx.find vs ms=match Cx.findOne 6 (Cx.places ms) (Cx.scenes vs ms) with | some x=>some (6,x) | none=>(Cx.findOne 7 (Cx.places ms) (Cx.scenes vs ms)).map fun x=>(7,x)):=hide rfl
 obtain ⟨fr,hfr⟩ : ∃ fr,fr=Cx.find vs ms:=⟨_,rfl⟩
 rw [← hfr] at HFI ⊢
 obtain ⟨ps,hps⟩ : ∃ ps,ps=Cx.places ms:=⟨_,rfl⟩
 obtain ⟨ss,hss⟩ : ∃ ss,ss=Cx.scenes vs ms:=⟨_,rfl⟩
 rw [← hps] at CP HFI hpl hn
 rw [← hss] at CS HFI hsl hm
 have HN:=hide hn
 have HMM:=hide hm
 clear hfr hps hss hn hm
 obtain ⟨X,hX⟩ : ∃ X,X=w.alloc (.cells zeroF 34):=⟨_,rfl⟩
 have hb0:Below w.heap.size w X:=by rw [hX];exact below_a _ _
 have hx0:X.heap[w.heap.size]? = some (.cells zeroF 34 (0,0)):=by rw [hX];exact heap_alloc_new _ _
 have hs0:X.heap.size=w.heap.size+1:=by rw [hX];simp
 have HB0:=hide hb0
 have HX0:=hide hx0
 clear hb0 hx0
 go_enter Tryz.func46,Tryz.ntmps46
 go_wp2_with fail
 rw [← hX]
 clear hX
 refine (CP.out _ HB0.out).mono ?_
 rintro e w1 ⟨sp,rfl,hP,hb1⟩
 have HP:=hide hP
 have HB1:=hide (HB0.out.trans (hb1.mono (by omega)))
 have HXB1:=hide hb1
 have hs1:=hb1.size
 clear hP hb1
 go_wp2_with fail
 refine (CS.out _ HB1.out).mono ?_
 rintro e w2 ⟨sq,rfl,hS,hb2⟩
 have HS:=hide hS
 have HP2:=hide (HP.out.below hb2)
 have HXB2:=hide (HXB1.out.trans (hb2.mono hs1))
 have hs2:=hb2.size
 have HF1:=hide (findOne_any w2 6 ps ss sp sq HP2.out HS.out hpl hsl HN.out HMM.out)
 clear hS hb2 HP
 go_wp2_with fail
 refine HF1.out.mono ?_
 intro e w3 hr
 obtain ⟨hb3,hr⟩:=hr
 have HXB3:=hide (HXB2.out.trans (hb3.mono (by omega)))
 have hs3:=hb3.size
 have hx3:=(HXB3.out.block w.heap.size (by omega)).trans HX0.out
 cases hf:Cx.findOne 6 ps ss with
 | some x =>
  obtain ⟨nm,l⟩:=x
  rw [hf] at hr HFI
  obtain ⟨v,u,rfl,ho1,ho2,hap⟩:=hr
  obtain ⟨h,hh⟩ : ∃ h,h=l.length/2:=⟨_,rfl⟩
  simp only at ho1 ho2
  rw [← hh] at ho1 ho2
  obtain ⟨av,cv,rfl,_,_⟩:=row_shape ho1
  obtain ⟨au,cu,rfl,_,_⟩:=row_shape ho2
  have HE:Hid (fr=some (6,nm,l)):=hide HFI.out
  have HH:=hide hh
  have HAP:=hide hap
  obtain ⟨Y,hY⟩ : ∃ Y,Y=w3.alloc (.cells #[.int .i64 6,.int .i64 0,.string nm,.slice av h cv,.slice au h cu] 34):=⟨_,rfl⟩
  have hbY:Below w3.heap.size w3 Y:=by rw [hY];exact below_a _ _
  have hxY:Y.heap[w3.heap.size]? = some (.cells #[.int .i64 6,.int .i64 0,.string nm,.slice av h cv,.slice au h cu] 34 (0,0)):=by rw [hY];exact heap_alloc_new _ _
  have hx0Y:=(hbY.block w.heap.size (by omega)).trans hx3
  have hsY:=hbY.size
  have hk0:=f5_kp Y w.heap.size (.int .i64 6) (.int .i64 0) (.string nm) (.slice av h cv) (.slice au h cu)
  have HU:=hide (f5_heap (a:=.int .i64 6) (b:=.int .i64 0) (c:=.string nm) (d:=.slice av h cv) (e:=.slice au h cu) hx0Y)
  have HBU:Hid (Below w.heap.size w (f5 Y w.heap.size (.int .i64 6) (.int .i64 0) (.string nm) (.slice av h cv) (.slice au h cu))):=hide ((HB0.out.trans (HXB3.out.mono (by omega))).trans ((hbY.mono (by omega)).trans (hk0.toBelow (fun k e=>by omega) (by omega))))
  have HO1:Hid ((f5 Y w.heap.size (.int .i64 6) (.int .i64 0) (.string nm) (.slice av h cv) (.slice au h cu)).ownsRow w.heap.size 3 1 (.slice av h cv) h ((l.take h).map (.int .i64))):=hide (hk0.own (own_mono (own_below ho1 hbY) (by omega)) (fun k hk e=>by have:=(ho1.lt k hk).1;omega))
  have HO2:Hid ((f5 Y w.heap.size (.int .i64 6) (.int .i64 0) (.string nm) (.slice av h cv) (.slice au h cu)).ownsRow w.heap.size 3 1 (.slice au h cu) h ((l.drop h).map (.int .i64))):=hide (hk0.own (own_mono (own_below ho2 hbY) (by omega)) (fun k hk e=>by have:=(ho2.lt k hk).1;omega))
  have y0:Y.cell? ⟨w3.heap.size,0,none⟩=some (.int .i64 6):=Lib.cell_of_heap hxY 0
  have y1:Y.cell? ⟨w3.heap.size,1,none⟩=some (.int .i64 0):=Lib.cell_of_heap hxY 1
  have y2:Y.cell? ⟨w3.heap.size,2,none⟩=some (.string nm):=Lib.cell_of_heap hxY 2
  have y3:Y.cell? ⟨w3.heap.size,3,none⟩=some (.slice av h cv):=Lib.cell_of_heap hxY 3
  have y4:Y.cell? ⟨w3.heap.size,4,none⟩=some (.slice au h cu):=Lib.cell_of_heap hxY 4
  have z0:Y.cell? ⟨w.heap.size,0,none⟩=some (.int .i64 0):=Lib.cell_of_heap hx0Y 0
  have z1:Y.cell? ⟨w.heap.size,1,none⟩=some (.int .i64 0):=Lib.cell_of_heap hx0Y 1
  have z2:Y.cell? ⟨w.heap.size,2,none⟩=some (.string ⟨#[]⟩):=Lib.cell_of_heap hx0Y 2
  have z3:Y.cell? ⟨w.heap.size,3,none⟩=some (.slice none 0 0):=Lib.cell_of_heap hx0Y 3
  have z4:Y.cell? ⟨w.heap.size,4,none⟩=some (.slice none 0 0):=Lib.cell_of_heap hx0Y 4
  have q0:Y.frozen? ⟨w.heap.size,0,none⟩=false:=Lib.frozen_of_heap hx0Y 0
  have q1:Y.frozen? ⟨w.heap.size,1,none⟩=false:=Lib.frozen_of_heap hx0Y 1
  have q2:Y.frozen? ⟨w.heap.size,2,none⟩=false:=Lib.frozen_of_heap hx0Y 2
  have q3:Y.frozen? ⟨w.heap.size,3,none⟩=false:=Lib.frozen_of_heap hx0Y 3
  have q4:Y.frozen? ⟨w.heap.size,4,none⟩=false:=Lib.frozen_of_heap hx0Y 4
  clear ho1 ho2 hap hb3 hx3 hbY hxY hx0Y hk0 hh hf HFI
  go_upto_region 3 with (fail)
  rw [← hY]
  clear hY
  go_wp2_with fail
  show bodyPost _ _ _ _ _ (f5 Y w.heap.size (.int .i64 6) (.int .i64 0) (.string nm) (.slice av h cv) (.slice au h cu))
  generalize f5 Y w.heap.size (.int .i64 6) (.int .i64 0) (.string nm) (.slice av h cv) (.slice au h cu)=U at *
  clear y0 y1 y2 y3 y4 z0 z1 z2 z3 z4 q0 q1 q2 q3 q4
  have y0:U.cell? ⟨w.heap.size,0,none⟩=some (.int .i64 6):=Lib.cell_of_heap HU.out 0
  have y1:U.cell? ⟨w.heap.size,1,none⟩=some (.int .i64 0):=Lib.cell_of_heap HU.out 1
  have y2:U.cell? ⟨w.heap.size,2,none⟩=some (.string nm):=Lib.cell_of_heap HU.out 2
  have y3:U.cell? ⟨w.heap.size,3,none⟩=some (.slice av h cv):=Lib.cell_of_heap HU.out 3
  have y4:U.cell? ⟨w.heap.size,4,none⟩=some (.slice au h cu):=Lib.cell_of_heap HU.out 4
  refine bodyPost_ret (v:=.agg #[.int .i64 6,.int .i64 0,.string nm,.slice av h cv,.slice au h cu]) (by simp [results,Tryz.results46,go_sem,y0,y1,y2,y3,y4]) rfl ?_
  rw [HE.out]
  refine ⟨HBU.out,_,_,rfl,?_,?_,HAP.out⟩
  ·show U.ownsRow _ _ _ _ (l.length/2) ((l.take (l.length/2)).map _)
   rw [← HH.out];exact HO1.out
  ·show U.ownsRow _ _ _ _ (l.length/2) ((l.drop (l.length/2)).map _)
   rw [← HH.out];exact HO2.out
 | none =>
  rw [hf] at hr HFI
  obtain rfl:=hr
  obtain ⟨Y,hY⟩ : ∃ Y,Y=w3.alloc (.cells #[.int .i64 0,.int .i64 0,.string ⟨#[]⟩,.slice none 0 0,.slice none 0 0] 34):=⟨_,rfl⟩
  have hbY:Below w3.heap.size w3 Y:=by rw [hY];exact below_a _ _
  have hxY:Y.heap[w3.heap.size]? = some (.cells zeroF 34 (0,0)):=by rw [hY];exact heap_alloc_new _ _
  have hx0Y:=(hbY.block w.heap.size (by omega)).trans hx3
  have hsY:Y.heap.size=w3.heap.size+1:=by rw [hY];simp
  have HF2:=hide (findOne_any Y 7 ps ss sp sq ((HP2.out.below hb3).below hbY) ((HS.out.below hb3).below hbY) hpl hsl HN.out HMM.out)
  have HBY:=hide hbY
  have HXY:=hide hxY
  have HX0Y:=hide hx0Y
  have c0:Y.cell? ⟨w3.heap.size,0,none⟩=some (.int .i64 0):=Lib.cell_of_heap hxY 0
  clear hbY hxY hx0Y hx3 hb3 hf HF1
  go_upto_region 3 with (fail)
  rw [← hY]
  clear hY
  go_wp2_with fail
  refine HF2.out.mono ?_
  intro e w4 hr
  obtain ⟨hb4,hr⟩:=hr
  have hs4:=hb4.size
  have b1:=(hb4.block w3.heap.size (by omega)).trans HXY.out
  have b0:=(hb4.block w.heap.size (by omega)).trans HX0Y.out
  have HBW4:Hid (Below w.heap.size w w4):=hide (((HB0.out.trans (HXB3.out.mono (by omega))).trans (HBY.out.mono (by omega))).trans (hb4.mono (by omega)))
  clear c0
  cases hf2:Cx.findOne 7 ps ss with
  | some x =>
   obtain ⟨nm,l⟩:=x
   rw [hf2] at hr HFI
   obtain ⟨v,u,rfl,ho1,ho2,hap⟩:=hr
   obtain ⟨h,hh⟩ : ∃ h,h=l.length/2:=⟨_,rfl⟩
   simp only at ho1 ho2
   rw [← hh] at ho1 ho2
   obtain ⟨av,cv,rfl,_,_⟩:=row_shape ho1
   obtain ⟨au,cu,rfl,_,_⟩:=row_shape ho2
   have HE:Hid (fr=some (7,nm,l)):=hide HFI.out
   have HH:=hide hh
   have HAP:=hide hap
   have HY1:=hide (f5_heap (a:=.int .i64 7) (b:=.int .i64 0) (c:=.string nm) (d:=.slice av h cv) (e:=.slice au h cu) b1)
   have hk1:=f5_kp w4 w3.heap.size (.int .i64 7) (.int .i64 0) (.string nm) (.slice av h cv) (.slice au h cu)
   have HU:=hide (f5_heap (a:=.int .i64 7) (b:=.int .i64 0) (c:=.string nm) (d:=.slice av h cv) (e:=.slice au h cu) ((hk1.block w.heap.size (by omega) (by omega)).trans b0))
   have hk0:=f5_kp (f5 w4 w3.heap.size (.int .i64 7) (.int .i64 0) (.string nm) (.slice av h cv) (.slice au h cu)) w.heap.size (.int .i64 7) (.int .i64 0) (.string nm) (.slice av h cv) (.slice au h cu)
   have HBU:Hid (Below w.heap.size w (f5 (f5 w4 w3.heap.size (.int .i64 7) (.int .i64 0) (.string nm) (.slice av h cv) (.slice au h cu)) w.heap.size (.int .i64 7) (.int .i64 0) (.string nm) (.slice av h cv) (.slice au h cu))):=hide ((HBW4.out.trans (hk1.toBelow (fun k e=>by omega) (by omega))).trans (hk0.toBelow (fun k e=>by omega) (by have:=hk1.size;omega)))
   have HO1:Hid ((f5 (f5 w4 w3.heap.size (.int .i64 7) (.int .i64 0) (.string nm) (.slice av h cv) (.slice au h cu)) w.heap.size (.int .i64 7) (.int .i64 0) (.string nm) (.slice av h cv) (.slice au h cu)).ownsRow w.heap.size 3 1 (.slice av h cv) h ((l.take h).map (.int .i64))):=hide (hk0.own (hk1.own (own_mono ho1 (by omega)) (fun k hk e=>by have:=(ho1.lt k hk).1;omega)) (fun k hk e=>by have:=(ho1.lt k hk).1;omega))
   have HO2:Hid ((f5 (f5 w4 w3.heap.size (.int .i64 7) (.int .i64 0) (.string nm) (.slice av h cv) (.slice au h cu)) w.heap.size (.int .i64 7) (.int .i64 0) (.string nm) (.slice av h cv) (.slice au h cu)).ownsRow w.heap.size 3 1 (.slice au h cu) h ((l.drop h).map (.int .i64))):=hide (hk0.own (hk1.own (own_mono ho2 (by omega)) (fun k hk e=>by have:=(ho2.lt k hk).1;omega)) (fun k hk e=>by have:=(ho2.lt k hk).1;omega))
   have y0:w4.cell? ⟨w3.heap.size,0,none⟩=some (.int .i64 0):=Lib.cell_of_heap b1 0
   have y1:w4.cell? ⟨w3.heap.size,1,none⟩=some (.int .i64 0):=Lib.cell_of_heap b1 1
   have y2:w4.cell? ⟨w3.heap.size,2,none⟩=some (.string ⟨#[]⟩):=Lib.cell_of_heap b1 2
   have y3:w4.cell? ⟨w3.heap.size,3,none⟩=some (.slice none 0 0):=Lib.cell_of_heap b1 3
   have y4:w4.cell? ⟨w3.heap.size,4,none⟩=some (.slice none 0 0):=Lib.cell_of_heap b1 4
   have p0:w4.frozen? ⟨w3.heap.size,0,none⟩=false:=Lib.frozen_of_heap b1 0
   have p1:w4.frozen? ⟨w3.heap.size,1,none⟩=false:=Lib.frozen_of_heap b1 1
   have p2:w4.frozen? ⟨w3.heap.size,2,none⟩=false:=Lib.frozen_of_heap b1 2
   have p3:w4.frozen? ⟨w3.heap.size,3,none⟩=false:=Lib.frozen_of_heap b1 3
   have p4:w4.frozen? ⟨w3.heap.size,4,none⟩=false:=Lib.frozen_of_heap b1 4
   have z0:w4.cell? ⟨w.heap.size,0,none⟩=some (.int .i64 0):=Lib.cell_of_heap b0 0
   have z1:w4.cell? ⟨w.heap.size,1,none⟩=some (.int .i64 0):=Lib.cell_of_heap b0 1
   have z2:w4.cell? ⟨w.heap.size,2,none⟩=some (.string ⟨#[]⟩):=Lib.cell_of_heap b0 2
   have z3:w4.cell? ⟨w.heap.size,3,none⟩=some (.slice none 0 0):=Lib.cell_of_heap b0 3
   have z4:w4.cell? ⟨w.heap.size,4,none⟩=some (.slice none 0 0):=Lib.cell_of_heap b0 4
   have q0:w4.frozen? ⟨w.heap.size,0,none⟩=false:=Lib.frozen_of_heap b0 0
   have q1:w4.frozen? ⟨w.heap.size,1,none⟩=false:=Lib.frozen_of_heap b0 1
   have q2:w4.frozen? ⟨w.heap.size,2,none⟩=false:=Lib.frozen_of_heap b0 2
   have q3:w4.frozen? ⟨w.heap.size,3,none⟩=false:=Lib.frozen_of_heap b0 3
   have q4:w4.frozen? ⟨w.heap.size,4,none⟩=false:=Lib.frozen_of_heap b0 4
   clear ho1 ho2 hap hh b0 b1 hk1 hk0 hb4 hf2 HFI
   go_wp2_with fail
   show bodyPost _ _ _ _ _ (f5 (f5 w4 w3.heap.size (.int .i64 7) (.int .i64 0) (.string nm) (.slice av h cv) (.slice au h cu)) w.heap.size (.int .i64 7) (.int .i64 0) (.string nm) (.slice av h cv) (.slice au h cu))
   generalize f5 (f5 w4 w3.heap.size (.int .i64 7) (.int .i64 0) (.string nm) (.slice av h cv) (.slice au h cu)) w.heap.size (.int .i64 7) (.int .i64 0) (.string nm) (.slice av h cv) (.slice au h cu)=U at *
   clear y0 y1 y2 y3 y4 z0 z1 z2 z3 z4 q0 q1 q2 q3 q4 p0 p1 p2 p3 p4
   have y0:U.cell? ⟨w.heap.size,0,none⟩=some (.int .i64 7):=Lib.cell_of_heap HU.out 0
   have y1:U.cell? ⟨w.heap.size,1,none⟩=some (.int .i64 0):=Lib.cell_of_heap HU.out 1
   have y2:U.cell? ⟨w.heap.size,2,none⟩=some (.string nm):=Lib.cell_of_heap HU.out 2
   have y3:U.cell? ⟨w.heap.size,3,none⟩=some (.slice av h cv):=Lib.cell_of_heap HU.out 3
   have y4:U.cell? ⟨w.heap.size,4,none⟩=some (.slice au h cu):=Lib.cell_of_heap HU.out 4
   refine bodyPost_ret (v:=.agg #[.int .i64 7,.int .i64 0,.string nm,.slice av h cv,.slice au h cu]) (by simp [results,Tryz.results46,go_sem,y0,y1,y2,y3,y4]) rfl ?_
   rw [HE.out]
   refine ⟨HBU.out,_,_,rfl,?_,?_,HAP.out⟩
   ·show U.ownsRow _ _ _ _ (l.length/2) ((l.take (l.length/2)).map _)
    rw [← HH.out];exact HO1.out
   ·show U.ownsRow _ _ _ _ (l.length/2) ((l.drop (l.length/2)).map _)
    rw [← HH.out];exact HO2.out
  | none =>
   rw [hf2] at hr HFI
   obtain rfl:=hr
   have HE:Hid (fr=none):=hide HFI.out
   have HY1:=hide (f5_heap (a:=.int .i64 0) (b:=.int .i64 0) (c:=.string ⟨#[]⟩) (d:=.slice none 0 0) (e:=.slice none 0 0) b1)
   have hk1:=f5_kp w4 w3.heap.size (.int .i64 0) (.int .i64 0) (.string ⟨#[]⟩) (.slice none 0 0) (.slice none 0 0)
   have HU:=hide (f5_heap (a:=.int .i64 0) (b:=.int .i64 0) (c:=.string ⟨#[]⟩) (d:=.slice none 0 0) (e:=.slice none 0 0) ((hk1.block w.heap.size (by omega) (by omega)).trans b0))
   have hk0:=f5_kp (f5 w4 w3.heap.size (.int .i64 0) (.int .i64 0) (.string ⟨#[]⟩) (.slice none 0 0) (.slice none 0 0)) w.heap.size (.int .i64 0) (.int .i64 0) (.string ⟨#[]⟩) (.slice none 0 0) (.slice none 0 0)
   have HBU:Hid (Below w.heap.size w (f5 (f5 w4 w3.heap.size (.int .i64 0) (.int .i64 0) (.string ⟨#[]⟩) (.slice none 0 0) (.slice none 0 0)) w.heap.size (.int .i64 0) (.int .i64 0) (.string ⟨#[]⟩) (.slice none 0 0) (.slice none 0 0))):=hide ((HBW4.out.trans (hk1.toBelow (fun k e=>by omega) (by omega))).trans (hk0.toBelow (fun k e=>by omega) (by have:=hk1.size;omega)))
   have y0:w4.cell? ⟨w3.heap.size,0,none⟩=some (.int .i64 0):=Lib.cell_of_heap b1 0
   have y1:w4.cell? ⟨w3.heap.size,1,none⟩=some (.int .i64 0):=Lib.cell_of_heap b1 1
   have y2:w4.cell? ⟨w3.heap.size,2,none⟩=some (.string ⟨#[]⟩):=Lib.cell_of_heap b1 2
   have y3:w4.cell? ⟨w3.heap.size,3,none⟩=some (.slice none 0 0):=Lib.cell_of_heap b1 3
   have y4:w4.cell? ⟨w3.heap.size,4,none⟩=some (.slice none 0 0):=Lib.cell_of_heap b1 4
   have p0:w4.frozen? ⟨w3.heap.size,0,none⟩=false:=Lib.frozen_of_heap b1 0
   have p1:w4.frozen? ⟨w3.heap.size,1,none⟩=false:=Lib.frozen_of_heap b1 1
   have p2:w4.frozen? ⟨w3.heap.size,2,none⟩=false:=Lib.frozen_of_heap b1 2
   have p3:w4.frozen? ⟨w3.heap.size,3,none⟩=false:=Lib.frozen_of_heap b1 3
   have p4:w4.frozen? ⟨w3.heap.size,4,none⟩=false:=Lib.frozen_of_heap b1 4
   have z0:w4.cell? ⟨w.heap.size,0,none⟩=some (.int .i64 0):=Lib.cell_of_heap b0 0
   have z1:w4.cell? ⟨w.heap.size,1,none⟩=some (.int .i64 0):=Lib.cell_of_heap b0 1
   have z2:w4.cell? ⟨w.heap.size,2,none⟩=some (.string ⟨#[]⟩):=Lib.cell_of_heap b0 2
   have z3:w4.cell? ⟨w.heap.size,3,none⟩=some (.slice none 0 0):=Lib.cell_of_heap b0 3
   have z4:w4.cell? ⟨w.heap.size,4,none⟩=some (.slice none 0 0):=Lib.cell_of_heap b0 4
   have q0:w4.frozen? ⟨w.heap.size,0,none⟩=false:=Lib.frozen_of_heap b0 0
   have q1:w4.frozen? ⟨w.heap.size,1,none⟩=false:=Lib.frozen_of_heap b0 1
   have q2:w4.frozen? ⟨w.heap.size,2,none⟩=false:=Lib.frozen_of_heap b0 2
   have q3:w4.frozen? ⟨w.heap.size,3,none⟩=false:=Lib.frozen_of_heap b0 3
   have q4:w4.frozen? ⟨w.heap.size,4,none⟩=false:=Lib.frozen_of_heap b0 4
   clear b0 b1 hk1 hk0 hb4 hf2 HFI
   go_wp2_with fail
   show bodyPost _ _ _ _ _ (f5 (f5 w4 w3.heap.size (.int .i64 0) (.int .i64 0) (.string ⟨#[]⟩) (.slice none 0 0) (.slice none 0 0)) w.heap.size (.int .i64 0) (.int .i64 0) (.string ⟨#[]⟩) (.slice none 0 0) (.slice none 0 0))
   generalize f5 (f5 w4 w3.heap.size (.int .i64 0) (.int .i64 0) (.string ⟨#[]⟩) (.slice none 0 0) (.slice none 0 0)) w.heap.size (.int .i64 0) (.int .i64 0) (.string ⟨#[]⟩) (.slice none 0 0) (.slice none 0 0)=U at *
   clear y0 y1 y2 y3 y4 z0 z1 z2 z3 z4 q0 q1 q2 q3 q4 p0 p1 p2 p3 p4
   have y0:U.cell? ⟨w.heap.size,0,none⟩=some (.int .i64 0):=Lib.cell_of_heap HU.out 0
   have y1:U.cell? ⟨w.heap.size,1,none⟩=some (.int .i64 0):=Lib.cell_of_heap HU.out 1
   have y2:U.cell? ⟨w.heap.size,2,none⟩=some (.string ⟨#[]⟩):=Lib.cell_of_heap HU.out 2
   have y3:U.cell? ⟨w.heap.size,3,none⟩=some (.slice none 0 0):=Lib.cell_of_heap HU.out 3
   have y4:U.cell? ⟨w.heap.size,4,none⟩=some (.slice none 0 0):=Lib.cell_of_heap HU.out 4
   refine bodyPost_ret (v:=.agg #[.int .i64 0,.int .i64 0,.string ⟨#[]⟩,.slice none 0 0,.slice none 0 0]) (by simp [results,Tryz.results46,go_sem,y0,y1,y2,y3,y4]) rfl ?_
   rw [HE.out]
   exact ⟨HBU.out,rfl⟩
end Go.Proofs.YtdjaiolfdbamcaaGreatDoor
/- Find,of a table in which the checker has found nothing. -/
namespace Go.Proofs.YtdjaiolfdbamcaaGreatDoor
open Go.RowKit
theorem rowsAll_map (gs:List MG):Cx.rowsAll (gs.map (·.a))=gs.flatMap (·.a.rows):=by unfold Cx.rowsAll;rw [List.flatMap_map]
theorem rowNames_len (ms:List Hx.MA):(Cx.rowNames ms).length=(Cx.rowsAll ms).length:=by
 unfold Cx.rowNames Cx.rowsAll
 induction ms with
 | nil=>rfl
 | cons m t ih=>simp only [List.flatMap_cons,List.length_append,List.length_map,ih]
theorem leaf_last {gs:List MG} (hl:Links gs) (h0:0<gs.length):0<(Cx.leaves (gs.map (·.a))).length:=by
 refine List.length_pos_of_mem (a:=gs.length-1) ?_
 unfold Cx.leaves Cx.leavesTo
 rw [List.mem_filter]
 refine ⟨by simp;omega,?_⟩
 unfold Cx.isLeaf
 rw [List.isEmpty_iff]
 unfold Cx.innerIx
 rw [List.map_eq_nil_iff,List.filter_eq_nil_iff]
 intro p hp he
 obtain ⟨m,k⟩:=p
 have hk:=List.mem_zipIdx hp
 simp at hk
 have ho:=outer_lt hl (i:=k) (by omega)
 have hoe:Cx.outerOf (gs.map (·.a)) k=gs[k].a.outer:=outer_of (by omega)
 simp at he
 rw [hoe] at ho
 rw [hk.2] at he
 omega
theorem fine_choices {vs:List VarA} {gs:List MG} (hF:Fine vs gs):∀ i,(Cx.choice vs (Cx.allAtoms vs (gs.map (·.a))) i).length≤17:=by
 obtain ⟨s,hs8,hrow⟩:=hF.row
 have hin:=Cx.all_in (fun m hm r hr=>(hrow m hm r hr).1)
 exact fun i=>Cx.choice_le hin (by rw [List.length_map];exact hs8) i
theorem fine_cs {vs:List VarA} {gs:List MG} (hF:Fine vs gs):(∀ c∈Cx.choices vs (gs.map (·.a)),c.length≤17)∧∀ c∈Cx.choices vs (gs.map (·.a)),0<c.length:=by
 refine ⟨fun c hc=>?_,fun c hc=>?_⟩
 ·obtain ⟨j,_,e⟩:=List.mem_map.1 hc
  rw [← e];exact fine_choices hF j
 ·obtain ⟨j,_,e⟩:=List.mem_map.1 hc
  rw [← e];exact Cx.least_pos _ _ _
theorem combine_bound {cs:List (List Int)} (h:∀ c∈cs,c.length≤17) (hl:cs.length≤6) (i:Nat):(Cx.combine (cs.take i)).length≤100000000:=by
 refine Nat.le_trans (Cx.combine_le h i) ?_
 have h1:min i cs.length≤6:=by omega
 exact Nat.le_trans (Nat.pow_le_pow_right (by decide) h1) (by decide)
theorem fine_combine {vs:List VarA} {gs:List MG} (hF:Fine vs gs):∀ i,(Cx.combine ((Cx.choices vs (gs.map (·.a))).take i)).length≤100000000:=by
 have hv:=hF.vars
 exact combine_bound (fine_cs hF).1 (by rw [choices_len];omega)
theorem scenes_bound {vs:List VarA} {gs:List MG} (hF:Fine vs gs):(Cx.scenes vs (gs.map (·.a))).length≤100000000:=by
 have:=fine_combine hF (Cx.choices vs (gs.map (·.a))).length
 rw [List.take_length] at this
 unfold Cx.scenes
 rw [List.length_map]
 exact this
theorem scenes_lens (vs:List VarA) (ms:List Hx.MA):∀ s∈Cx.scenes vs ms,s.1.length=2*vs.length:=by
 intro s hs
 have hcl:=Cx.combine_lens (Cx.choices vs ms) (Cx.choices vs ms).length (Nat.le_refl _)
 rw [List.take_length,choices_len] at hcl
 obtain ⟨l,hl,e⟩:=List.mem_map.1 hs
 rw [← e]
 exact hcl l hl
theorem places_count (ms:List Hx.MA):(Cx.places ms).length=(Cx.leaves ms).length:=by unfold Cx.places;rw [List.length_map]
theorem places_le (ms:List Hx.MA):(Cx.places ms).length≤ms.length:=by rw [places_count];exact leavesTo_len ms ms.length
theorem places_fine {gs:List MG} (hL:Links gs) (hm:gs.length≤12) (hnm:∀ m∈gs,m.a.name.s.size≤1000):∀ p∈Cx.places (gs.map (·.a)),p.1.size≤1000∧p.2.length≤1000:=by
 intro p hp
 obtain ⟨i,hi,e⟩:=List.mem_map.1 hp
 have hil:i<gs.length:=by have:=leaves_lt (gs.map (·.a)) i hi;rw [List.length_map] at this;exact this
 rw [← e]
 have h1:(Cx.nameOf (gs.map (·.a)) i).size≤1000:=by rw [name_of hil];exact hnm _ (List.getElem_mem hil)
 have h2:((Cx.path (gs.map (·.a)) i).map fun j=>Cx.setOf (gs.map (·.a)) (Cx.nameOf (gs.map (·.a)) j)).length≤1000:=by
  rw [List.length_map]
  exact Nat.le_trans (path_len hL i hil) (by omega)
 exact ⟨h1,h2⟩
theorem mode_rows {gs:List MG} {m:MG} (hm:m∈gs) (h:(gs.flatMap (·.a.rows)).length≤24):m.a.rows.length≤10000:=by
 obtain ⟨a,b,e⟩:=List.append_of_mem hm
 rw [e,List.flatMap_append,List.flatMap_cons] at h
 simp only [List.length_append] at h
 omega
theorem find_tab (w:World) (base tb:Nat) (vt vv vm:Value) (vs:List VarA) (gs:List MG) (hT:PT w base tb vt vs gs (fun k=>k<w.heap.size) vv vm) (hL:Links gs) (hF:Fine vs gs) (h0:0<gs.length) (hnm:∀ m∈gs,m.a.name.s.size≤1000) (hat:Hid (2*(atomsOf vs (Cx.rowsAll (gs.map (·.a)))).length≤100000)) :
  Calls Tryz.prog 46 #[.pointer (some ⟨tb,0,none⟩)] w fun e w'=>FindR w w' e (Cx.find vs (gs.map (·.a))):=by
 have hv:=hF.vars
 have hm:=hF.modes
 have hv4:vs.length≤400:=by omega
 have hv5:vs.length≤1000:=by omega
 have hm1:gs.length≤1000:=by omega
 have hr:Hid ((Cx.rowsAll (gs.map (·.a))).length≤24):=hide (by rw [rowsAll_map];exact hF.rows)
 have hpm:Hid ((Cx.places (gs.map (·.a))).length≤100000):=hide (Nat.le_trans (places_le _) (by rw [List.length_map];omega))
 have hp0:Hid (0<(Cx.places (gs.map (·.a))).length):=hide (by rw [places_count];exact leaf_last hL h0)
 obtain ⟨s,_,hrow⟩:=hF.row
 refine CFind_any w tb vs (gs.map (·.a)) (hide (fun Y hY=>?_)) (hide (fun Y hY=>?_)) hpm.out (scenes_bound hF) (places_fine hL hm hnm) (fun s hs=>⟨vs.length,scenes_lens vs _ s hs,hv5⟩)
 ·refine (placesOf_any Y base tb vt vv vm vs gs _ (hT.below hY) hL hm1 (by rw [rowNames_len];exact Nat.le_trans hr.out (by decide)) hnm).mono ?_
  rintro e w' ⟨sl,pv,rfl,hP,hb⟩
  exact ⟨sl,rfl,hP.plm hp0.out,hb⟩
 ·refine (scenesOf_any Y base tb vt vv vm vs gs ((hT.below hY).mono (fun k hk=>Nat.lt_of_lt_of_le hk hY.size)) hv4 hm1 (fun m hm'=>⟨mode_rows hm' hF.rows,fun r hr'=>(hrow m hm' r hr').1.ok⟩) hat.out (Nat.le_trans hr.out (by decide)) (fun i=>Nat.le_trans (fine_choices hF i) (by decide)) (fine_combine hF) (Cx.combine_pos (fine_cs hF).2)).mono ?_
  rintro e w' ⟨sl,rfl,hS,hb⟩
  exact ⟨sl,rfl,hS,hb⟩
end Go.Proofs.YtdjaiolfdbamcaaGreatDoor
/- Find and Image,of a table that was read and in which nothing was found. -/
namespace Go.Proofs.YtdjaiolfdbamcaaGreatDoor
open Go.RowKit
theorem image_tab (w:World) (base tb:Nat) (vt vv vm:Value) (vs:List VarA) (gs:List MG) (hT:PT w base tb vt vs gs (fun k=>k<w.heap.size) vv vm) (hL:Links gs) (h:TabAll vs gs) :
  Calls Tryz.prog 47 #[.pointer (some ⟨tb,0,none⟩)] w fun e w'=>e=.returned (.string ⟨(Cx.imageOf vs (gs.map (·.a))).toArray⟩)∧Below w.heap.size w w' :=
 Image_any w base tb vt vv vm vs gs hT (tab_ok hL h.fine h.some) (tab_r h.fine) (h.program hL) h.name (Nat.le_trans (h.body hL) (by decide))
theorem find_all (w:World) (base tb:Nat) (vt vv vm:Value) (vs:List VarA) (gs:List MG) (hT:PT w base tb vt vs gs (fun k=>k<w.heap.size) vv vm) (hL:Links gs) (h:TabAll vs gs) :
  Calls Tryz.prog 46 #[.pointer (some ⟨tb,0,none⟩)] w fun e w'=>FindR w w' e (Cx.find vs (gs.map (·.a))) :=
 find_tab w base tb vt vv vm vs gs hT hL h.fine h.some (fun m hm=>Nat.le_trans (h.names m hm) (by decide)) (hide (Nat.le_trans (Nat.mul_le_mul_left 2 h.atoms) (by decide)))
end Go.Proofs.YtdjaiolfdbamcaaGreatDoor
/- The walk of Compile. -/
namespace Go.Proofs.YtdjaiolfdbamcaaGreatDoor
open Go.RowKit
def CompR (s:ByteArray) (w:World) (e:Ending) (w':World):Prop :=
 Below w.heap.size w w'∧((∃ code line:Nat,e=.returned (.tuple #[.string ⟨#[]⟩,.agg (faultC code line)])∧FaultOf s code line∧code≠0) ∨
  ∃ (ts:List Hx.Tok) (vs:List VarA) (gs:List MG),TableOf s ts∧TabD ts vs (gs.map (·.a))∧Links gs∧TabAll vs gs∧match Cx.find vs (gs.map (·.a)) with
   | none=>e=.returned (.tuple #[.string ⟨(Cx.imageOf vs (gs.map (·.a))).toArray⟩,.agg (faultC 0 0)])
   | some (code,x)=>∃ v u,e=.returned (.tuple #[.string ⟨#[]⟩,.agg #[.int .i64 code,.int .i64 0,.string x.1,v,u]])∧w'.ownsRow w.heap.size 3 1 v (x.2.length/2) ((x.2.take (x.2.length/2)).map (.int .i64))∧w'.ownsRow w.heap.size 3 1 u (x.2.length/2) ((x.2.drop (x.2.length/2)).map (.int .i64))∧∀ k,v.ownBlock=some k→u.ownBlock≠some k)
theorem find_code {vs:List VarA} {ms:List Hx.MA} {code:Int} {x:ByteArray×List Int} (h:Cx.find vs ms=some (code,x)):code=6∨code=7:=by
 unfold Cx.find at h
 split at h
 ·simp at h;exact .inl h.1.symm
 ·rw [Option.map_eq_some_iff] at h
  obtain ⟨a,_,e⟩:=h
  cases e
  exact .inr rfl
theorem compile_any (s:ByteArray) (w:World) (hs:s.size≤maxLen) (hsg:SignsIs w) (htab:∀ W,Below w.heap.size w W→Lib.TabIs Tryz.prog W "internal/strconv.uint64pow10" .u64 Lib.pow10Tab) :
  Calls Tryz.prog 18 #[.string s] w fun e w'=>CompR s w e w':=by
 have hB1:Below w.heap.size w (w.alloc (.cells (faultC 0 0) 34)):=(Below.refl _ _).alloc (Nat.le_refl _) _
 have hW1:(w.alloc (.cells (faultC 0 0) 34)).heap[w.heap.size]? = some (.cells (faultC 0 0) 34 (0,0)):=heap_alloc_new w _
 have hz1:(w.alloc (.cells (faultC 0 0) 34)).heap.size=w.heap.size+1:=by simp
 have hsg1:SignsIs (w.alloc (.cells (faultC 0 0) 34)):=hsg.below hB1 (Nat.le_refl _)
 have HRD:=hide (read_any s (w.alloc (.cells (faultC 0 0) 34)) hs hsg1 (fun W hW=>htab W (hB1.trans (hW.mono (by omega)))))
 have HB1:=hide hB1
 have HW1:=hide hW1
 have HZ1:=hide hz1
 clear hB1 hW1 hz1 hsg1 htab hsg
 rw [show (faultC 0 0:Array Value)=#[.int .i64 0,.int .i64 0,.string ⟨#[]⟩,.slice none 0 0,.slice none 0 0] from rfl] at HRD HB1 HW1 HZ1
 go_enter Tryz.func18,Tryz.ntmps18
 go_wp2_with fail
 generalize w.alloc (.cells #[.int .i64 0,.int .i64 0,.string ⟨#[]⟩,.slice none 0 0,.slice none 0 0] 34)=W1 at *
 refine HRD.out.mono ?_
 rintro e w2 ⟨hb2,hcase⟩
 have hs2:=hb2.size
 rw [HZ1.out] at hs2
 have hz:=HZ1.out
 have hR2:=(hb2.block w.heap.size (by omega)).trans HW1.out
 have hB2:=HB1.out.trans (hb2.mono (by omega))
 rcases hcase with ⟨code,line,rfl,hf,hc⟩ | ⟨tb,gt,cap,ts,rfl,htb,hm,hg,hto,hTM⟩
 ·have hX1:=heap_alloc_new w2 (.cells (faultC code line) 34)
  have hX0:=(((Below.refl w2.heap.size w2).alloc (Nat.le_refl _) (.cells (faultC code line) 34)).block w.heap.size (by omega)).trans hR2
  have hBX:=hB2.alloc (by omega) (.cells (faultC code line) 34)
  have hcb:((code:Int) != 0)=true:=by simp;omega
  have hcc:((code:Int) == 0)=false:=by simp;omega
  have HF:=hide hf
  have HC:=hide hc
  clear hb2 hB2 hR2 hf hc HRD
  unfold faultC at hX1 hX0 hBX ⊢
  go_wp2_with fail
  generalize w2.alloc (.cells #[.int .i64 code,.int .i64 line,.string ⟨#[]⟩,.slice none 0 0,.slice none 0 0] 34)=X at *
  obtain ⟨a0,a1,a2,a3,a4,_,_,_,_,_⟩:=fc_of (c:=code) (l:=line) hX1
  obtain ⟨y0,y1,y2,y3,y4,z0,z1,z2,z3,z4⟩:=fc_of (c:=0) (l:=0) hX0
  have HBX:Hid (Below w.heap.size w X.drew):=hide ⟨hBX.os,hBX.tape,hBX.output,hBX.size,hBX.block⟩
  clear hX0 hX1 hBX
  go_region
  all_goals
   go_wp2_with fail
   refine bodyPost_ret (v:=.tuple #[.string ⟨#[]⟩,.agg #[.int .i64 code,.int .i64 line,.string ⟨#[]⟩,.slice none 0 0,.slice none 0 0]]) (by simp [results,Tryz.results18,go_sem, *]) rfl ?_
   exact ⟨fset_below HBX.out,.inl ⟨code,line,rfl,HF.out,HC.out⟩⟩
 ·obtain ⟨hts,htok,_,_,_⟩:=Hx.lex_ok s.data.toList (by have:=hto.1;simp;omega) ts hto.2.1
  obtain ⟨base,vt,vv,vm,vs,gs,hPT,hL,hD,hck,_,_⟩:=hTM
  have hAll:=tab_all hD hck hts.few (fun t ht=>(htok t ht).size)
  obtain ⟨X,hXe⟩ : ∃ X,X=w2.alloc (.cells #[.int .i64 0,.int .i64 0,.string ⟨#[]⟩,.slice none 0 0,.slice none 0 0] 34):=⟨_,rfl⟩
  have hBA:Below w2.heap.size w2 X:=by rw [hXe];exact below_a _ _
  have hXs:X.heap.size=w2.heap.size+1:=by rw [hXe];simp
  have hXF:X.heap[w2.heap.size]? = some (.cells zeroF 34 (0,0)):=by rw [hXe];exact heap_alloc_new _ _
  have hX0:=(hBA.block w.heap.size (by omega)).trans hR2
  have hPX:PT X base tb vt vs gs (fun k=>k<X.heap.size) vv vm:=(hPT.below hBA).mono (fun k hk=>Nat.lt_of_lt_of_le hk hBA.size)
  have HFI:=hide (find_all X base tb vt vv vm vs gs hPX hL hAll)
  have HPT:=hide hPT
  have HBA:=hide hBA
  have HX0:=hide hX0
  have HXF:=hide hXF
  have HBX:Hid (Below w.heap.size w X):=hide (hB2.trans (hBA.mono (by omega)))
  have HTO:=hide hto
  have HD:=hide hD
  have HL:=hide hL
  have HA:=hide hAll
  have c0:X.cell? ⟨w2.heap.size,0,none⟩=some (.int .i64 0):=Lib.cell_of_heap hXF 0
  clear hts htok hPT hD hck hAll hBA hX0 hPX hXF hto hL hm hg htb hb2 hB2 hR2 HRD
  rw [show (faultC 0 0:Array Value)=#[.int .i64 0,.int .i64 0,.string ⟨#[]⟩,.slice none 0 0,.slice none 0 0] from rfl]
  go_upto_region 2 with (fail)
  rw [← hXe]
  clear hXe
  go_wp2_with fail
  refine HFI.out.mono ?_
  intro e w3 hr
  obtain ⟨hb3,hr⟩:=hr
  have hs3:=hb3.size
  have b1:=(hb3.block w2.heap.size (by omega)).trans HXF.out
  have b0:=(hb3.block w.heap.size (by omega)).trans HX0.out
  clear c0
  obtain ⟨fr,hfr⟩ : ∃ fr,fr=Cx.find vs (gs.map (·.a)):=⟨_,rfl⟩
  rw [← hfr] at hr
  have HFR:=hide hfr
  clear hfr
  cases fr with
  | none =>
   obtain rfl:=hr
   have y0:w3.cell? ⟨w2.heap.size,0,none⟩=some (.int .i64 0):=Lib.cell_of_heap b1 0
   have y1:w3.cell? ⟨w2.heap.size,1,none⟩=some (.int .i64 0):=Lib.cell_of_heap b1 1
   have y2:w3.cell? ⟨w2.heap.size,2,none⟩=some (.string ⟨#[]⟩):=Lib.cell_of_heap b1 2
   have y3:w3.cell? ⟨w2.heap.size,3,none⟩=some (.slice none 0 0):=Lib.cell_of_heap b1 3
   have y4:w3.cell? ⟨w2.heap.size,4,none⟩=some (.slice none 0 0):=Lib.cell_of_heap b1 4
   have p0:w3.frozen? ⟨w2.heap.size,0,none⟩=false:=Lib.frozen_of_heap b1 0
   have p1:w3.frozen? ⟨w2.heap.size,1,none⟩=false:=Lib.frozen_of_heap b1 1
   have p2:w3.frozen? ⟨w2.heap.size,2,none⟩=false:=Lib.frozen_of_heap b1 2
   have p3:w3.frozen? ⟨w2.heap.size,3,none⟩=false:=Lib.frozen_of_heap b1 3
   have p4:w3.frozen? ⟨w2.heap.size,4,none⟩=false:=Lib.frozen_of_heap b1 4
   have hk1:=f5_kp w3 w2.heap.size (.int .i64 0) (.int .i64 0) (.string ⟨#[]⟩) (.slice none 0 0) (.slice none 0 0)
   have hU0:=(hk1.block w.heap.size (by omega) (by omega)).trans b0
   have hB2U:Below w2.heap.size w2 (f5 w3 w2.heap.size (.int .i64 0) (.int .i64 0) (.string ⟨#[]⟩) (.slice none 0 0) (.slice none 0 0)):=(HBA.out.trans (hb3.mono (by omega))).trans (hk1.toBelow (fun k e=>by omega) (by omega))
   have hBU:Below w.heap.size w (f5 w3 w2.heap.size (.int .i64 0) (.int .i64 0) (.string ⟨#[]⟩) (.slice none 0 0) (.slice none 0 0)):=(HBX.out.trans (hb3.mono (by omega))).trans (hk1.toBelow (fun k e=>by omega) (by omega))
   have HIM:=hide (image_tab _ base tb vt vv vm vs gs ((HPT.out.below hB2U).mono (fun k hk=>Nat.lt_of_lt_of_le hk hB2U.size)) HL.out HA.out)
   obtain ⟨img,himg⟩ : ∃ img,img=Cx.imageOf vs (gs.map (·.a)):=⟨_,rfl⟩
   rw [← himg] at HIM
   have HIMG:=hide himg
   have HU0:=hide hU0
   have HBU:=hide hBU
   clear himg hB2U hBU hU0 hk1 hb3 b0 b1
   go_wp2_with fail
   change Calls _ _ _ (f5 w3 w2.heap.size (.int .i64 0) (.int .i64 0) (.string ⟨#[]⟩) (.slice none 0 0) (.slice none 0 0)) _
   generalize f5 w3 w2.heap.size (.int .i64 0) (.int .i64 0) (.string ⟨#[]⟩) (.slice none 0 0) (.slice none 0 0)=U at *
   refine HIM.out.mono ?_
   rintro e w4 ⟨rfl,hb4⟩
   clear y0 y1 y2 y3 y4 p0 p1 p2 p3 p4
   have hu0:=HU0.out
   have hc0:w.heap.size<U.heap.size:=by
    rcases Nat.lt_or_ge w.heap.size U.heap.size with h | h
    ·exact h
    ·rw [Array.getElem?_eq_none h] at hu0;cases hu0
   have hV0:=(hb4.block w.heap.size hc0).trans hu0
   have y0:w4.cell? ⟨w.heap.size,0,none⟩=some (.int .i64 0):=Lib.cell_of_heap hV0 0
   have y1:w4.cell? ⟨w.heap.size,1,none⟩=some (.int .i64 0):=Lib.cell_of_heap hV0 1
   have y2:w4.cell? ⟨w.heap.size,2,none⟩=some (.string ⟨#[]⟩):=Lib.cell_of_heap hV0 2
   have y3:w4.cell? ⟨w.heap.size,3,none⟩=some (.slice none 0 0):=Lib.cell_of_heap hV0 3
   have y4:w4.cell? ⟨w.heap.size,4,none⟩=some (.slice none 0 0):=Lib.cell_of_heap hV0 4
   have z0:w4.frozen? ⟨w.heap.size,0,none⟩=false:=Lib.frozen_of_heap hV0 0
   have z1:w4.frozen? ⟨w.heap.size,1,none⟩=false:=Lib.frozen_of_heap hV0 1
   have z2:w4.frozen? ⟨w.heap.size,2,none⟩=false:=Lib.frozen_of_heap hV0 2
   have z3:w4.frozen? ⟨w.heap.size,3,none⟩=false:=Lib.frozen_of_heap hV0 3
   have z4:w4.frozen? ⟨w.heap.size,4,none⟩=false:=Lib.frozen_of_heap hV0 4
   have HB4:=hide (HBU.out.trans (hb4.mono HBU.out.size))
   clear hb4 hV0 hu0 HIM
   go_wp2_with fail
   have hk0:=f5_kp w4 w.heap.size (.int .i64 0) (.int .i64 0) (.string ⟨#[]⟩) (.slice none 0 0) (.slice none 0 0)
   refine bodyPost_ret (v:=.tuple #[.string ⟨img.toArray⟩,.agg #[.int .i64 0,.int .i64 0,.string ⟨#[]⟩,.slice none 0 0,.slice none 0 0]]) (by simp [results,Tryz.results18,go_sem, *]) rfl ?_
   refine ⟨HB4.out.trans (hk0.toBelow (fun k e=>by omega) HB4.out.size),.inr ⟨ts,vs,gs,HTO.out,HD.out,HL.out,HA.out,?_⟩⟩
   rw [← HFR.out,← HIMG.out];rfl
  | some cx =>
   obtain ⟨code,nm,l⟩:=cx
   obtain ⟨v,u,rfl,ho1,ho2,hap⟩:=hr
   obtain ⟨av,cv,rfl,_,_⟩:=row_shape ho1
   obtain ⟨au,cu,rfl,_,_⟩:=row_shape ho2
   have hcode:((code:Int) == 0)=false:=by
    have:=find_code HFR.out.symm
    simp;omega
   have hcode2:((code:Int) != 0)=true:=by simp at hcode ⊢;exact hcode
   obtain ⟨h,hh⟩ : ∃ h,h=l.length/2:=⟨_,rfl⟩
   simp only at ho1 ho2 hap ⊢
   rw [← hh] at ho1 ho2 hap ⊢
   have HH:=hide hh
   clear hh
   have y0:w3.cell? ⟨w2.heap.size,0,none⟩=some (.int .i64 0):=Lib.cell_of_heap b1 0
   have y1:w3.cell? ⟨w2.heap.size,1,none⟩=some (.int .i64 0):=Lib.cell_of_heap b1 1
   have y2:w3.cell? ⟨w2.heap.size,2,none⟩=some (.string ⟨#[]⟩):=Lib.cell_of_heap b1 2
   have y3:w3.cell? ⟨w2.heap.size,3,none⟩=some (.slice none 0 0):=Lib.cell_of_heap b1 3
   have y4:w3.cell? ⟨w2.heap.size,4,none⟩=some (.slice none 0 0):=Lib.cell_of_heap b1 4
   have p0:w3.frozen? ⟨w2.heap.size,0,none⟩=false:=Lib.frozen_of_heap b1 0
   have p1:w3.frozen? ⟨w2.heap.size,1,none⟩=false:=Lib.frozen_of_heap b1 1
   have p2:w3.frozen? ⟨w2.heap.size,2,none⟩=false:=Lib.frozen_of_heap b1 2
   have p3:w3.frozen? ⟨w2.heap.size,3,none⟩=false:=Lib.frozen_of_heap b1 3
   have p4:w3.frozen? ⟨w2.heap.size,4,none⟩=false:=Lib.frozen_of_heap b1 4
   have hk1:=f5_kp w3 w2.heap.size (.int .i64 code) (.int .i64 0) (.string nm) (.slice av h cv) (.slice au h cu)
   have hU1:=f5_heap (a:=.int .i64 code) (b:=.int .i64 0) (c:=.string nm) (d:=.slice av h cv) (e:=.slice au h cu) b1
   have hU0:=(hk1.block w.heap.size (by omega) (by omega)).trans b0
   have hO1:=hk1.own (own_mono (b':=w.heap.size) ho1 (by omega)) (fun k hk e=>by have:=(ho1.lt k hk).1;omega)
   have hO2:=hk1.own (own_mono (b':=w.heap.size) ho2 (by omega)) (fun k hk e=>by have:=(ho2.lt k hk).1;omega)
   have hBU:Below w.heap.size w (f5 w3 w2.heap.size (.int .i64 code) (.int .i64 0) (.string nm) (.slice av h cv) (.slice au h cu)):=(HBX.out.trans (hb3.mono (by omega))).trans (hk1.toBelow (fun k e=>by omega) (by omega))
   have hb1k:∀ k,(Value.slice av h cv).ownBlock=some k→w.heap.size≠k:=fun k hk e=>by have:=(ho1.lt k hk).1;omega
   have hb2k:∀ k,(Value.slice au h cu).ownBlock=some k→w.heap.size≠k:=fun k hk e=>by have:=(ho2.lt k hk).1;omega
   have HAP:=hide hap
   clear hap ho1 ho2 hb3 hk1 b0 b1
   go_wp2_with fail
   change Code.wp _ _ _ _ (f5 w3 w2.heap.size (.int .i64 code) (.int .i64 0) (.string nm) (.slice av h cv) (.slice au h cu))
   generalize f5 w3 w2.heap.size (.int .i64 code) (.int .i64 0) (.string nm) (.slice av h cv) (.slice au h cu)=U at *
   clear y0 y1 y2 y3 y4 p0 p1 p2 p3 p4
   have a0:U.cell? ⟨w2.heap.size,0,none⟩=some (.int .i64 code):=Lib.cell_of_heap hU1 0
   have a1:U.cell? ⟨w2.heap.size,1,none⟩=some (.int .i64 0):=Lib.cell_of_heap hU1 1
   have a2:U.cell? ⟨w2.heap.size,2,none⟩=some (.string nm):=Lib.cell_of_heap hU1 2
   have a3:U.cell? ⟨w2.heap.size,3,none⟩=some (.slice av h cv):=Lib.cell_of_heap hU1 3
   have a4:U.cell? ⟨w2.heap.size,4,none⟩=some (.slice au h cu):=Lib.cell_of_heap hU1 4
   have y0:U.cell? ⟨w.heap.size,0,none⟩=some (.int .i64 0):=Lib.cell_of_heap hU0 0
   have y1:U.cell? ⟨w.heap.size,1,none⟩=some (.int .i64 0):=Lib.cell_of_heap hU0 1
   have y2:U.cell? ⟨w.heap.size,2,none⟩=some (.string ⟨#[]⟩):=Lib.cell_of_heap hU0 2
   have y3:U.cell? ⟨w.heap.size,3,none⟩=some (.slice none 0 0):=Lib.cell_of_heap hU0 3
   have y4:U.cell? ⟨w.heap.size,4,none⟩=some (.slice none 0 0):=Lib.cell_of_heap hU0 4
   have z0:U.frozen? ⟨w.heap.size,0,none⟩=false:=Lib.frozen_of_heap hU0 0
   have z1:U.frozen? ⟨w.heap.size,1,none⟩=false:=Lib.frozen_of_heap hU0 1
   have z2:U.frozen? ⟨w.heap.size,2,none⟩=false:=Lib.frozen_of_heap hU0 2
   have z3:U.frozen? ⟨w.heap.size,3,none⟩=false:=Lib.frozen_of_heap hU0 3
   have z4:U.frozen? ⟨w.heap.size,4,none⟩=false:=Lib.frozen_of_heap hU0 4
   have hk0:=f5_kp U.drew w.heap.size (.int .i64 code) (.int .i64 0) (.string nm) (.slice av h cv) (.slice au h cu)
   have HBF:Hid (Below w.heap.size w (f5 U.drew w.heap.size (.int .i64 code) (.int .i64 0) (.string nm) (.slice av h cv) (.slice au h cu))):=hide (Below.trans (⟨hBU.os,hBU.tape,hBU.output,hBU.size,hBU.block⟩ : Below w.heap.size w U.drew) (hk0.toBelow (fun k e=>by omega) hBU.size))
   have HO1:Hid ((f5 U.drew w.heap.size (.int .i64 code) (.int .i64 0) (.string nm) (.slice av h cv) (.slice au h cu)).ownsRow w.heap.size 3 1 (.slice av h cv) h ((l.take h).map (.int .i64))):=hide (hk0.own hO1 (fun k hk e=>hb1k k hk e.symm))
   have HO2:Hid ((f5 U.drew w.heap.size (.int .i64 code) (.int .i64 0) (.string nm) (.slice av h cv) (.slice au h cu)).ownsRow w.heap.size 3 1 (.slice au h cu) h ((l.drop h).map (.int .i64))):=hide (hk0.own hO2 (fun k hk e=>hb2k k hk e.symm))
   clear hU1 hU0 hO1 hO2 hBU hk0 hb1k hb2k
   go_region
   all_goals
    go_wp2_with fail
    refine bodyPost_ret (v:=.tuple #[.string ⟨#[]⟩,.agg #[.int .i64 code,.int .i64 0,.string nm,.slice av h cv,.slice au h cu]]) (by simp [results,Tryz.results18,go_sem, *]) rfl ?_
    refine ⟨HBF.out,.inr ⟨ts,vs,gs,HTO.out,HD.out,HL.out,HA.out,?_⟩⟩
    rw [← HFR.out]
    refine ⟨_,_,rfl,?_,?_,HAP.out⟩
    ·show World.ownsRow _ _ _ _ _ (l.length/2) ((l.take (l.length/2)).map _)
     rw [← HH.out];exact HO1.out
    ·show World.ownsRow _ _ _ _ _ (l.length/2) ((l.drop (l.length/2)).map _)
     rw [← HH.out];exact HO2.out
end Go.Proofs.YtdjaiolfdbamcaaGreatDoor
/- Compile's answer,as a relation on texts;the walk of sure. -/
namespace Go.Proofs.YtdjaiolfdbamcaaGreatDoor
open Go.RowKit
def CompS (s:ByteArray) (w:World) (e:Ending) (w':World):Prop :=
 ∃ (img:ByteArray) (code:Int) (line:Nat) (nm:ByteArray) (av au:Option Addr) (nv cv nu cu:Nat),e=.returned (.tuple #[.string img,.agg #[.int .i64 code,.int .i64 line,.string nm,.slice av nv cv,.slice au nu cu]])∧CompOf s img code line∧Below w.heap.size w w'
theorem comp_s {s:ByteArray} {w:World} {e:Ending} {w':World} (h:CompR s w e w'):CompS s w e w':=by
 obtain ⟨hb,hc⟩:=h
 rcases hc with ⟨code,line,rfl,hf,hc⟩ | ⟨ts,vs,gs,ht,hd,hl,ha,hm⟩
 ·exact ⟨⟨#[]⟩,code,line,⟨#[]⟩,none,none,0,0,0,0,rfl,.inl ⟨code,hf,hc,rfl,rfl⟩,hb⟩
 ·cases hx:Cx.find vs (gs.map (·.a)) with
  | none =>
   rw [hx] at hm
   subst hm
   exact ⟨_,0,0,⟨#[]⟩,none,none,0,0,0,0,rfl,.inr ⟨ts,vs,_,ht,hd,rfl,by rw [hx];exact ⟨rfl,rfl⟩⟩,hb⟩
  | some cx =>
   obtain ⟨code,nm,l⟩:=cx
   rw [hx] at hm
   obtain ⟨v,u,rfl,h1,h2,_⟩:=hm
   obtain ⟨av,cv,rfl,_,_⟩:=row_shape h1
   obtain ⟨au,cu,rfl,_,_⟩:=row_shape h2
   exact ⟨⟨#[]⟩,code,0,nm,av,au,_,cv,_,cu,rfl,.inr ⟨ts,vs,_,ht,hd,rfl,by rw [hx];exact ⟨rfl,rfl⟩⟩,hb⟩
theorem compile_s (s:ByteArray) (w:World) (hs:s.size≤maxLen) (hsg:SignsIs w) (htab:∀ W,Below w.heap.size w W→Lib.TabIs Tryz.prog W "internal/strconv.uint64pow10" .u64 Lib.pow10Tab) :
  Calls Tryz.prog 18 #[.string s] w fun e w'=>CompS s w e w':=(compile_any s w hs hsg htab).mono fun _ _ h=>comp_s h
end Go.Proofs.YtdjaiolfdbamcaaGreatDoor
