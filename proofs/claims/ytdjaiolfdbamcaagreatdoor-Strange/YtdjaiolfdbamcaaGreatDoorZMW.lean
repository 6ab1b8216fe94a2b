/- The walks of readRight and Load. -/
import Derived.Test.YtdjaiolfdbamcaaGreatDoorZMRb
import Derived.Test.YtdjaiolfdbamcaaGreatDoorZMRa
import Derived.Test.YtdjaiolfdbamcaaGreatDoorZMV
import Derived.Test.YtdjaiolfdbamcaaGreatDoorZPRound
import Derived.Test.YtdjaiolfdbamcaaGreatDoorZMRd
import Derived.Test.YtdjaiolfdbamcaaGreatDoorZWCG2
import Derived.Test.YtdjaiolfdbamcaaGreatDoorZWRead1
import Derived.KernelRfl
import Derived.Test.YtdjaiolfdbamcaaGreatDoorRows
import Derived.Test.YtdjaiolfdbamcaaGreatDoorCards
import Derived.Test.YtdjaiolfdbamcaaGreatDoorTie
import Derived.ProofKit
import Derived.LaidMore
import Derived.OpenShut
import Derived.Stop.Joined
import Derived.Stop.LaidErr
import Derived.SevenTiedAt
import Derived.Lib.LaidTab
set_option maxRecDepth 20000
set_option maxHeartbeats 4000000
namespace Go.Proofs.YtdjaiolfdbamcaaGreatDoor
open Go.RowKit
def RRR (bs:List UInt8) (w:World) (e:Ending) (w':World):Prop:=Below w.heap.size w w'∧match Mx.load bs with
 | none=>e=.returned (.tuple #[.agg #[.slice none 0 0,.slice none 0 0,.int .i64 0],.bool false])
 | some im=>∃ av cv al cl,e=.returned (.tuple #[.agg #[.slice av im.vars.length cv,.slice al im.leaves.length cl,.int .i64 im.first],.bool true])∧ImM w' w'.heap.size av al im
theorem readRight_any (w:World) (bs:List UInt8) (hs:bs.length≤maxLen) :
  Calls Tryz.prog 59 #[.string (bstr bs)] w fun e w'=>RRR bs w e w':=by
 obtain ⟨X,hX⟩ : ∃ X,X=w.alloc (.cells #[.slice none 0 0,.slice none 0 0,.int .i64 0] 106):=⟨_,rfl⟩
 have hXb:Below w.heap.size w X:=by rw [hX];exact below_a w _
 have hXn:X.heap[w.heap.size]? = some (.cells #[.slice none 0 0,.slice none 0 0,.int .i64 0] 106 (0,0)):=by rw [hX];exact heap_alloc_new w _
 have hXs:X.heap.size=w.heap.size+1:=by rw [hX];simp
 have HXB:=hide hXb
 have HXN:=hide hXn
 have HD:=hide (Decode_any X bs hs)
 clear hXb hXn
 have HLD:Hid (Mx.load bs=match Mx.decode bs with | some im=>if im.leaves.all (fun l=>Mx.isRight l.2 im.leaves.length (2*im.vars.length)) then some im else none | none=>none):=hide rfl
 have HOK:=hide (fun im=>Mx.decode_ok (bs:=bs) (im:=im))
 unfold DecR at HD
 generalize Mx.decode bs=dq at *
 go_enter Tryz.func59,Tryz.ntmps59
 go_wp2_with fail
 rw [← hX]
 clear hX
 refine HD.out.mono ?_
 rintro e w1 ⟨hb1,hm1⟩
 have hs1:=hb1.size
 have hR1:=(hb1.block w.heap.size (by omega)).trans HXN.out
 have HW1:Hid (Below w.heap.size w w1):=hide (HXB.out.trans (hb1.mono HXB.out.size))
 cases dq with
 | none =>
  obtain rfl:=hm1
  have hBY:=below_a w1 (.cells #[.slice none 0 0,.slice none 0 0,.int .i64 0] 106)
  have hYR:=(hBY.block w.heap.size (by omega)).trans hR1
  have z0:=Lib.cell_of_heap hYR 0
  have z1:=Lib.cell_of_heap hYR 1
  have z2:=Lib.cell_of_heap hYR 2
  have f0:=Lib.frozen_of_heap hYR 0
  have f1:=Lib.frozen_of_heap hYR 1
  have f2:=Lib.frozen_of_heap hYR 2
  have HWY:=hide (HW1.out.trans (hBY.mono HW1.out.size))
  have HL:Hid (Mx.load bs=none):=hide HLD.out
  clear hBY hYR hb1 hR1
  go_wp2_with fail
  refine bodyPost_ret (v:=.tuple #[.agg #[.slice none 0 0,.slice none 0 0,.int .i64 0],.bool false]) (by simp [results,Tryz.results59,go_sem, *]) rfl ?_
  refine ⟨set3_below HWY.out _ _ _,?_⟩
  rw [HL.out]
 | some im =>
  obtain ⟨av,cv,al,cl,rfl,him⟩:=hm1
  have hok:=HOK.out im rfl
  obtain ⟨gl,_,hal,_⟩:=him.leaves (by have:=hok.first;omega)
  subst hal
  have hBY:=below_a w1 (.cells #[.slice av im.vars.length cv,.slice (some ⟨gl,0,none⟩) im.leaves.length cl,.int .i64 im.first] 106)
  have HYR:=hide ((hBY.block w.heap.size (by omega)).trans hR1)
  have HWY:=hide (HW1.out.trans (hBY.mono HW1.out.size))
  have hYI:=heap_alloc_new w1 (.cells #[.slice av im.vars.length cv,.slice (some ⟨gl,0,none⟩) im.leaves.length cl,.int .i64 im.first] 106)
  have HYI:=hide hYI
  have y1:=Lib.cell_of_heap hYI 1
  have HIM:=hide (him.below hBY)
  have HSY:Hid ((w1.alloc (.cells #[.slice av im.vars.length cv,.slice (some ⟨gl,0,none⟩) im.leaves.length cl,.int .i64 im.first] 106)).heap.size=w1.heap.size+1):=hide (by simp)
  have HL:Hid (Mx.load bs=if im.leaves.all (fun l=>Mx.isRight l.2 im.leaves.length (2*im.vars.length)) then some im else none):=hide HLD.out
  have HOKI:=hide hok
  have hl12:=hok.leaves
  have hv3:=hok.vars
  obtain ⟨Y,hY⟩ : ∃ Y,Y=w1.alloc (.cells #[.slice av im.vars.length cv,.slice (some ⟨gl,0,none⟩) im.leaves.length cl,.int .i64 im.first] 106):=⟨_,rfl⟩
  rw [← hY] at HYR HWY HYI HIM HSY y1
  clear hBY hYI hb1 hR1 him hok HD HLD HOK
  have hys:w1.heap.size<Y.heap.size:=by rw [HSY.out];omega
  have hwy:w.heap.size<Y.heap.size:=by omega
  go_wp2_with fail
  rw [← hY]
  clear hY y1
  go_loopg [19] (im.leaves.length) (fun k v19 wr=>∃ i:Nat,i+k=im.leaves.length∧v19=.int .i64 i∧Below Y.heap.size Y wr∧(im.leaves.take i).all (fun l=>Mx.isRight l.2 im.leaves.length (2*im.vars.length))=true)
  case atStart=>exact ⟨0,by omega,rfl,Below.refl _ _,rfl⟩
  case round =>
   obtain ⟨i,hi,rfl,hbr,hall⟩:=hrel
   have hsr:=hbr.size
   have hR:=(hbr.block w.heap.size hwy).trans HYR.out
   have hI:=(hbr.block w1.heap.size hys).trans HYI.out
   have HBR:=hide hbr
   have HALL:=hide hall
   have y0:=Lib.cell_of_heap hI 0
   have y1:=Lib.cell_of_heap hI 1
   have y2:=Lib.cell_of_heap hI 2
   have z0:=Lib.cell_of_heap hR 0
   have z1:=Lib.cell_of_heap hR 1
   have z2:=Lib.cell_of_heap hR 2
   have f0:=Lib.frozen_of_heap hR 0
   have f1:=Lib.frozen_of_heap hR 1
   have f2:=Lib.frozen_of_heap hR 2
   have HR:=hide hR
   have HI:=hide hI
   have HWR:Hid (Below w.heap.size w wr):=hide (HWY.out.trans (hbr.mono HWY.out.size))
   by_cases hlt:i<im.leaves.length
   ·have hii:(i:Int)<im.leaves.length:=by omega
    have hi0:(0:Int)≤i:=by omega
    obtain ⟨g,cur,e,hgc,hgh,hc⟩:=(HIM.out.kept (Kp.ofBelow (F:=fun _=>False) hbr) (fun _ _ _ _ _ _ _=>id)).leaves (by omega)
    cases e
    obtain ⟨hc0,gp,cp,cup,fr,hc1,hgp,hgph,hpc⟩:=hc i hlt
    have d0:wr.cell? ⟨gl,i*2,none⟩=some (.string (bstr im.leaves[i].1)):=(Lib.cell_of_heap hgh (i*2)).trans hc0
    have d1:wr.cell? ⟨gl,i*2+1,none⟩=some (.slice (some ⟨gp,0,none⟩) im.leaves[i].2.length cp):=(Lib.cell_of_heap hgh (i*2+1)).trans hc1
    have hsh:=HOKI.out.progs im.leaves[i] (List.getElem_mem hlt)
    unfold Mx.Short at hsh
    have hgl:=(Array.getElem?_eq_some_iff.1 hgph).1
    have hT:(im.leaves.take (i+1)).all (fun l=>Mx.isRight l.2 im.leaves.length (2*im.vars.length))=Mx.isRight im.leaves[i].2 im.leaves.length (2*im.vars.length):=by
     rw [List.take_add_one,List.getElem?_eq_getElem hlt,List.all_append,hall];simp
    have HT:=hide hT
    have HF:Hid (Mx.isRight im.leaves[i].2 im.leaves.length (2*im.vars.length)=false→im.leaves.all (fun l=>Mx.isRight l.2 im.leaves.length (2*im.vars.length))=false):=hide (fun hf=>by
     rw [List.all_eq_false]
     exact ⟨_,List.getElem_mem hlt,by simp [hf]⟩)
    have hBZ:=below_a wr (.cells #[.string (bstr im.leaves[i].1),.slice (some ⟨gp,0,none⟩) im.leaves[i].2.length cp] 102)
    have hZn:=heap_alloc_new wr (.cells #[.string (bstr im.leaves[i].1),.slice (some ⟨gp,0,none⟩) im.leaves[i].2.length cp] 102)
    have hZI:=(hBZ.block w1.heap.size (by omega)).trans hI
    have l1:=Lib.cell_of_heap hZn 1
    have q0:=Lib.cell_of_heap hZI 0
    have q1:=Lib.cell_of_heap hZI 1
    have HIR:=hide (IsRight_any (wr.alloc (.cells #[.string (bstr im.leaves[i].1),.slice (some ⟨gp,0,none⟩) im.leaves[i].2.length cp] 102)) gp cp im.leaves[i].2 im.leaves.length (2*im.vars.length) (by omega) (Nat.lt_of_lt_of_le hgl hBZ.size) (fun k hk=>(hBZ.cell (p:=⟨gp,k,none⟩) hgl).trans ((Lib.cell_of_heap hgph k).trans (hpc k hk))))
    rw [show ((2*im.vars.length:Nat):Int)=2*(im.vars.length:Int) by omega] at HIR
    have HBZ:=hide hBZ
    have HBYZ:Hid (Below Y.heap.size Y (wr.alloc (.cells #[.string (bstr im.leaves[i].1),.slice (some ⟨gp,0,none⟩) im.leaves[i].2.length cp] 102))):=hide (hbr.trans (hBZ.mono hsr))
    have hzs:wr.heap.size≤(wr.alloc (.cells #[.string (bstr im.leaves[i].1),.slice (some ⟨gp,0,none⟩) im.leaves[i].2.length cp] 102)).heap.size:=hBZ.size
    generalize Mx.isRight im.leaves[i].2 im.leaves.length (2*im.vars.length)=ans at *
    generalize bstr im.leaves[i].1=nm at *
    generalize im.leaves[i].2=pg at *
    clear hgh hc0 hc1 hgph hpc hc hT hBZ hZn hZI hbr hR hI hall y0 y1 y2 z0 z1 z2 f0 f1 f2
    go_wp2_with fail
    generalize wr.alloc (.cells #[.string nm,.slice (some ⟨gp,0,none⟩) pg.length cp] 102)=Z at *
    refine HIR.out.mono ?_
    rintro e w3 ⟨rfl,hb3⟩
    have HB3:Hid (Below Y.heap.size Y w3):=hide (HBYZ.out.trans (hb3.mono (Nat.le_trans hsr hzs)))
    clear hb3 HIR
    cases ans with
    | true =>
     go_wp2_with fail
     go_roundg (im.leaves.length-(i+1))
     case measure=>omega
     case rel=>exact ⟨i+1,by omega,by go_num,HB3.out,HT.out⟩
    | false =>
     have hR3:=(HB3.out.block w.heap.size hwy).trans HYR.out
     have z0:=Lib.cell_of_heap hR3 0
     have z1:=Lib.cell_of_heap hR3 1
     have z2:=Lib.cell_of_heap hR3 2
     have f0:=Lib.frozen_of_heap hR3 0
     have f1:=Lib.frozen_of_heap hR3 1
     have f2:=Lib.frozen_of_heap hR3 2
     have HLN:Hid (Mx.load bs=none):=hide (by rw [HL.out,HF.out rfl];rfl)
     have HW3:=hide (HWY.out.trans (HB3.out.mono HWY.out.size))
     clear hR3
     go_wp2_with fail
     refine bodyPost_ret (v:=.tuple #[.agg #[.slice none 0 0,.slice none 0 0,.int .i64 0],.bool false]) (by simp [results,Tryz.results59,go_sem, *]) rfl ?_
     refine ⟨set3_below HW3.out _ _ _,?_⟩
     rw [HLN.out]
   ·obtain rfl:i=im.leaves.length:=by omega
    have HLS:Hid (Mx.load bs=some im):=hide (by rw [List.take_length] at hall;rw [HL.out,hall];rfl)
    have HIMR:=hide (HIM.out.kept (Kp.ofBelow (F:=fun _=>False) hbr) (fun _ _ _ _ _ _ _=>id))
    clear hbr hR hI hall
    go_wp2_with fail
    refine bodyPost_ret (v:=.tuple #[.agg #[.slice av im.vars.length cv,.slice (some ⟨gl,0,none⟩) im.leaves.length cl,.int .i64 im.first],.bool true]) (by simp [results,Tryz.results59,go_sem, *]) rfl ?_
    refine ⟨set3_below HWR.out _ _ _,?_⟩
    rw [HLS.out]
    refine ⟨av,cv,_,cl,rfl,?_⟩
    have hk:=set3_kp wr w.heap.size (.slice av im.vars.length cv) (.slice (some ⟨gl,0,none⟩) im.leaves.length cl) (.int .i64 im.first)
    refine (HIMR.out.kept hk (fun g cur T fr _ hg hT e=>?_)).mono (by simp;omega)
    subst e
    rw [HR.out] at hg
    simp only [Option.some.injEq,Obj.cells.injEq] at hg
    rcases hT with e | e | e <;> rw [e] at hg <;> exact absurd hg.2.1 (by decide)
end Go.Proofs.YtdjaiolfdbamcaaGreatDoor
/- The walk of Load. -/
namespace Go.Proofs.YtdjaiolfdbamcaaGreatDoor
open Go.RowKit
theorem load_good {bs:List UInt8} {im:Mx.Img} (h:Mx.load bs=some im):im.Good:=by
 obtain ⟨h1,h2⟩:=Mx.load_ok h
 exact ⟨h1,fun k hk=>by rw [Mx.Img.leaf_at hk];exact h2 _ (List.getElem_mem hk)⟩
def LoadR (bs:List UInt8) (w:World) (e:Ending) (w':World):Prop:=Below w.heap.size w w'∧match Mx.load bs with
 | none=>e=.returned (.tuple #[.pointer none,.bool false])
 | some im=>∃ M:MaP,M.im=im∧e=.returned (.tuple #[.pointer (some ⟨M.mb,0,none⟩),.bool true])∧MaM w' M ⟨im.first,none⟩ (.slice none 0 0)∧w.heap.size≤M.mb
theorem Load_any (w:World) (bs:List UInt8) (hs:bs.length≤maxLen) :
  Calls Tryz.prog 33 #[.string (bstr bs)] w fun e w'=>LoadR bs w e w':=by
 have HD:=hide (readRight_any w bs hs)
 have HG:=hide (fun im=>load_good (bs:=bs) (im:=im))
 unfold RRR at HD
 unfold LoadR
 generalize Mx.load bs=dq at *
 go_enter Tryz.func33,Tryz.ntmps33
 go_wp2_with fail
 refine HD.out.mono ?_
 rintro e w1 ⟨hb1,hm1⟩
 cases dq with
 | none =>
  obtain rfl:=hm1
  have HB:=hide ((hb1.alloc hb1.size (.cells #[.slice none 0 0,.slice none 0 0,.int .i64 0] 106)))
  clear hb1 HD HG
  go_wp2_with fail
  refine bodyPost_ret (v:=.tuple #[.pointer none,.bool false]) (by simp [results,Tryz.results33,go_sem]) rfl ?_
  exact ⟨HB.out,rfl⟩
 | some im =>
  obtain ⟨av,cv,al,cl,rfl,him⟩:=hm1
  have hgd:=HG.out im rfl
  have hBY:=below_a w1 (.cells #[.slice av im.vars.length cv,.slice al im.leaves.length cl,.int .i64 im.first] 106)
  have hYI:=heap_alloc_new w1 (.cells #[.slice av im.vars.length cv,.slice al im.leaves.length cl,.int .i64 im.first] 106)
  have y0:=Lib.cell_of_heap hYI 0
  have y1:=Lib.cell_of_heap hYI 1
  have y2:=Lib.cell_of_heap hYI 2
  have HGD:=hide hgd
  have HIM:=hide (him.below hBY)
  have HWY:=hide (hb1.alloc hb1.size (.cells #[.slice av im.vars.length cv,.slice al im.leaves.length cl,.int .i64 im.first] 106))
  have HSY:Hid ((w1.alloc (.cells #[.slice av im.vars.length cv,.slice al im.leaves.length cl,.int .i64 im.first] 106)).heap.size=w1.heap.size+1):=hide (by simp)
  have hs1:=hb1.size
  clear hBY hYI hb1 him HD HG hgd
  have hf:=HGD.out.ok.first
  obtain ⟨Y,hY⟩ : ∃ Y,Y=w1.alloc (.cells #[.slice av im.vars.length cv,.slice al im.leaves.length cl,.int .i64 im.first] 106):=⟨_,rfl⟩
  rw [← hY] at HIM HWY HSY y0 y1 y2
  obtain ⟨Z,hZ⟩ : ∃ Z,Z=Y.alloc (.cells #[.slice av im.vars.length cv,.slice al im.leaves.length cl,.int .i64 im.first,.int .i64 0,.slice none 0 0] 108):=⟨_,rfl⟩
  have hZM:MaM Z ⟨w1.heap.size,w1.heap.size+1,av,cv,al,cl,im⟩ ⟨0,none⟩ (.slice none 0 0):=by
   refine ⟨?_,?_,Nat.le_succ _,by show 0<im.leaves.length;omega,.inl ⟨rfl,.inl rfl⟩,(fun _ e=>by cases e)⟩
   ·show Z.heap[w1.heap.size+1]? = _
    rw [hZ,← HSY.out]
    exact heap_alloc_new Y _
   ·rw [hZ]
    exact HIM.out.below ((below_a Y _).mono (by rw [HSY.out];omega))
  have HRS:=hide (Reset_any Z ⟨w1.heap.size,w1.heap.size+1,av,cv,al,cl,im⟩ ⟨0,none⟩ (.slice none 0 0) hZM hf)
  have HBZ:Hid (Below w.heap.size w Z):=hide (by rw [hZ];exact HWY.out.alloc HWY.out.size _)
  have hsz:w1.heap.size+1<Z.heap.size:=hZM.lt
  have HMB:=hide (show (w.heap.size≤w1.heap.size+1) by omega)
  clear hZM
  go_wp2_with fail
  rw [← hY,← hZ]
  clear hY hZ y0 y1 y2
  refine HRS.out.mono ?_
  rintro e w3 ⟨rfl,hm3,hk3⟩
  have HM3:=hide hm3
  have HB3:Hid (Below w.heap.size w w3):=hide (HBZ.out.trans (hk3.toBelow (fun k e=>by have e':k=w1.heap.size+1:=e;omega) (by omega)))
  clear hm3 hk3 HRS
  go_wp2_with fail
  refine bodyPost_ret (v:=.tuple #[.pointer (some ⟨w1.heap.size+1,0,none⟩),.bool true]) (by simp [results,Tryz.results33,go_sem]) rfl ?_
  exact ⟨HB3.out,⟨w1.heap.size,w1.heap.size+1,av,cv,al,cl,im⟩,rfl,rfl,HM3.out,HMB.out⟩
end Go.Proofs.YtdjaiolfdbamcaaGreatDoor
/- The machine of the table that must be taken: its image,where it goes;by the kernel. -/
namespace Go.Proofs.YtdjaiolfdbamcaaGreatDoor
def rightIm:Mx.Img:=(Mx.load (Cx.imageOf rightP.1 rightP.2)).getD ⟨[],[],0⟩
theorem right_some:(Mx.load (Cx.imageOf rightP.1 rightP.2)).isSome=true:=by kernel_rfl
theorem right_load:Mx.load (Cx.imageOf rightP.1 rightP.2)=some rightIm:=by
 unfold rightIm
 cases h:Mx.load (Cx.imageOf rightP.1 rightP.2) with
 | none=>have:=right_some;rw [h] at this;cases this
 | some im=>rfl
theorem right_first:rightIm.first=0:=by kernel_rfl
theorem right_low:(rightIm.leaf 0).1=[108,111,119]:=by kernel_rfl
theorem right_high:(rightIm.leaf 1).1=[104,105,103,104]:=by kernel_rfl
theorem right_step1:Mx.mstep rightIm ⟨0,none⟩ [6]=some ⟨1,some [6]⟩:=by kernel_rfl
theorem right_step2:Mx.mstep rightIm ⟨1,some [6]⟩ [3]=some ⟨1,some [3]⟩:=by kernel_rfl
theorem right_step3:Mx.mstep rightIm ⟨1,some [3]⟩ [10]=none:=by kernel_rfl
theorem right_size:(Cx.imageOf rightP.1 rightP.2).length≤1000:=by decide +kernel
end Go.Proofs.YtdjaiolfdbamcaaGreatDoor
/- The walk of machine,at the table that must be taken. -/
namespace Go.Proofs.YtdjaiolfdbamcaaGreatDoor
open Go.RowKit
theorem machineR_any (w:World) (hsg:SignsIs w) (htab:∀ W,Below w.heap.size w W→Lib.TabIs Tryz.prog W "internal/strconv.uint64pow10" .u64 Lib.pow10Tab) :
  Calls Tryz.prog 29 #[.string ⟨rightL.toArray⟩] w fun e w'=>∃ M:MaP,e=.returned (.pointer (some ⟨M.mb,0,none⟩))∧M.im=rightIm∧MaM w' M ⟨0,none⟩ (.slice none 0 0)∧w.heap.size≤M.mb∧Below w.heap.size w w':=by
 have HC:=hide (compile_s ⟨rightL.toArray⟩ w (by unfold maxLen;decide +kernel) hsg htab)
 clear hsg htab
 go_enter Tryz.func29,Tryz.ntmps29
 go_wp2_with fail
 refine HC.out.mono ?_
 rintro e w1 ⟨img,code,line,nm,av,au,nv,cv,nu,cu,rfl,hc,hb⟩
 obtain ⟨rfl,rfl,hi⟩:=comp_right hc
 have hX1:=heap_alloc_new w1 (.cells #[.int .i64 0,.int .i64 ((0:Nat):Int),.string nm,.slice av nv cv,.slice au nu cu] 34)
 have hbX:=hb.alloc hb.size (.cells #[.int .i64 0,.int .i64 ((0:Nat):Int),.string nm,.slice av nv cv,.slice au nu cu] 34)
 have a0:=Lib.cell_of_heap hX1 0
 have HB:=hide hbX
 have HLD:=hide (Load_any (w1.alloc (.cells #[.int .i64 0,.int .i64 ((0:Nat):Int),.string nm,.slice av nv cv,.slice au nu cu] 34)) (Cx.imageOf rightP.1 rightP.2) (by have:=right_size;unfold maxLen;omega))
 unfold LoadR at HLD
 rw [right_load] at HLD
 have hi2:img=bstr (Cx.imageOf rightP.1 rightP.2):=hi
 rw [← hi2] at HLD
 have hsz:=hb.size
 clear hc hi hi2 hb hX1 hbX HC
 go_wp2_with fail
 generalize w1.alloc (.cells #[.int .i64 0,.int .i64 ((0:Nat):Int),.string nm,.slice av nv cv,.slice au nu cu] 34)=X at *
 refine HLD.out.mono ?_
 rintro e w2 ⟨hb2,M,hM,rfl,hm2,hmb⟩
 have hs2:=HB.out.size
 have HB2:=hide (HB.out.trans (hb2.mono HB.out.size))
 have HMB:Hid (w.heap.size≤M.mb):=hide (Nat.le_trans hs2 hmb)
 rw [right_first] at hm2
 have HM2:=hide hm2
 have HIM:=hide hM
 clear hb2 hm2 hM hmb HLD
 go_wp2_with fail
 go_ret
 exact ⟨M,rfl,HIM.out,HM2.out,HMB.out,HB2.out⟩
end Go.Proofs.YtdjaiolfdbamcaaGreatDoor
/- The walk of awake. -/
namespace Go.Proofs.YtdjaiolfdbamcaaGreatDoor
open Go.RowKit
theorem sl_one {W:World} {b:Nat} {x:Int} (h:W.heap[b]? = some (.cells #[.int .i64 x] 3 (0,0))):SlI W (some ⟨b,0,none⟩) [x]:=fun i hi=>by
 have:i=0:=by simpa using hi
 subst this
 exact ⟨b,0,rfl,(Array.getElem?_eq_some_iff.1 h).1,Lib.cell_of_heap h 0⟩
theorem step_one (W:World) (M:MaP) (s:Mx.Mst) (vh:Value) (x:Int) (h:MaM W M s vh) (hG:M.im.Good) :
  Calls Tryz.prog 30 #[.pointer (some ⟨M.mb,0,none⟩),.slice (some ⟨W.heap.size,0,none⟩) 1 1] (W.alloc (.cells #[.int .i64 x] 3)) fun e w'=>Kp (fun k=>k=M.mb) W w'∧(match Mx.mstep M.im s [x] with
 | some s2=>e=.returned (.tuple #[.string (bstr (M.im.leaf s2.at_).1),.int .i64 0])∧∃ vh,MaM w' M s2 vh
 | none=>e=.returned (.tuple #[.string ⟨#[]⟩,.int .i64 8])∧∃ vh,MaM w' M s vh):=by
 have hl:=h.lt
 refine (Step_any (W.alloc (.cells #[.int .i64 x] 3)) M s vh (some ⟨W.heap.size,0,none⟩) 1 [x] (h.kept (below_a W _)) hG (sl_one (heap_alloc_new W _)) (fun e=>by cases e) (fun _ g o e=>?_)).mono fun e w' hr=>⟨(Kp.ofBelow (below_a W _)).trans hr.1 (fun k h=>.inl h),hr.2⟩
 cases e
 omega
theorem awake_any (w:World) (hsg:SignsIs w) (htab:∀ W,Below w.heap.size w W→Lib.TabIs Tryz.prog W "internal/strconv.uint64pow10" .u64 Lib.pow10Tab) :
  Calls Tryz.prog 28 #[] w fun e w'=>e=.returned (.bool true)∧Below w.heap.size w w':=by
 have HM:=hide (machineR_any w hsg htab)
 clear hsg htab
 go_enter Tryz.func28,Tryz.ntmps28
 go_wp2_with fail
 refine HM.out.mono ?_
 rintro e w1 ⟨M,rfl,him,hm1,hmb,hb1⟩
 have hG:M.im.Good:=by rw [him];exact load_good right_load
 have hml:=hm1.lt
 have HMD:=hide (Mode_any w1 M ⟨0,none⟩ _ hm1 (hG.name 0))
 have HM1:=hide hm1
 have HB1:=hide hb1
 have HG:=hide hG
 have HIM:=hide him
 have hlow:bstr (M.im.leaf 0).1=⟨#[108,111,119]⟩:=by rw [him,right_low];rfl
 rw [hlow] at HMD
 clear hlow hG hm1 hb1 HM him
 go_wp2_with fail
 refine HMD.out.mono ?_
 rintro e w2 ⟨rfl,hb2⟩
 have hm2:=HM1.out.kept hb2
 have hl2:=hm2.lt
 have HB2:=hide (HB1.out.trans (hb2.mono HB1.out.size))
 have HS1:=hide (step_one w2 M ⟨0,none⟩ _ 6 hm2 HG.out)
 rw [HIM.out,right_step1] at HS1
 clear HMD hb2 HM1 HB1 hm2
 go_wp2_with fail
 refine HS1.out.mono ?_
 rintro e w3 ⟨hk3,rfl,vh3,hm3⟩
 have HK3:Hid (Kp (fun k=>k=M.mb) w2 w3):=hide hk3
 have HS2:=hide (step_one w3 M ⟨1,some [6]⟩ vh3 3 hm3 HG.out)
 rw [HIM.out,right_step2] at HS2
 have h31:bstr (rightIm.leaf 1).1=⟨#[104,105,103,104]⟩:=by rw [right_high];rfl
 simp only at HS2 ⊢
 rw [h31] at HS2 ⊢
 clear hk3 hm3 HS1
 go_wp2_with fail
 refine HS2.out.mono ?_
 rintro e w4 ⟨hk4,rfl,vh4,hm4⟩
 have HK4:Hid (Kp (fun k=>k=M.mb) w2 w4):=hide (HK3.out.trans hk4 (fun k h=>.inl h))
 have HS3:=hide (step_one w4 M ⟨1,some [3]⟩ vh4 10 hm4 HG.out)
 rw [HIM.out,right_step3] at HS3
 clear hk4 hm4 HS2 HK3
 go_wp2_with fail
 refine HS3.out.mono ?_
 rintro e w5 ⟨hk5,rfl,vh5,hm5⟩
 have HK5:Hid (Below w.heap.size w w5):=hide (HB2.out.trans ((HK4.out.trans hk5 (fun k h=>.inl h)).toBelow (fun k e=>by have e':k=M.mb:=e;omega) HB2.out.size))
 clear hk5 hm5 HS3 HK4
 go_wp2_with fail
 go_ret
 exact ⟨rfl,HK5.out⟩
end Go.Proofs.YtdjaiolfdbamcaaGreatDoor
/- What the cards' conditions give a walk: the listed tables lie as the program's text lays them. -/
namespace Go.Proofs.YtdjaiolfdbamcaaGreatDoor
open Go.ChangeShapes Go.WideShapes Go.ChangeAt Go.WideMaps Go.WideElems Go.RowKit
theorem own:ownKnob Tryz.prog.godebug=none:=by kernel_rfl
theorem gPow:Tryz.prog.globalNamed "internal/strconv.uint64pow10" = some 4:=by kernel_rfl
theorem tPow:(Tryz.prog.globals[4]?).map (·.type)=some 367:=by kernel_rfl
theorem gSigns:Tryz.prog.globalNamed "helm/token.signs" = some 0:=by kernel_rfl
theorem tSigns:(Tryz.prog.globals[0]?).map (·.type)=some 293:=by kernel_rfl
def laidL:List (String×DataW Unit):=[("math/bits.deBruijn32tab",Rows.laid_math_bits_deBruijn32tab),("math/bits.deBruijn64tab",Rows.laid_math_bits_deBruijn64tab),("internal/strconv.uint64pow10",Rows.laid_internal_strconv_uint64pow10),("strconv.ErrRange",Rows.laid_strconv_ErrRange),("strconv.ErrSyntax",Rows.laid_strconv_ErrSyntax),("helm/token.signs",Rows.laid_helm_token_signs)]
theorem cells_of_strs {H:Type} {enc:TypeId×Value→H} {P:Program} {w:World} {base:Nat} {sp:Nat→Bool} {held:Bool} {fuel:Nat} {t e:TypeId} {n:Nat} {cs:List Value} {zs:List (List UInt8)} {p:List MemPlace}
  (ht:P.underlying t=some (.array n e)) (he:P.underlying e=some .string) (hce:P.cellsOf e=1) (hct:P.cellsOf t=n)
  (h:DataW.trod enc P w base sp held fuel t cs=some (.agg (zs.map fun z=>.lit (.string z)),p)):cs=zs.map fun z=>Value.string ⟨z.toArray⟩:=by
 cases fuel with
 | zero=>simp [DataW.trod] at h
 | succ fuel =>
  simp only [DataW.trod,ht,hce,hct,Nat.mul_one] at h
  split at h
  ·rename_i hl
   obtain ⟨xs,hm,hx⟩:=Option.map_eq_some_iff.1 h
   have hxs:xs.map (·.1)=zs.map fun z=>(DataW.lit (.string z):DataW H):=by
    have:=congrArg Prod.fst hx
    simpa using this
   have hxl:xs.length=n:=by simpa using Lib.mapM_length hm
   have hzl:zs.length=n:=by
    have:=congrArg List.length hxs
    simp at this
    omega
   apply List.ext_getElem?
   intro i
   by_cases hi:i<n
   ·obtain ⟨b,hb,hf⟩:=Lib.mapM_at hm i i (by simp [hi])
    obtain ⟨z,hc,rfl,_⟩:=DataW.trod_string he hf
    have h1:cs[i]? = some (.string z):=by
     have:=congrArg (·[0]?) hc
     simpa [List.getElem?_take,List.getElem?_drop] using this
    have h2:(xs.map (·.1))[i]? = some (DataW.lit (.string z.data.toList):DataW H):=by simp [hb]
    rw [hxs] at h2
    simp only [List.getElem?_map,Option.map_eq_some_iff,DataW.lit.injEq,Lit.string.injEq] at h2
    obtain ⟨z',hz',hz2⟩:=h2
    have e:(⟨z'.toArray⟩ : ByteArray)=z:=by rw [hz2]
    simp [h1,hz',e]
   ·rw [List.getElem?_eq_none (by omega),List.getElem?_eq_none (by simp;omega)]
  ·cases h
theorem of_laid {W:World} (h:laidMetH Tryz.prog laidL W):SignsIs W∧Lib.TabIs Tryz.prog W "internal/strconv.uint64pow10" .u64 Lib.pow10Tab:=by
 rw [MakeChecks.laidMetH_plain _ _ _ (by kernel_rfl)] at h
 constructor
 ·obtain ⟨ps,⟨g,t,cs,fuel,p,q,hg,ht,hv,hd,_,_⟩,_⟩:=h.tail.tail.tail.tail.tail
  obtain rfl:=Option.some.inj (gSigns.symm.trans hg)
  obtain rfl:=Option.some.inj (tSigns.symm.trans ht)
  have hcs:cs.toList=[[46,46],[60,61],[61,61],[33,61],[62,61],[123],[125],[40],[41],[59],[60],[62]].map fun z=>Value.string ⟨z.toArray⟩ :=
   cells_of_strs Tryz.underlying293 Tryz.underlying9 (by kernel_rfl) (by kernel_rfl) hd
  have hcs2:cs=signsC:=by
   have:cs=cs.toList.toArray:=by simp
   rw [this,hcs];rfl
  simp only [World.var?,gSigns,Option.bind_some] at hv
  split at hv
  ·rename_i cs' t' fr hh
   simp only [Option.some.injEq] at hv
   exact ⟨t',fr,by rw [hh,hv,hcs2]⟩
  ·cases hv
 ·exact Lib.tabIs_of_head gPow tPow Tryz.underlying367 Tryz.underlying333 (by kernel_rfl) (by kernel_rfl) (rest:=[("strconv.ErrRange",Rows.laid_strconv_ErrRange),("strconv.ErrSyntax",Rows.laid_strconv_ErrSyntax),("helm/token.signs",Rows.laid_helm_token_signs)]) h.tail.tail
theorem tab_below {W:World} (h:Lib.TabIs Tryz.prog W "internal/strconv.uint64pow10" .u64 Lib.pow10Tab):∀ V,Below W.heap.size W V→Lib.TabIs Tryz.prog V "internal/strconv.uint64pow10" .u64 Lib.pow10Tab:=Lib.tabBelow_of_tabIs h
theorem door_met (os:Os) (args:Array Value):laidMetH Tryz.prog laidL ((World.doorLaid Tryz.prog 4000 os).forCall (fun _ _=>0) ⟨#[],args,[]⟩).memory :=
 laidMetH_of_parts3 (fuel:=8) (laidMet_of_run' 8 (by kernel_rfl) (by kernel_rfl)) (by kernel_rfl) (by kernel_rfl)
end Go.Proofs.YtdjaiolfdbamcaaGreatDoor
