/- Walks of the scanner's takeInt. -/
import Derived.Test.YtdjaiolfdbamcaaGreatDoorZWScan1
import Derived.Test.YtdjaiolfdbamcaaGreatDoorZWJoin
import Derived.Test.YtdjaiolfdbamcaaGreatDoorZWScan7
import Derived.Test.YtdjaiolfdbamcaaGreatDoorShelf
import Derived.Deep.RegionHeld3
import Derived.Lib.AppendIntMem
import Derived.Deep.LoopGhost
set_option maxRecDepth 20000
set_option maxHeartbeats 400000
namespace Go.Proofs.YtdjaiolfdbamcaaGreatDoor
section
open Go.RowKit
namespace Hx
structure IntAt (q:ByteArray) (line sgn d:Nat):Prop where
 le:sgn+d<=q.size
 zero:d=0->tokOf q.data.toList line=none
 long:0<d->4<d->tokOf q.data.toList line=none
 val:0<d->¬ 4<d->∃ v:Int,Lib.atoi (q.extract 0 (sgn+d)).data.toList=some v /\ -9999<=v/\v<=9999/\tokOf q.data.toList line=some (sgn+d,⟨105,⟨(Lib.itoa v).toArray⟩,v,line⟩)
theorem extract_list (q:ByteArray) (n:Nat):(q.extract 0 n).data.toList=q.data.toList.take n:=by simp [ByteArray.data_extract]
theorem int_at0 (q:ByteArray) (line d:Nat) (h0:0<q.size) (hn:¬ q[0]=45) (hdig:isDig q[0]=true) (hd:spanLen isDig q.data.toList=d):IntAt q line 0 d:=by
 have hd0:0<d:=by rw [<- hd];have:=span_hit isDig q 0 h0 hdig;simp only [List.drop_zero] at this;omega
 refine ⟨?_,fun h=>by omega,fun _ h4=>tok_long0 q 0 d line ⟨h0,hn⟩ hd hd0 h4,fun _ h4=>?_⟩
 ·have:=spanLen_le isDig q.data.toList;rw [hd] at this;simpa using this
 ·obtain ⟨a,_,b,c⟩:=atoi_digits q.data.toList d hd hd0 h4
  refine ⟨_,by rw [extract_list,Nat.zero_add];exact a,by omega,c,?_⟩;rw [<- decI_itoa _ (by omega) c];exact tok_int0 q 0 d line _ ⟨h0,hn⟩ hd hd0 h4 rfl
theorem int_at1 (q:ByteArray) (line d:Nat) (h0:0<q.size) (hm:q[0]=45) (hd:spanLen isDig (q.data.toList.drop 1)=d):IntAt q line 1 d:=by
 have hc:q.data.toList=45::q.data.toList.drop 1:=by have:=drop_one q 0 h0;rw [hm] at this;simpa using this
 refine ⟨?_,fun h=>?_,fun hd0 h4=>tok_long1 q 0 d line ⟨h0,hm⟩ hd hd0 h4,fun hd0 h4=>?_⟩
 ·have:=spanLen_le isDig (q.data.toList.drop 1);rw [hd,List.length_drop] at this;simp at this;omega
 ·refine tok_sign1_none q 0 line ⟨h0,hm,by rw [hm];decide⟩ (hd.trans h) ?_
  rw [List.drop_zero,hc]
  cases q.data.toList.drop 1 <;> rfl
 ·obtain ⟨_,a,b,c⟩:=atoi_digits (q.data.toList.drop 1) d hd hd0 h4
  refine ⟨-numOf ((q.data.toList.drop 1).take d),?_,?_,?_,?_⟩
  ·rw [extract_list,hc,Nat.add_comm,List.take_succ_cons,<- hc];exact a
  ·omega
  ·omega
  ·rw [<- decI_itoa _ (by omega) (by omega)]
   exact tok_int1 q 0 d line _ ⟨h0,hm⟩ hd hd0 h4 rfl
end Hx
theorem scan_set4 {w:World} {b g:Nat} {r:ByteArray} {line:Nat} {c0 c1 c2 c3:Value} (hn:b≠g) (h:ScanIs w b r line) :
  ScanIs ((((w.setCell ⟨g,0,none⟩ c0).setCell ⟨g,1,none⟩ c1).setCell ⟨g,2,none⟩ c2).setCell ⟨g,3,none⟩ c3) b r line:=by
 have hb:∀ j:Nat,((((w.setCell ⟨g,0,none⟩ c0).setCell ⟨g,1,none⟩ c1).setCell ⟨g,2,none⟩ c2).setCell ⟨g,3,none⟩ c3).frozen? ⟨b,j,none⟩=w.frozen? ⟨b,j,none⟩:=fun j=>by simp
 exact ⟨cell_set4 hn h.rest,cell_set4 hn h.line,(hb 0).trans h.free0,(hb 1).trans h.free1,by simpa using h.lies⟩
theorem bytes_below (w:World) (e:TypeId) (t:ByteArray):Below w.heap.size w (Lib.bytesWorld w e t) :=
 Lib.below_freeze ((Below.drew (Below.refl _ w)).alloc (Nat.le_refl _) _) (p:=⟨w.heap.size,_,none⟩) (Nat.le_refl _) 1
theorem takeInt_neg (w:World) (b:Nat) (q:ByteArray) (line:Nat) (h:ScanIs w b q line) (hq:q.size<=3000) (h0:0<q.size) (hm:q[0]=45)
  (htab:∀ W,Kp (fun k=>k=b) w W->Lib.TabIs Tryz.prog W "internal/strconv.uint64pow10" .u64 Lib.pow10Tab) :
  Calls Tryz.prog 152 #[.pointer (some ⟨b,0,none⟩)] w fun e w'=>TakeR w b q line e w':=by
 have HS:=hide h;have HTAB:=hide htab;clear htab;obtain ⟨c0,c1,f0,f1,hl⟩:=h;go_enter Tryz.func152,Tryz.ntmps152;generalize hd:Hx.spanLen Hx.isDig (q.data.toList.drop 1)=d;have HI:=hide (Hx.int_at1 q line d h0 hm hd);have HE:=hide (show Hx.spanLen Hx.isDig (q.extract 1 q.size).data.toList=d by rw [<- hd];obtain ⟨l,e1,e2⟩:=tail_data q h0;rw [e2,e1];rfl);have HY:=hide (Hx.byte_yes (m:=45) rfl hm);have hle:=HI.out.le;clear hd hm;have hy:=HY.out;have h1q:(1:Int)<=q.size:=by omega
 go_wp2_with fail;refine (span_dig (q.extract 1 q.size) _ (by simp;omega)).mono ?_;rintro e w1 ⟨rfl,rfl⟩;rw [HE.out]
 by_cases d0:d=0
 ·have HT:=hide (HI.out.zero d0)
  subst d0;go_wp2_with fail;refine bodyPost_ret (v:=.tuple #[zeroA,.bool false]) (by simp [results,Tryz.results152,go_sem,zeroA]) rfl ?_;refine ⟨(Kp.refl _ _).alloc _,?_⟩;rw [HT.out];exact ⟨rfl,HS.out.below ((Below.refl _ _).alloc (Nat.le_refl _) _)⟩
 ·by_cases d4:4<d
  ·have HT:=hide (HI.out.long (by omega) d4)
   go_wp2_with fail;refine bodyPost_ret (v:=.tuple #[zeroA,.bool false]) (by simp [results,Tryz.results152,go_sem,zeroA]) rfl ?_;refine ⟨(Kp.refl _ _).alloc _,?_⟩;rw [HT.out];exact ⟨rfl,HS.out.below ((Below.refl _ _).alloc (Nat.le_refl _) _)⟩
  ·obtain ⟨v,v1,v2,v3,v4⟩:=HI.out.val (by omega) d4
   have HT:=hide v4;have HV:=hide v1;clear v4 v1;obtain ⟨n,hn⟩ : ∃ n,n=1+d:=⟨_,rfl⟩;rw [<- hn] at HT HV hle;have hn4:n<=5/\0<n:=by omega
   have HN:=hide hn;clear hn;have hz0:((d:Int) == 0)=false:=by simpa using d0
   have hz4:¬ ((4:Int)<d):=by omega
   go_wp2_with fail;rw [show (1+(d:Int))=((n:Nat):Int) by have:=HN.out;omega];refine (cut_any _ b q line n (HS.out.below ((Below.refl _ _).alloc (Nat.le_refl _) _)) hle).mono ?_;rintro e w1 ⟨rfl,rfl⟩;go_wp2_with fail;refine (Tryz.strconv_Atoi (q.extract 0 n) v (by simp;omega) HV.out _).mono ?_;rintro e w1 ⟨rfl,t,hw1⟩;have K1:Hid (Below w.heap.size (w.setCell ⟨b,0,none⟩ (.string (q.extract n q.size))) ((w.setCell ⟨b,0,none⟩ (.string (q.extract n q.size))).alloc (.cells #[.int .i64 0,.string ⟨#[]⟩,.int .i64 0,.int .i64 0] 149))):=hide ((Below.refl _ _).alloc (by simp) _);have hbx:w1.heap[w.heap.size]? = some (.cells #[.int .i64 0,.string ⟨#[]⟩,.int .i64 0,.int .i64 0] 149 (0,0)):=by
    rw [hw1,((bytes_below _ 5 t).block w.heap.size (by simp))];have:=heap_alloc_new (w.setCell ⟨b,0,none⟩ (.string (q.extract n q.size))) (.cells #[.int .i64 0,.string ⟨#[]⟩,.int .i64 0,.int .i64 0] 149);simpa using this
   have HKP:Hid (Kp (fun k=>k=b) w w1):=hide (by rw [hw1];exact (((Kp.refl (fun k=>k=b) w).setCell (p:=⟨b,0,none⟩) (.inl rfl) _).alloc _).below (bytes_below _ 5 t));have HSC:Hid (ScanIs w1 b (q.extract n q.size) line):=hide (by rw [hw1];exact ((HS.out.set0 _).below ((Below.refl _ _).alloc (Nat.le_refl _) _)).below (bytes_below _ 5 t));have hl1:=HSC.out.line;have hs1:w.heap.size<w1.heap.size:=(Array.getElem?_eq_some_iff.1 hbx).1;have HBX:=hide hbx;clear hw1 hbx K1 c0 c1 f0 f1;have hne:b≠w.heap.size:=by omega
   have hv0 : -9223372036854775808<=v:=by omega
   have hv1:v<=9223372036854775807:=by omega
   have HT1:=hide (HTAB.out _ HKP.out.drew);go_wp2_with fail
   go_region_held3 (fun W=>W.cell? ⟨b,1,none⟩=some (.int .i64 line)) (first | with_reducible assumption | with_reducible exact cell_set4 hne hl2 | exact hl1)
    ((go_at_call 194;refine (Tryz.strconv_Itoa v hv0 hv1 _ HT1.out).mono ?_;rintro e w2 ⟨rfl,kd,os,hw2⟩;have hb2:Below w1.heap.size w1.drew w2:=hw2 ▸ Lib.below_grow w1.heap.size w1.drew (Nat.le_refl _) kd os;clear hw2;have hl2:=(hb2.cell (p:=⟨b,1,none⟩) (Nat.lt_trans hl hs1)).trans hl1;have hx2:=(hb2.block w.heap.size hs1).trans HBX.out;have x0:w2.cell? ⟨w.heap.size,0,none⟩=some (.int .i64 0):=Lib.cell_of_heap hx2 0;have x1:w2.cell? ⟨w.heap.size,1,none⟩=some (.string ⟨#[]⟩):=Lib.cell_of_heap hx2 1;have x2:w2.cell? ⟨w.heap.size,2,none⟩=some (.int .i64 0):=Lib.cell_of_heap hx2 2;have x3:w2.cell? ⟨w.heap.size,3,none⟩=some (.int .i64 0):=Lib.cell_of_heap hx2 3;have g0:w2.frozen? ⟨w.heap.size,0,none⟩=false:=Lib.frozen_of_heap hx2 0;have g1:w2.frozen? ⟨w.heap.size,1,none⟩=false:=Lib.frozen_of_heap hx2 1;have g2:w2.frozen? ⟨w.heap.size,2,none⟩=false:=Lib.frozen_of_heap hx2 2;have g3:w2.frozen? ⟨w.heap.size,3,none⟩=false:=Lib.frozen_of_heap hx2 3;have HX2:=hide hx2;have HB2:=hide hb2;clear hx2 hb2;generalize hit:(⟨(Lib.itoa v).toArray⟩ : ByteArray)=tx;have HIT:=hide hit;clear hit))
   go_wp2_with fail;refine bodyPost_ret (v:=.tuple #[.agg #[.int .i64 2,.string tx,.int .i64 v,.int .i64 line],.bool true]) (by simp [results,Tryz.results152,go_sem, *]) rfl ?_;have HK4:Hid (Kp (fun k=>k=b) w w2):=hide (HKP.out.drew.below (by simpa using HB2.out));refine ⟨(((HK4.out.setCell (p:=⟨w.heap.size,0,none⟩) (.inr (Nat.le_refl _)) _).setCell (p:=⟨w.heap.size,1,none⟩) (.inr (Nat.le_refl _)) _).setCell (p:=⟨w.heap.size,2,none⟩) (.inr (Nat.le_refl _)) _).setCell (p:=⟨w.heap.size,3,none⟩) (.inr (Nat.le_refl _)) _,?_⟩;rw [HT.out];refine ⟨by rw [<- HIT.out];rfl,?_,by omega,hle⟩;exact scan_set4 hne ((HSC.out.below (w':=w1.drew) ((Below.refl _ _).drew)).below (by simpa using HB2.out))
theorem takeInt_dig (w:World) (b:Nat) (q:ByteArray) (line:Nat) (h:ScanIs w b q line) (hq:q.size<=3000) (h0:0<q.size) (hm:¬ q[0]=45) (hdg0:Hx.isDig q[0]=true)
  (htab:∀ W,Kp (fun k=>k=b) w W->Lib.TabIs Tryz.prog W "internal/strconv.uint64pow10" .u64 Lib.pow10Tab) :
  Calls Tryz.prog 152 #[.pointer (some ⟨b,0,none⟩)] w fun e w'=>TakeR w b q line e w':=by
 have HS:=hide h;have HTAB:=hide htab;clear htab;obtain ⟨c0,c1,f0,f1,hl⟩:=h;go_enter Tryz.func152,Tryz.ntmps152;generalize hd:Hx.spanLen Hx.isDig q.data.toList=d;have HI:=hide (Hx.int_at0 q line d h0 hm hdg0 hd);have HE:=hide hd;have HY:=hide (Hx.byte_no (m:=45) rfl hm);have hle:d<=q.size:=by have:=HI.out.le;omega
 clear hd hm hdg0;have hy:=HY.out;go_wp2_with fail;refine (span_dig q _ hq).mono ?_;rintro e w1 ⟨rfl,rfl⟩;rw [HE.out]
 by_cases d0:d=0
 ·have HT:=hide (HI.out.zero d0)
  subst d0;go_wp2_with fail;refine bodyPost_ret (v:=.tuple #[zeroA,.bool false]) (by simp [results,Tryz.results152,go_sem,zeroA]) rfl ?_;refine ⟨(Kp.refl _ _).alloc _,?_⟩;rw [HT.out];exact ⟨rfl,HS.out.below ((Below.refl _ _).alloc (Nat.le_refl _) _)⟩
 ·by_cases d4:4<d
  ·have HT:=hide (HI.out.long (by omega) d4)
   go_wp2_with fail;refine bodyPost_ret (v:=.tuple #[zeroA,.bool false]) (by simp [results,Tryz.results152,go_sem,zeroA]) rfl ?_;refine ⟨(Kp.refl _ _).alloc _,?_⟩;rw [HT.out];exact ⟨rfl,HS.out.below ((Below.refl _ _).alloc (Nat.le_refl _) _)⟩
  ·obtain ⟨v,v1,v2,v3,v4⟩:=HI.out.val (by omega) d4
   have HT:=hide v4;have HV:=hide v1;clear v4 v1;rw [Nat.zero_add] at HT HV;have hn4:d<=5/\0<d:=by omega
   have hz0:((d:Int) == 0)=false:=by simpa using d0
   have hz4:¬ ((4:Int)<d):=by omega
   go_wp2_with fail;refine (cut_any _ b q line d (HS.out.below ((Below.refl _ _).alloc (Nat.le_refl _) _)) hle).mono ?_;rintro e w1 ⟨rfl,rfl⟩;go_wp2_with fail;refine (Tryz.strconv_Atoi (q.extract 0 d) v (by simp;omega) HV.out _).mono ?_;rintro e w1 ⟨rfl,t,hw1⟩;have K1:Hid (Below w.heap.size (w.setCell ⟨b,0,none⟩ (.string (q.extract d q.size))) ((w.setCell ⟨b,0,none⟩ (.string (q.extract d q.size))).alloc (.cells #[.int .i64 0,.string ⟨#[]⟩,.int .i64 0,.int .i64 0] 149))):=hide ((Below.refl _ _).alloc (by simp) _);have hbx:w1.heap[w.heap.size]? = some (.cells #[.int .i64 0,.string ⟨#[]⟩,.int .i64 0,.int .i64 0] 149 (0,0)):=by
    rw [hw1,((bytes_below _ 5 t).block w.heap.size (by simp))];have:=heap_alloc_new (w.setCell ⟨b,0,none⟩ (.string (q.extract d q.size))) (.cells #[.int .i64 0,.string ⟨#[]⟩,.int .i64 0,.int .i64 0] 149);simpa using this
   have HKP:Hid (Kp (fun k=>k=b) w w1):=hide (by rw [hw1];exact (((Kp.refl (fun k=>k=b) w).setCell (p:=⟨b,0,none⟩) (.inl rfl) _).alloc _).below (bytes_below _ 5 t));have HSC:Hid (ScanIs w1 b (q.extract d q.size) line):=hide (by rw [hw1];exact ((HS.out.set0 _).below ((Below.refl _ _).alloc (Nat.le_refl _) _)).below (bytes_below _ 5 t));have hl1:=HSC.out.line;have hs1:w.heap.size<w1.heap.size:=(Array.getElem?_eq_some_iff.1 hbx).1;have HBX:=hide hbx;clear hw1 hbx K1 c0 c1 f0 f1;have hne:b≠w.heap.size:=by omega
   have hv0 : -9223372036854775808<=v:=by omega
   have hv1:v<=9223372036854775807:=by omega
   have HT1:=hide (HTAB.out _ HKP.out.drew);go_wp2_with fail
   go_region_held3 (fun W=>W.cell? ⟨b,1,none⟩=some (.int .i64 line)) (first | with_reducible assumption | with_reducible exact cell_set4 hne hl2 | exact hl1)
    ((go_at_call 194;refine (Tryz.strconv_Itoa v hv0 hv1 _ HT1.out).mono ?_;rintro e w2 ⟨rfl,kd,os,hw2⟩;have hb2:Below w1.heap.size w1.drew w2:=hw2 ▸ Lib.below_grow w1.heap.size w1.drew (Nat.le_refl _) kd os;clear hw2;have hl2:=(hb2.cell (p:=⟨b,1,none⟩) (Nat.lt_trans hl hs1)).trans hl1;have hx2:=(hb2.block w.heap.size hs1).trans HBX.out;have x0:w2.cell? ⟨w.heap.size,0,none⟩=some (.int .i64 0):=Lib.cell_of_heap hx2 0;have x1:w2.cell? ⟨w.heap.size,1,none⟩=some (.string ⟨#[]⟩):=Lib.cell_of_heap hx2 1;have x2:w2.cell? ⟨w.heap.size,2,none⟩=some (.int .i64 0):=Lib.cell_of_heap hx2 2;have x3:w2.cell? ⟨w.heap.size,3,none⟩=some (.int .i64 0):=Lib.cell_of_heap hx2 3;have g0:w2.frozen? ⟨w.heap.size,0,none⟩=false:=Lib.frozen_of_heap hx2 0;have g1:w2.frozen? ⟨w.heap.size,1,none⟩=false:=Lib.frozen_of_heap hx2 1;have g2:w2.frozen? ⟨w.heap.size,2,none⟩=false:=Lib.frozen_of_heap hx2 2;have g3:w2.frozen? ⟨w.heap.size,3,none⟩=false:=Lib.frozen_of_heap hx2 3;have HX2:=hide hx2;have HB2:=hide hb2;clear hx2 hb2;generalize hit:(⟨(Lib.itoa v).toArray⟩ : ByteArray)=tx;have HIT:=hide hit;clear hit))
   go_wp2_with fail;refine bodyPost_ret (v:=.tuple #[.agg #[.int .i64 2,.string tx,.int .i64 v,.int .i64 line],.bool true]) (by simp [results,Tryz.results152,go_sem, *]) rfl ?_;have HK4:Hid (Kp (fun k=>k=b) w w2):=hide (HKP.out.drew.below (by simpa using HB2.out));refine ⟨(((HK4.out.setCell (p:=⟨w.heap.size,0,none⟩) (.inr (Nat.le_refl _)) _).setCell (p:=⟨w.heap.size,1,none⟩) (.inr (Nat.le_refl _)) _).setCell (p:=⟨w.heap.size,2,none⟩) (.inr (Nat.le_refl _)) _).setCell (p:=⟨w.heap.size,3,none⟩) (.inr (Nat.le_refl _)) _,?_⟩;rw [HT.out];refine ⟨by rw [<- HIT.out];rfl,?_,by omega,hle⟩;exact scan_set4 hne ((HSC.out.below (w':=w1.drew) ((Below.refl _ _).drew)).below (by simpa using HB2.out))
theorem takeInt_any (w:World) (b:Nat) (q:ByteArray) (line:Nat) (h:ScanIs w b q line) (hq:q.size<=3000) (h0:0<q.size) (hdg:Hx.isDig q[0]=true\/q[0]=45)
  (htab:∀ W,Kp (fun k=>k=b) w W->Lib.TabIs Tryz.prog W "internal/strconv.uint64pow10" .u64 Lib.pow10Tab) :
  Calls Tryz.prog 152 #[.pointer (some ⟨b,0,none⟩)] w fun e w'=>TakeR w b q line e w':=by
 by_cases hm:q[0]=45
 ·exact takeInt_neg w b q line h hq h0 hm htab
 ·exact takeInt_dig w b q line h hq h0 hm (hdg.elim id (fun e=>absurd e hm)) htab
end
section
open Go.RowKit
def TakeE (w:World) (b:Nat) (q:ByteArray) (line:Nat) (e:Ending) (w':World):Prop :=
 if q.size=0 then Kp (fun k=>k=b) w w'/\e=.returned (.tuple #[aggA ⟨101,⟨#[]⟩,0,line⟩,.bool true])/\ScanIs w' b q line
 else TakeR w b q line e w'
theorem TakeR.out {w w':World} {b:Nat} {q:ByteArray} {line:Nat} {e:Ending} (h:TakeR w b q line e w') :
  ∃ (k:Int) (s:ByteArray) (n l:Int) (ok:Bool),e=.returned (.tuple #[.agg #[.int .i64 k,.string s,.int .i64 n,.int .i64 l],.bool ok]):=by
 obtain ⟨_,h⟩:=h;split at h
 ·exact ⟨_,_,_,_,_,h.1⟩
 ·exact ⟨_,_,_,_,_,h.1⟩
theorem TakeR.step {w w1:World} {b:Nat} {q:ByteArray} {line:Nat} {e:Ending} {o:Obj} {c0 c1 c2 c3:Value} (h:TakeR (w.alloc o) b q line e w1) (hb:b<w.heap.size) :
  TakeR w b q line e ((((w1.setCell ⟨w.heap.size,0,none⟩ c0).setCell ⟨w.heap.size,1,none⟩ c1).setCell ⟨w.heap.size,2,none⟩ c2).setCell ⟨w.heap.size,3,none⟩ c3):=by
 obtain ⟨hk,h⟩:=h;have hk':Kp (fun k=>k=b) w w1:=((Kp.refl _ w).alloc o).trans hk (fun k e=>.inl e);refine ⟨(((hk'.setCell (p:=⟨w.heap.size,0,none⟩) (.inr (Nat.le_refl _)) _).setCell (p:=⟨w.heap.size,1,none⟩) (.inr (Nat.le_refl _)) _).setCell (p:=⟨w.heap.size,2,none⟩) (.inr (Nat.le_refl _)) _).setCell (p:=⟨w.heap.size,3,none⟩) (.inr (Nat.le_refl _)) _,?_⟩;split at h
 ·exact ⟨h.1,scan_set4 (by omega) h.2⟩
 ·exact ⟨h.1,scan_set4 (by omega) h.2.1,h.2.2⟩
theorem SignsIs.alloc {w:World} (h:SignsIs w) (o:Obj):SignsIs (w.alloc o):=by
 obtain ⟨t,fr,h⟩:=h;exact ⟨t,fr,(((Below.refl w.heap.size w).alloc (Nat.le_refl _) o).block _ (Array.getElem?_eq_some_iff.1 h).1).trans h⟩
theorem TakeR.box {w w1:World} {b:Nat} {q:ByteArray} {line:Nat} {e:Ending} {cs:Array Value} {t:TypeId} (h:TakeR (w.alloc (.cells cs t)) b q line e w1) (hb:b<w.heap.size) :
  w1.heap[w.heap.size]? = some (.cells cs t (0,0)) :=
 (h.1.block w.heap.size (by simp) (by omega)).trans (heap_alloc_new w (.cells cs t))
theorem take_any (w:World) (b:Nat) (q:ByteArray) (line:Nat) (h:ScanIs w b q line) (hq:q.size<=3000) (hsg:SignsIs w)
  (htab:∀ W,Kp (fun k=>k=b) w W->Lib.TabIs Tryz.prog W "internal/strconv.uint64pow10" .u64 Lib.pow10Tab) :
  Calls Tryz.prog 102 #[.pointer (some ⟨b,0,none⟩)] w fun e w'=>TakeE w b q line e w':=by
 have HS:=hide h;have HTAB:=hide htab;have HSG:=hide hsg;clear htab hsg;obtain ⟨c0,c1,f0,f1,hl⟩:=h;have HSA:∀ o,Hid (ScanIs (w.alloc o) b q line):=fun o=>hide (HS.out.below ((Below.refl _ _).alloc (Nat.le_refl _) o))
 go_enter Tryz.func102,Tryz.ntmps102
 by_cases h0:q.size=0
 ·have e0:(q.toList == [])=true:=by rw [Lib.toList_data];simp;exact Array.eq_empty_of_size_eq_zero h0
  have H0:=hide h0;clear h0;go_wp2_with fail;refine bodyPost_ret (v:=.tuple #[.agg #[.int .i64 0,.string ⟨#[]⟩,.int .i64 0,.int .i64 line],.bool true]) (by simp [results,Tryz.results102,go_sem]) rfl ?_;rw [TakeE,if_pos H0.out];exact ⟨(Kp.refl _ _).alloc _,rfl,(HSA _).out⟩
 ·have hpos:0<q.size:=by omega
  have HN:Hid (¬ q.size=0):=hide h0;have e0:(q.toList == [])=false:=by rw [Lib.toList_data,beq_eq_false_iff_ne];intro e;have h2:=Lib.size_eq q;rw [e] at h2;simp only [List.length_nil] at h2;omega
  clear h0;go_wp2_with fail;refine (isLetter_any _ _).mono ?_;rintro e w1 ⟨rfl,rfl⟩
  cases hlo:Hx.isLow q[0] with
  | true =>
   go_wp2_with fail;refine (takeWord_any _ b q line (HSA _).out hq hpos hlo).mono ?_;intro e w1 hR;have hx:=hR.box hl;have x0:w1.cell? ⟨w.heap.size,0,none⟩=some (.int .i64 0):=Lib.cell_of_heap hx 0;have x1:w1.cell? ⟨w.heap.size,1,none⟩=some (.string ⟨#[]⟩):=Lib.cell_of_heap hx 1;have x2:w1.cell? ⟨w.heap.size,2,none⟩=some (.int .i64 0):=Lib.cell_of_heap hx 2;have x3:w1.cell? ⟨w.heap.size,3,none⟩=some (.int .i64 0):=Lib.cell_of_heap hx 3;have g0:w1.frozen? ⟨w.heap.size,0,none⟩=false:=Lib.frozen_of_heap hx 0;have g1:w1.frozen? ⟨w.heap.size,1,none⟩=false:=Lib.frozen_of_heap hx 1;have g2:w1.frozen? ⟨w.heap.size,2,none⟩=false:=Lib.frozen_of_heap hx 2;have g3:w1.frozen? ⟨w.heap.size,3,none⟩=false:=Lib.frozen_of_heap hx 3;have HR:=hide hR;obtain ⟨k,s,n,l,ok,rfl⟩:=hR.out;clear hR hx;go_wp2_with fail;refine bodyPost_ret (v:=.tuple #[.agg #[.int .i64 k,.string s,.int .i64 n,.int .i64 l],.bool ok]) (by simp [results,Tryz.results102,go_sem, *]) rfl ?_;rw [TakeE,if_neg HN.out];exact HR.out.step hl
  | false =>
   go_wp2_with fail;refine (isDigit_any _ _).mono ?_;rintro e w1 ⟨rfl,rfl⟩;have HTA:∀ o,Hid (∀ W,Kp (fun k=>k=b) (w.alloc o) W->Lib.TabIs Tryz.prog W "internal/strconv.uint64pow10" .u64 Lib.pow10Tab):=fun o=>hide (fun W hW=>HTAB.out W (((Kp.refl _ w).alloc o).trans hW (fun k e=>.inl e)))
   cases hdi:Hx.isDig q[0] with
   | true =>
    go_wp2_with fail;refine (takeInt_any _ b q line (HSA _).out hq hpos (.inl hdi) (HTA _).out).mono ?_;intro e w1 hR;have hx:=hR.box hl;have x0:w1.cell? ⟨w.heap.size,0,none⟩=some (.int .i64 0):=Lib.cell_of_heap hx 0;have x1:w1.cell? ⟨w.heap.size,1,none⟩=some (.string ⟨#[]⟩):=Lib.cell_of_heap hx 1;have x2:w1.cell? ⟨w.heap.size,2,none⟩=some (.int .i64 0):=Lib.cell_of_heap hx 2;have x3:w1.cell? ⟨w.heap.size,3,none⟩=some (.int .i64 0):=Lib.cell_of_heap hx 3;have g0:w1.frozen? ⟨w.heap.size,0,none⟩=false:=Lib.frozen_of_heap hx 0;have g1:w1.frozen? ⟨w.heap.size,1,none⟩=false:=Lib.frozen_of_heap hx 1;have g2:w1.frozen? ⟨w.heap.size,2,none⟩=false:=Lib.frozen_of_heap hx 2;have g3:w1.frozen? ⟨w.heap.size,3,none⟩=false:=Lib.frozen_of_heap hx 3;have HR:=hide hR;obtain ⟨k,s,n,l,ok,rfl⟩:=hR.out;clear hR hx;go_wp2_with fail;refine bodyPost_ret (v:=.tuple #[.agg #[.int .i64 k,.string s,.int .i64 n,.int .i64 l],.bool ok]) (by simp [results,Tryz.results102,go_sem, *]) rfl ?_;rw [TakeE,if_neg HN.out];exact HR.out.step hl
   | false =>
    by_cases hm:q[0]=45
    ·have hy:=Hx.byte_yes (m:=45) rfl hm
     go_wp2_with fail;refine (takeInt_any _ b q line (HSA _).out hq hpos (.inr hm) (HTA _).out).mono ?_;intro e w1 hR;have hx:=hR.box hl;have x0:w1.cell? ⟨w.heap.size,0,none⟩=some (.int .i64 0):=Lib.cell_of_heap hx 0;have x1:w1.cell? ⟨w.heap.size,1,none⟩=some (.string ⟨#[]⟩):=Lib.cell_of_heap hx 1;have x2:w1.cell? ⟨w.heap.size,2,none⟩=some (.int .i64 0):=Lib.cell_of_heap hx 2;have x3:w1.cell? ⟨w.heap.size,3,none⟩=some (.int .i64 0):=Lib.cell_of_heap hx 3;have g0:w1.frozen? ⟨w.heap.size,0,none⟩=false:=Lib.frozen_of_heap hx 0;have g1:w1.frozen? ⟨w.heap.size,1,none⟩=false:=Lib.frozen_of_heap hx 1;have g2:w1.frozen? ⟨w.heap.size,2,none⟩=false:=Lib.frozen_of_heap hx 2;have g3:w1.frozen? ⟨w.heap.size,3,none⟩=false:=Lib.frozen_of_heap hx 3;have HR:=hide hR;obtain ⟨k,s,n,l,ok,rfl⟩:=hR.out;clear hR hx;go_wp2_with fail;refine bodyPost_ret (v:=.tuple #[.agg #[.int .i64 k,.string s,.int .i64 n,.int .i64 l],.bool ok]) (by simp [results,Tryz.results102,go_sem, *]) rfl ?_;rw [TakeE,if_neg HN.out];exact HR.out.step hl
    ·have hy:=Hx.byte_no (m:=45) rfl hm
     go_wp2_with fail;refine (takeSign_any _ b q line (HSA _).out hpos hm hlo hdi (HSG.out.alloc _)).mono ?_;intro e w1 hR;have hx:=hR.box hl;have x0:w1.cell? ⟨w.heap.size,0,none⟩=some (.int .i64 0):=Lib.cell_of_heap hx 0;have x1:w1.cell? ⟨w.heap.size,1,none⟩=some (.string ⟨#[]⟩):=Lib.cell_of_heap hx 1;have x2:w1.cell? ⟨w.heap.size,2,none⟩=some (.int .i64 0):=Lib.cell_of_heap hx 2;have x3:w1.cell? ⟨w.heap.size,3,none⟩=some (.int .i64 0):=Lib.cell_of_heap hx 3;have g0:w1.frozen? ⟨w.heap.size,0,none⟩=false:=Lib.frozen_of_heap hx 0;have g1:w1.frozen? ⟨w.heap.size,1,none⟩=false:=Lib.frozen_of_heap hx 1;have g2:w1.frozen? ⟨w.heap.size,2,none⟩=false:=Lib.frozen_of_heap hx 2;have g3:w1.frozen? ⟨w.heap.size,3,none⟩=false:=Lib.frozen_of_heap hx 3;have HR:=hide hR;obtain ⟨k,s,n,l,ok,rfl⟩:=hR.out;clear hR hx;go_wp2_with fail;refine bodyPost_ret (v:=.tuple #[.agg #[.int .i64 k,.string s,.int .i64 n,.int .i64 l],.bool ok]) (by simp [results,Tryz.results102,go_sem, *]) rfl ?_;rw [TakeE,if_neg HN.out];exact HR.out.step hl
end
section
open Go.RowKit
def cellsA (t:Hx.Tok):List Value:=[.int .i64 (kindA t.k),.string t.s,.int .i64 t.n,.int .i64 t.line]
def rowA (ts:List Hx.Tok):List Value:=ts.flatMap cellsA
theorem rowA_snoc (ts:List Hx.Tok) (t:Hx.Tok):rowA (ts++[t])=rowA ts++cellsA t:=by simp [rowA]
def faultC (code line:Int):Array Value:=#[.int .i64 code,.int .i64 line,.string ⟨#[]⟩,.slice none 0 0,.slice none 0 0]
theorem ScanIs.kp {F:Nat->Prop} {w w':World} {b:Nat} {r:ByteArray} {line:Nat} (h:ScanIs w b r line) (hk:Kp F w w') (hn:¬ F b):ScanIs w' b r line :=
 ⟨(hk.cell h.lies hn).trans h.rest,(hk.cell h.lies hn).trans h.line,(hk.frozen h.lies hn).trans h.free0,(hk.frozen h.lies hn).trans h.free1,Nat.lt_of_lt_of_le h.lies hk.size⟩
theorem lexF_bare {l:List UInt8} {c:UInt8} {r:List UInt8} (hl:l=c::r) (hb:Bare l) (g line:Nat) (acc:List Hx.Tok) :
  Hx.lexF (g+1) l line acc=match Hx.tokOf l line with | none=>.inl line | some (n,t)=>Hx.lexF g (l.drop n) line (acc++[t]):=by
 obtain ⟨h1,h2,h3⟩:=hb c r hl;subst hl;rw [Hx.lexF,if_neg h1,if_neg h2,if_neg h3];rfl
theorem tokOf_kind {l:List UInt8} {line n:Nat} {t:Hx.Tok} (h:Hx.tokOf l line=some (n,t)):kindA t.k≠0:=by
 unfold Hx.tokOf at h;dsimp only at h
 repeat' (split at h)
 all_goals first
  | (cases h;done)
  | (cases h;decide)
  | (simp only [Option.some.injEq,Prod.mk.injEq] at h;obtain ⟨_,rfl⟩:=h;dsimp only;decide)
def fset (w:World) (g:Nat) (c0 c1 c2 c3 c4:Value):World:=((((w.setCell ⟨g,0,none⟩ c0).setCell ⟨g,1,none⟩ c1).setCell ⟨g,2,none⟩ c2).setCell ⟨g,3,none⟩ c3).setCell ⟨g,4,none⟩ c4
theorem fset_kp {F:Nat->Prop} {a w:World} {g:Nat} (h:Kp F a w) (hp:F g\/a.heap.size<=g) (c0 c1 c2 c3 c4:Value):Kp F a (fset w g c0 c1 c2 c3 c4) :=
 ((((h.setCell (p:=⟨g,0,none⟩) hp c0).setCell (p:=⟨g,1,none⟩) hp c1).setCell (p:=⟨g,2,none⟩) hp c2).setCell (p:=⟨g,3,none⟩) hp c3).setCell (p:=⟨g,4,none⟩) hp c4
theorem fset_own {w:World} {g base e size n:Nat} {v:Value} {xs:List Value} {c0 c1 c2 c3 c4:Value} (hg:g<base) (h:w.ownsRow base e size v n xs):(fset w g c0 c1 c2 c3 c4).ownsRow base e size v n xs :=
 (fset_kp (Kp.refl (fun k=>k=g) w) (.inl rfl) c0 c1 c2 c3 c4).own h (fun k hk e=>by have:=(h.lt k hk).1;omega)
theorem fset_below {a w:World} {c0 c1 c2 c3 c4:Value} (h:Below a.heap.size a w):Below a.heap.size a (fset w a.heap.size c0 c1 c2 c3 c4) :=
 (fset_kp (F:=fun k=>a.heap.size<=k) (Kp.ofBelow h) (.inr (Nat.le_refl _)) c0 c1 c2 c3 c4).toBelow (fun _ h=>h) (Nat.le_refl _)
def ScInv (R:Nat ⊕ List Hx.Tok) (w:World) (k:Nat) (v5:Value) (wr:World):Prop :=
 ∃ (r:ByteArray) (line f:Nat) (acc:List Hx.Tok),ScanIs wr (w.heap.size+1) r line/\r.size<k/\r.size<f/\Hx.lexF f r.data.toList line acc=R /\
  wr.ownsRow (w.heap.size+2) 149 4 v5 acc.length (rowA acc)/\wr.heap[w.heap.size]? = some (.cells (faultC 0 0) 34 (0,0))/\Below w.heap.size w wr/\acc.length+r.size<=3000/\line+r.size<=3001
theorem Tryz.infoTokA:(Tryz.prog.info? 149).map (fun i=>(i.zero,i.size,i.bytes))=some (some (.agg #[.int .i64 0,.string ⟨#[]⟩,.int .i64 0,.int .i64 0]),4,40):=by kernel_rfl
def scanPost (R:Nat ⊕ List Hx.Tok) (B:Nat) (e:Ending) (w':World):Prop :=
 match R with
 | .inl line=>e=.returned (.tuple #[.slice none 0 0,.agg (faultC 2 line)])
 | .inr ts=>∃ v,e=.returned (.tuple #[v,.agg (faultC 0 0)])/\w'.ownsRow B 149 4 v ts.length (rowA ts)
theorem SignsIs.below {w w':World} {B:Nat} (h:SignsIs w) (hb:Below B w w') (hB:w.heap.size<=B):SignsIs w':=by
 obtain ⟨t,fr,h⟩:=h;exact ⟨t,fr,(hb.block _ (Nat.lt_of_lt_of_le (Array.getElem?_eq_some_iff.1 h).1 hB)).trans h⟩
theorem Scan_any (s:ByteArray) (w:World) (hs:s.size<=3000) (hsg:SignsIs w) (htab:∀ W,Below w.heap.size w W->Lib.TabIs Tryz.prog W "internal/strconv.uint64pow10" .u64 Lib.pow10Tab) :
  Calls Tryz.prog 70 #[.string s] w fun e w'=>scanPost (Hx.lex s.data.toList) (w.heap.size+2) e w'/\Below w.heap.size w w':=by
 obtain ⟨i0,hi0,hz0,hz1,hz2⟩:=info_parts Tryz.infoTokA;generalize hR:Hx.lex s.data.toList=R;have HR:Hid (_=_):=hR;have HSG:=hide hsg;have HTAB:=hide htab;clear hR hsg htab;go_enter Tryz.func70,Tryz.ntmps70;go_wp2_with fail
 go_loopg [5] 3001 (fun k v5 wr=>ScInv R w k v5 wr)
 case atStart =>
  refine ⟨s,1,s.size+1,[],?_,by omega,by omega,by simpa [Hx.lex] using HR.out,World.ownsRow_nil _ _ _ _,?_,?_,by simpa using hs,by omega⟩
  ·exact ⟨by simp,by simp,by simp,by simp,by simp⟩
  ·have:=(((Below.refl (w.heap.size+1) (w.alloc (.cells (faultC 0 0) 34))).alloc (by simp) (.cells #[.string s,.int .i64 1] 198)).block w.heap.size (by simp)).trans (heap_alloc_new w _)
   exact this
  ·exact ((Below.refl _ _).alloc (Nat.le_refl _) _).alloc (by simp) _
 case round =>
  obtain ⟨r,line,f,acc,hS,hk,hf,hlex,hown,hbx,hb,hacc,hline⟩:=hrel;have HS:=hide hS;have HX:=hide hlex;have HO:=hide hown;have HF:=hide hbx;have HB:=hide hb;clear hS hlex hown hbx hb;go_wp2_with fail;refine (skipBlanks_any wr (w.heap.size+1) r line HS.out (by omega) (by omega)).mono ?_;rintro e w1 ⟨rfl,q,ln,hS1,hK1,hSk,hqr,hln,hBare⟩;obtain ⟨g,hg,he⟩:=hSk f acc (by simpa using hf);have hb1:Below w.heap.size w w1:=HB.out.trans (hK1.toBelow (fun k e=>by omega) HB.out.size);have HX1:=hide (he.symm.trans HX.out);have HS1:=hide hS1;have HO1:=hide (hK1.own HO.out (fun k hk e=>by have:=(HO.out.lt k hk).1;omega));have HF1:=hide ((hK1.block w.heap.size (Array.getElem?_eq_some_iff.1 HF.out).1 (by omega)).trans HF.out);have HBa:=hide hBare;have HB1:=hide hb1;clear hSk he hBare hb1 hS1 hK1 HX HS HO HF HB;have hgq:q.size<g:=by simpa using hg
  go_wp2_with fail;refine (take_any w1 (w.heap.size+1) q ln HS1.out (by omega) (HSG.out.below HB1.out (Nat.le_refl _)) (fun W hW=>HTAB.out W (HB1.out.trans (hW.toBelow (fun k e=>by omega) HB1.out.size)))).mono ?_;intro e w2 hT;have HT:=hide hT;clear hT;have h1s:w.heap.size+1<w1.heap.size:=HS1.out.lies
  by_cases q0:q.size=0
  ·have hT:=HT.out
   rw [TakeE,if_pos q0] at hT;obtain ⟨hK2,rfl,hS2⟩:=hT;rw [show aggA ⟨101,⟨#[]⟩,0,ln⟩=Value.agg #[.int .i64 0,.string ⟨#[]⟩,.int .i64 0,.int .i64 ln] from rfl];have HK2:=hide hK2;clear hK2 hS2 HT;have h2s:w1.heap.size<=w2.heap.size:=HK2.out.size;have HO2:Hid (w2.ownsRow (w.heap.size+2) 149 4 u5 acc.length (rowA acc)):=hide (HK2.out.own HO1.out (fun k hk e=>by have:=(HO1.out.lt k hk).1;omega));have HW:Hid (Below w2.heap.size w2 (w2.alloc (.cells #[.int .i64 0,.string ⟨#[]⟩,.int .i64 0,.int .i64 ln] 149))):=(Below.refl _ _).alloc (Nat.le_refl _) _;go_wp2_with (at_builtin;refine wpList_append_own _ rfl _ _ 83 rfl (w.heap.size+2) 149 i0 _ 4 40 Tryz.underlying83 hi0 hz0 hz1 hz2 rfl (by decide) _ _ _ rfl (own_below HO2.out (HW.out.alloc HW.out.size _)) ⟨w2.heap.size+1,0,none⟩ 1 1 ([.int .i64 0,.string ⟨#[]⟩,.int .i64 0,.int .i64 ln]) rfl rfl ?c1 ?c2 ?c3 ?c4 ?c5 ?_)
   case c1=>exact news_new _ _ (by simp) [_,_,_,_] _
   case c2=>intro u hu;simp at hu;rcases hu with rfl | rfl | rfl | rfl <;> rfl
   case c3=>unfold maxLen;omega
   case c4=>omega
   case c5=>have h2:=HW.out.size;simp at h2 |-;omega
   intro v' w3 hown' hgrow _;have hown3:=hown';have hW:∀ k,k<w2.heap.size->((w2.alloc (.cells #[.int .i64 0,.string ⟨#[]⟩,.int .i64 0,.int .i64 ln] 149)).alloc (.cells #[.int .i64 0,.string ⟨#[]⟩,.int .i64 0,.int .i64 ln] 149)).heap[k]? = w2.heap[k]? := fun k hk=>(((Below.refl w2.heap.size w2).alloc (Nat.le_refl _) _).alloc (by simp) _).block k hk
   have K3:Kp (fun k=>u5.ownBlock=some k) ((w2.alloc (.cells #[.int .i64 0,.string ⟨#[]⟩,.int .i64 0,.int .i64 ln] 149)).alloc (.cells #[.int .i64 0,.string ⟨#[]⟩,.int .i64 0,.int .i64 ln] 149)) w3:=(Kp.refl _ _).grown hgrow (fun k h=>.inl h);have hf2:w2.heap[w.heap.size]? = some (.cells (faultC 0 0) 34 (0,0)):=(HK2.out.block w.heap.size (by omega) (by omega)).trans HF1.out;have hf3:w3.heap[w.heap.size]? = some (.cells (faultC 0 0) 34 (0,0)):=(K3.block w.heap.size (by simp;omega) (fun h=>by have:=(HO2.out.lt _ h).1;omega)).trans ((hW _ (by omega)).trans hf2);have t0:w3.cell? ⟨w2.heap.size,0,none⟩=some (.int .i64 0):=(K3.cell (by simp;omega) (fun h=>by have:=(HO2.out.lt _ h).2;omega)).trans (by simp);have HB3:Hid (Below w.heap.size w w3):=hide (HB1.out.trans ((((HK2.out.toBelow (B:=w.heap.size) (fun k e=>by omega) (by omega)).alloc (by omega) _).alloc (by simp;omega) _).trans (K3.toBelow (fun k h=>by have:=(HO2.out.lt k h).1;omega) (by simp;omega))));have HO3:Hid (w3.ownsRow (w.heap.size+2) 149 4 v' (acc.length+1) (rowA acc++[.int .i64 0,.string ⟨#[]⟩,.int .i64 0,.int .i64 ln])):=hide hown3;have HF3:=hide hf3;have y0:w3.cell? ⟨w.heap.size,0,none⟩=some (.int .i64 0):=Lib.cell_of_heap hf3 0;have z0:w3.frozen? ⟨w.heap.size,0,none⟩=false:=Lib.frozen_of_heap hf3 0;have y1:w3.cell? ⟨w.heap.size,1,none⟩=some (.int .i64 0):=Lib.cell_of_heap hf3 1;have z1:w3.frozen? ⟨w.heap.size,1,none⟩=false:=Lib.frozen_of_heap hf3 1;have y2:w3.cell? ⟨w.heap.size,2,none⟩=some (.string ⟨#[]⟩):=Lib.cell_of_heap hf3 2;have z2:w3.frozen? ⟨w.heap.size,2,none⟩=false:=Lib.frozen_of_heap hf3 2;have y3:w3.cell? ⟨w.heap.size,3,none⟩=some (.slice none 0 0):=Lib.cell_of_heap hf3 3;have z3:w3.frozen? ⟨w.heap.size,3,none⟩=false:=Lib.frozen_of_heap hf3 3;have y4:w3.cell? ⟨w.heap.size,4,none⟩=some (.slice none 0 0):=Lib.cell_of_heap hf3 4;have z4:w3.frozen? ⟨w.heap.size,4,none⟩=false:=Lib.frozen_of_heap hf3 4;clear hown' hown3 hgrow hW hf2 hf3 K3;go_wp2_with fail;refine bodyPost_ret (v:=.tuple #[v',.agg #[.int .i64 0,.int .i64 0,.string ⟨#[]⟩,.slice none 0 0,.slice none 0 0]]) (by simp [results,Tryz.results70,go_sem, *]) rfl ?_;have hq:q.data.toList=[]:=List.eq_nil_of_length_eq_zero (by simpa using q0);obtain ⟨g,rfl⟩ : ∃ g',g=g'+1:=⟨g-1,by omega⟩;have hR:=HX1.out;rw [hq,Hx.lexF] at hR;rw [<- hR];refine ⟨⟨v',rfl,?_⟩,?_⟩
   ·rw [rowA_snoc,List.length_append]
    exact fset_own (by omega) HO3.out
   ·exact fset_below HB3.out
  ·have hT:=HT.out
   rw [TakeE,if_neg q0] at hT;obtain ⟨hK2,hT⟩:=hT;have HK2:=hide hK2;clear hK2 HT;have h2s:w1.heap.size<=w2.heap.size:=HK2.out.size;have HO2:Hid (w2.ownsRow (w.heap.size+2) 149 4 u5 acc.length (rowA acc)):=hide (HK2.out.own HO1.out (fun k hk e=>by have:=(HO1.out.lt k hk).1;omega));have HF2:Hid (w2.heap[w.heap.size]? = some (.cells (faultC 0 0) 34 (0,0))):=hide ((HK2.out.block w.heap.size (by omega) (by omega)).trans HF1.out);have HB2:Hid (Below w.heap.size w w2):=hide (HB1.out.trans (HK2.out.toBelow (fun k e=>by omega) (by omega)));obtain ⟨c,cr,hc⟩ : ∃ c cr,q.data.toList=c::cr:=by
    cases h:q.data.toList with
    | nil=>exact absurd (by have:=congrArg List.length h;simpa using this) q0
    | cons c cr=>exact ⟨c,cr,rfl⟩
   obtain ⟨g,rfl⟩ : ∃ g',g=g'+1:=⟨g-1,by omega⟩;have hLX:=HX1.out;rw [lexF_bare hc HBa.out] at hLX;have hwa:w.heap.size<w2.heap.size:=by omega
   cases htk:Hx.tokOf q.data.toList ln with
   | none =>
    rw [htk] at hT hLX;obtain ⟨rfl,hS2⟩:=hT;have HLX:=hide hLX;have HS2:=hide hS2;have ly:=hS2.line;have ll:=hS2.lies;rw [show zeroA=Value.agg #[.int .i64 0,.string ⟨#[]⟩,.int .i64 0,.int .i64 0] from rfl];clear hLX hS2 htk hc q0 hg hgq;have y0:w2.cell? ⟨w.heap.size,0,none⟩=some (.int .i64 0):=Lib.cell_of_heap HF2.out 0;have z0:w2.frozen? ⟨w.heap.size,0,none⟩=false:=Lib.frozen_of_heap HF2.out 0;have y1:w2.cell? ⟨w.heap.size,1,none⟩=some (.int .i64 0):=Lib.cell_of_heap HF2.out 1;have z1:w2.frozen? ⟨w.heap.size,1,none⟩=false:=Lib.frozen_of_heap HF2.out 1;have y2:w2.cell? ⟨w.heap.size,2,none⟩=some (.string ⟨#[]⟩):=Lib.cell_of_heap HF2.out 2;have z2:w2.frozen? ⟨w.heap.size,2,none⟩=false:=Lib.frozen_of_heap HF2.out 2;have y3:w2.cell? ⟨w.heap.size,3,none⟩=some (.slice none 0 0):=Lib.cell_of_heap HF2.out 3;have z3:w2.frozen? ⟨w.heap.size,3,none⟩=false:=Lib.frozen_of_heap HF2.out 3;have y4:w2.cell? ⟨w.heap.size,4,none⟩=some (.slice none 0 0):=Lib.cell_of_heap HF2.out 4;have z4:w2.frozen? ⟨w.heap.size,4,none⟩=false:=Lib.frozen_of_heap HF2.out 4;go_wp2_with fail
    go_region
    go_wp2_with fail;refine bodyPost_ret (v:=.tuple #[.slice none 0 0,.agg #[.int .i64 2,.int .i64 ln,.string ⟨#[]⟩,.slice none 0 0,.slice none 0 0]]) (by simp [results,Tryz.results70,go_sem, *]) rfl ?_;refine ⟨by rw [<- HLX.out];rfl,?_⟩;exact ((fset_below HB2.out).alloc (by simp [fset];omega) _).drew
   | some p =>
    obtain ⟨n,t⟩:=p;rw [htk] at hT hLX;obtain ⟨rfl,hS2,hn0,hnq⟩:=hT;have hkd:=tokOf_kind htk;obtain ⟨kd,hkk⟩ : ∃ kd,kd=kindA t.k:=⟨_,rfl⟩;rw [<- hkk] at hkd;have hk0:(kd == 0)=false:=by simpa using hkd
    rw [show aggA t=Value.agg #[.int .i64 kd,.string t.s,.int .i64 t.n,.int .i64 t.line] by rw [hkk];rfl];have HKD:=hide hkk;have HLX:=hide hLX;have HS2:=hide hS2;clear hLX hS2 htk hc q0 hg hkk hkd;have HW:Hid (Below w2.heap.size w2 (w2.alloc (.cells #[.int .i64 kd,.string t.s,.int .i64 t.n,.int .i64 t.line] 149))):=(Below.refl _ _).alloc (Nat.le_refl _) _;go_wp2_with (at_builtin;refine wpList_append_own _ rfl _ _ 83 rfl (w.heap.size+2) 149 i0 _ 4 40 Tryz.underlying83 hi0 hz0 hz1 hz2 rfl (by decide) _ _ _ rfl (own_below HO2.out (HW.out.alloc HW.out.size _)) ⟨w2.heap.size+1,0,none⟩ 1 1 ([.int .i64 kd,.string t.s,.int .i64 t.n,.int .i64 t.line]) rfl rfl ?c1 ?c2 ?c3 ?c4 ?c5 ?_)
    case c1=>exact news_new _ _ (by simp) [_,_,_,_] _
    case c2=>intro u hu;simp at hu;rcases hu with rfl | rfl | rfl | rfl <;> rfl
    case c3=>unfold maxLen;omega
    case c4=>omega
    case c5=>have h2:=HW.out.size;simp at h2 |-;omega
    intro v' w3 hown' hgrow _;have hown3:=hown';have hW:∀ k,k<w2.heap.size->((w2.alloc (.cells #[.int .i64 kd,.string t.s,.int .i64 t.n,.int .i64 t.line] 149)).alloc (.cells #[.int .i64 kd,.string t.s,.int .i64 t.n,.int .i64 t.line] 149)).heap[k]? = w2.heap[k]? := fun k hk=>(((Below.refl w2.heap.size w2).alloc (Nat.le_refl _) _).alloc (by simp) _).block k hk
    have K3:Kp (fun k=>u5.ownBlock=some k) ((w2.alloc (.cells #[.int .i64 kd,.string t.s,.int .i64 t.n,.int .i64 t.line] 149)).alloc (.cells #[.int .i64 kd,.string t.s,.int .i64 t.n,.int .i64 t.line] 149)) w3:=(Kp.refl _ _).grown hgrow (fun k h=>.inl h);have hf3:w3.heap[w.heap.size]? = some (.cells (faultC 0 0) 34 (0,0)):=(K3.block w.heap.size (by simp;omega) (fun h=>by have:=(HO2.out.lt _ h).1;omega)).trans ((hW _ (by omega)).trans HF2.out);have t0:w3.cell? ⟨w2.heap.size,0,none⟩=some (.int .i64 kd):=(K3.cell (by simp;omega) (fun h=>by have:=(HO2.out.lt _ h).2;omega)).trans (by simp);have HB3:Hid (Below w.heap.size w w3):=hide (HB1.out.trans ((((HK2.out.toBelow (B:=w.heap.size) (fun k e=>by omega) (by omega)).alloc (by omega) _).alloc (by simp;omega) _).trans (K3.toBelow (fun k h=>by have:=(HO2.out.lt k h).1;omega) (by simp;omega))));have HO3:Hid (w3.ownsRow (w.heap.size+2) 149 4 v' (acc.length+1) (rowA acc++[.int .i64 kd,.string t.s,.int .i64 t.n,.int .i64 t.line])):=hide hown3;have HF3:=hide hf3;have HS3:Hid (ScanIs w3 (w.heap.size+1) (q.extract n q.size) ln):=hide ((HS2.out.below (((Below.refl w2.heap.size w2).alloc (Nat.le_refl _) _).alloc (by simp) _)).kp K3 (fun h=>by have:=(HO2.out.lt _ h).1;omega));clear hown' hown3 hgrow hW hf3 K3;go_wp2_with fail
    go_roundg (q.size)
    case measure=>omega
    case rel=>exact ⟨q.extract n q.size,ln,g,acc++[t],HS3.out,by simp;omega,by simp;omega,by rw [Lib.extract_data,List.take_of_length_le (by simp)];exact HLX.out,by rw [rowA_snoc,List.length_append,cellsA,<- HKD.out];exact HO3.out,HF3.out,HB3.out,by simp;omega,by simp;omega⟩
end
end Go.Proofs.YtdjaiolfdbamcaaGreatDoor
