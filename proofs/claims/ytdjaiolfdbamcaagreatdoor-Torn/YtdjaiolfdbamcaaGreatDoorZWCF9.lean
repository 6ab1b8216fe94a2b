/- The walk of findOne. -/
import Derived.Test.YtdjaiolfdbamcaaGreatDoorZWCF8
import Derived.Test.YtdjaiolfdbamcaaGreatDoorZCFind
import Derived.Test.YtdjaiolfdbamcaaGreatDoorZWCE5
import Derived.WalkMore
import Derived.Deep.LoopGhost
import Derived.Maps.Own
import Derived.Maps.OwnOps
import Derived.Maps.Views
set_option maxRecDepth 20000
set_option maxHeartbeats 2000000
namespace Go.Proofs.YtdjaiolfdbamcaaGreatDoor
section
open Go.RowKit
def NR (W:World) (s:Value) (l:List Int):Prop :=
 ∃ g cap,s=.slice (some ⟨g,0,none⟩) l.length cap/\l.length<=cap/\g<W.heap.size/\∀ i (hi:i<l.length),W.cell? ⟨g,i,none⟩=some (.int .i64 l[i])
theorem NR.below {W W':World} {s:Value} {l:List Int} (h:NR W s l) (hb:Below W.heap.size W W'):NR W' s l:=by
 obtain ⟨g,cap,rfl,hc,hg,hr⟩:=h;exact ⟨g,cap,rfl,hc,Nat.lt_of_lt_of_le hg hb.size,fun i hi=>(hb.cell (p:=⟨g,i,none⟩) hg).trans (hr i hi)⟩
theorem NR.ns {W:World} {s:Value} {l:List Int} (h:NR W s l):NS l.length W s l:=by
 obtain ⟨g,cap,rfl,_,hg,hr⟩:=h;exact ⟨rfl,g,cap,rfl,hg,hr⟩
def SR (W:World) (s:Value) (l:List Int):Prop :=
 ∃ g cap,s=.slice (some ⟨g,0,none⟩) l.length cap/\g<W.heap.size/\∀ i (hi:i<l.length),W.cell? ⟨g,i,none⟩=some (.int .u32 l[i])
theorem SR.below {W W':World} {s:Value} {l:List Int} (h:SR W s l) (hb:Below W.heap.size W W'):SR W' s l:=by
 obtain ⟨g,cap,rfl,hg,hr⟩:=h;exact ⟨g,cap,rfl,Nat.lt_of_lt_of_le hg hb.size,fun i hi=>(hb.cell (p:=⟨g,i,none⟩) hg).trans (hr i hi)⟩
def PlM (W:World) (s:Value) (ps:List (ByteArray×List Int)):Prop :=
 ∃ g cap,s=.slice (some ⟨g,0,none⟩) ps.length cap/\g<W.heap.size/\∀ i (hi:i<ps.length),W.cell? ⟨g,i*2,none⟩=some (.string ps[i].1)/\∃ v,W.cell? ⟨g,i*2+1,none⟩=some v/\SR W v ps[i].2
def ScM (W:World) (s:Value) (ss:List (List Int×Int)):Prop :=
 ∃ g cap,s=.slice (some ⟨g,0,none⟩) ss.length cap/\g<W.heap.size/\∀ i (hi:i<ss.length),W.cell? ⟨g,i*2+1,none⟩=some (.int .u32 ss[i].2)/\∃ v,W.cell? ⟨g,i*2,none⟩=some v/\NR W v ss[i].1
theorem PlM.below {W W':World} {s:Value} {ps:List (ByteArray×List Int)} (h:PlM W s ps) (hb:Below W.heap.size W W'):PlM W' s ps:=by
 obtain ⟨g,cap,rfl,hg,hr⟩:=h;refine ⟨g,cap,rfl,Nat.lt_of_lt_of_le hg hb.size,fun i hi=>?_⟩;obtain ⟨h1,v,h2,h3⟩:=hr i hi;exact ⟨(hb.cell (p:=⟨g,i*2,none⟩) hg).trans h1,v,(hb.cell (p:=⟨g,i*2+1,none⟩) hg).trans h2,h3.below hb⟩
theorem ScM.below {W W':World} {s:Value} {ss:List (List Int×Int)} (h:ScM W s ss) (hb:Below W.heap.size W W'):ScM W' s ss:=by
 obtain ⟨g,cap,rfl,hg,hr⟩:=h;refine ⟨g,cap,rfl,Nat.lt_of_lt_of_le hg hb.size,fun i hi=>?_⟩;obtain ⟨h1,v,h2,h3⟩:=hr i hi;exact ⟨(hb.cell (p:=⟨g,i*2+1,none⟩) hg).trans h1,v,(hb.cell (p:=⟨g,i*2,none⟩) hg).trans h2,h3.below hb⟩
def FoundR (w w':World) (e:Ending) (code:Int) (r:Option (ByteArray×List Int)):Prop :=
 Below w.heap.size w w'/\match r with
 | none=>e=.returned (.agg #[.int .i64 0,.int .i64 0,.string ⟨#[]⟩,.slice none 0 0,.slice none 0 0])
 | some x=>∃ v u,e=.returned (.agg #[.int .i64 code,.int .i64 0,.string x.1,v,u])/\w'.ownsRow w.heap.size 3 1 v (x.2.length/2) ((x.2.take (x.2.length/2)).map (.int .i64))/\w'.ownsRow w.heap.size 3 1 u (x.2.length/2) ((x.2.drop (x.2.length/2)).map (.int .i64))/\∀ k,v.ownBlock=some k->u.ownBlock≠some k
abbrev zeroF:Array Value:=#[.int .i64 0,.int .i64 0,.string ⟨#[]⟩,.slice none 0 0,.slice none 0 0]
theorem case_no {code jv:Int} {nm:ByteArray} {rows l:List Int} {x:Int} (h:Cx.judgeP rows x=jv) (hc:¬ jv=code):Cx.isCase code (nm,rows) (l,x)=none:=by simp [Cx.isCase,h,hc]
theorem case_yes {code:Int} {nm:ByteArray} {rows l:List Int} {x:Int} (h:Cx.judgeP rows x=code):Cx.isCase code (nm,rows) (l,x)=some (nm,l):=by simp [Cx.isCase,h]
theorem findOne_any (w:World) (code:Int) (ps:List (ByteArray×List Int)) (ss:List (List Int×Int)) (sp sq:Value) (hp:PlM w sp ps) (hq:ScM w sq ss) (hpl:ps.length<=100000) (hsl:ss.length<=100000000) (hn:∀ p∈ps,p.1.size<=1000/\p.2.length<=1000) (hm:∀ s∈ss,∃ h,s.1.length=2*h/\h<=1000) :
  Calls Tryz.prog 78 #[.int .i64 code,sp,sq] w fun e w'=>FoundR w w' e code (Cx.findOne code ps ss):=by
 obtain ⟨gp,cp,rfl,hgp,hpr⟩:=hp;obtain ⟨gq,cq,rfl,hgq,hqr⟩:=hq;have HP:=hide hpr;have HQ:=hide hqr;have HN:=hide hn;have HM:=hide hm;clear hpr hqr hn hm;go_enter Tryz.func78,Tryz.ntmps78;go_wp2_with fail
 go_step3
 go_wp2_with fail
 go_step3
 go_wp2_with fail
 go_loopg [14] (ps.length) (fun k v14 wr=>∃ i:Nat,i+k=ps.length/\v14=.int .i64 i/\Below w.heap.size w wr/\wr.heap[w.heap.size]? = some (.cells zeroF 34 (0,0))/\wr.heap[w.heap.size+1]? = some (.cells zeroF 34 (0,0))/\((ps.drop i).findSome? fun p=>ss.findSome? fun s=>Cx.isCase code p s)=Cx.findOne code ps ss)
 case atStart=>exact ⟨0,by omega,rfl,below_two _ _ _,((below_a (w.alloc _) _).block w.heap.size (by simp)).trans (heap_alloc_new _ _),by have:=heap_alloc_new (w.alloc (.cells zeroF 34)) (.cells zeroF 34);rw [size_one'] at this;exact this,rfl⟩
 case round =>
  obtain ⟨i,hi,rfl,hb,hx0,hx1,hf⟩:=hrel;obtain ⟨wo,rfl⟩ : ∃ wo,wo=wr:=⟨wr,rfl⟩;have HB:=hide hb;have HX0:=hide hx0;have HX1:=hide hx1;have HF:=hide hf;have hsz:=hb.size;have hbx:w.heap.size+1<wo.heap.size:=(Array.getElem?_eq_some_iff.1 hx1).1;clear hx0 hx1 hf
  by_cases hlt:i<ps.length
  ·have hli:(i:Int)<ps.length:=by omega
   have hi0:(0:Int)<=i:=by omega
   obtain ⟨h1,vp,h2,h3⟩:=HP.out i hlt;obtain ⟨g1,c1,rfl,hg1,hr1⟩:=h3;obtain ⟨hn1,hn2⟩:=HN.out ps[i] (List.getElem_mem hlt);have x0:=(hb.cell (p:=⟨gp,i*2,none⟩) hgp).trans h1;have x1:=(hb.cell (p:=⟨gp,i*2+1,none⟩) hgp).trans h2
   have HI:Hid (((ps.drop i).findSome? fun p=>ss.findSome? fun s=>Cx.isCase code p s)=match (ss.findSome? fun s=>Cx.isCase code ps[i] s) with | some x=>some x | none=>((ps.drop (i+1)).findSome? fun p=>ss.findSome? fun s=>Cx.isCase code p s)):=hide (by
    cases hc:(ss.findSome? fun s=>Cx.isCase code ps[i] s) with
    | none=>exact Cx.findSome_drop _ ps i hlt hc
    | some x=>exact Cx.findSome_at _ ps i hlt hc)
   have HR1:=hide (fun j hj=>(hb.cell (p:=⟨g1,j,none⟩) hg1).trans (hr1 j hj));have hg1w:g1<wo.heap.size:=by omega
   clear hb h1 h2 hr1;generalize ps[i]=pi at *;obtain ⟨nm,rows⟩:=pi;simp only at *;have HBX:Hid (Below wo.heap.size wo (wo.alloc (.cells #[.string nm,.slice (some ⟨g1,0,none⟩) rows.length c1] 213))):=hide (below_a _ _);have HXP:=hide (heap_alloc_new wo (.cells #[.string nm,.slice (some ⟨g1,0,none⟩) rows.length c1] 213));have hXs:(wo.alloc (.cells #[.string nm,.slice (some ⟨g1,0,none⟩) rows.length c1] 213)).heap.size=wo.heap.size+1:=by simp
   obtain ⟨X,hX⟩ : ∃ X,X=wo.alloc (.cells #[.string nm,.slice (some ⟨g1,0,none⟩) rows.length c1] 213):=⟨_,rfl⟩;rw [<- hX] at HBX HXP hXs;go_wp2_with fail;rw [<- hX];clear hX x0 x1
   go_loopg [20] (ss.length) (fun k v20 wi=>∃ j:Nat,j+k=ss.length/\v20=.int .i64 j/\Below X.heap.size X wi/\((ss.drop j).findSome? fun s=>Cx.isCase code (nm,rows) s)=(ss.findSome? fun s=>Cx.isCase code (nm,rows) s))
   case atStart=>exact ⟨0,by omega,rfl,Below.refl _ _,rfl⟩
   case round =>
    obtain ⟨j,hj,rfl,hbi,hfi⟩:=hrel;have HBI:=hide hbi;have HFI:=hide hfi;have hsi:=hbi.size;clear hfi
    by_cases hltj:j<ss.length
    ·have hlj:(j:Int)<ss.length:=by omega
     have hj0:(0:Int)<=j:=by omega
     obtain ⟨h1,vq,h2,h3⟩:=HQ.out j hltj;obtain ⟨g2,c2,rfl,hc2,hg2,hr2⟩:=h3;obtain ⟨hh,hm1,hm2⟩:=HM.out ss[j] (List.getElem_mem hltj);have hbw:Below w.heap.size w wr:=(HB.out.trans (HBX.out.mono hsz)).trans (hbi.mono (by omega));have x0:=(hbw.cell (p:=⟨gq,j*2,none⟩) hgq).trans h2;have x1:=(hbw.cell (p:=⟨gq,j*2+1,none⟩) hgq).trans h1;have p0:wr.cell? ⟨wo.heap.size,0,none⟩=some (.string nm):=(hbi.cell (p:=⟨wo.heap.size,0,none⟩) (by rw [hXs];exact Nat.lt_succ_self _)).trans (Lib.cell_of_heap HXP.out 0);have p1:wr.cell? ⟨wo.heap.size,1,none⟩=some (.slice (some ⟨g1,0,none⟩) rows.length c1):=(hbi.cell (p:=⟨wo.heap.size,1,none⟩) (by rw [hXs];exact Nat.lt_succ_self _)).trans (Lib.cell_of_heap HXP.out 1);have hor:wo.heap.size<wr.heap.size:=by omega
     have HR2:=hide (fun k hk=>(hbw.cell (p:=⟨g2,k,none⟩) hg2).trans (hr2 k hk));have hg1X:g1<X.heap.size:=by omega
     have HR1':=hide (fun k hk=>(hbi.cell (p:=⟨g1,k,none⟩) hg1X).trans ((HBX.out.cell (p:=⟨g1,k,none⟩) hg1w).trans (HR1.out k hk)))
     have HSJ:Hid (((ss.drop j).findSome? fun s=>Cx.isCase code (nm,rows) s)=match Cx.isCase code (nm,rows) ss[j] with | some x=>some x | none=>((ss.drop (j+1)).findSome? fun s=>Cx.isCase code (nm,rows) s)):=hide (by
      cases hc:Cx.isCase code (nm,rows) ss[j] with
      | none=>exact Cx.findSome_drop _ ss j hltj hc
      | some x=>exact Cx.findSome_at _ ss j hltj hc)
     have HBW:=hide hbw;have HB0:Hid (wr.heap[w.heap.size]? = some (.cells zeroF 34 (0,0))):=hide ((hbi.block w.heap.size (by omega)).trans ((HBX.out.block w.heap.size (by omega)).trans HX0.out));have HB1:Hid (wr.heap[w.heap.size+1]? = some (.cells zeroF 34 (0,0))):=hide ((hbi.block (w.heap.size+1) (by omega)).trans ((HBX.out.block (w.heap.size+1) (by omega)).trans HX1.out));have hg1r:g1<wr.heap.size:=by omega
     have hg2r:g2<wr.heap.size:=by have:=hbw.size;omega
     clear hbi hbw h1 h2 hr2;generalize ss[j]=sj at *;obtain ⟨l,xr⟩:=sj;simp only at *;have HJ:=hide (fun (Y:World) (hY:Below wr.heap.size wr Y)=>judge_any Y g1 c1 rows xr (fun k hk=>(hY.cell (p:=⟨g1,k,none⟩) hg1r).trans (HR1'.out k hk)) (fun _=>Nat.lt_of_lt_of_le hg1r hY.size) (by omega))
     have HT:=hide (fun (Y:World) (hY:Below wr.heap.size wr Y)=>tell_any Y code nm g2 c2 hh l.length (l.take hh) (l.drop hh) (by omega) (Nat.lt_of_lt_of_le hg2r hY.size) hm1 (by simp;omega) (by simp;omega) hm2 hc2
      (fun k hk=>by
       have hk':k<l.length:=by simp at hk;omega
       have:=(hY.cell (p:=⟨g2,k,none⟩) hg2r).trans (HR2.out k hk')
       rw [Nat.zero_add,this];simp)
      (fun k hk=>by
       have hk':hh+k<l.length:=by simp at hk;omega
       have:=(hY.cell (p:=⟨g2,hh+k,none⟩) hg2r).trans (HR2.out (hh+k) hk')
       rw [this];simp))
     generalize hjv:Cx.judgeP rows xr=jv at *;have HM1:=hide hm1;have hl1:l.length<=2000:=by omega
     clear hm1;go_wp2_with fail;refine (HJ.out _ ?_).mono ?_
     ·exact below_a _ _
     rintro e w2 ⟨rfl,hb2⟩;have hb2':=(below_a wr (.cells #[.slice (some ⟨g2,0,none⟩) l.length c2,.int .u32 xr] 223)).trans (hb2.mono (below_a _ _).size);have HB2:=hide hb2';have hs2:=hb2'.size
     by_cases hc:jv=code
     ·subst hc
      have HE:Hid (Cx.findOne jv ps ss=some (nm,l)):=hide (by
       rw [<- HF.out,HI.out,<- HFI.out,HSJ.out,case_yes hjv])
      have s0:w2.cell? ⟨wr.heap.size,0,none⟩=some (.slice (some ⟨g2,0,none⟩) l.length c2):=(hb2.cell (p:=⟨wr.heap.size,0,none⟩) (by simp)).trans (Lib.cell_of_heap (heap_alloc_new _ _) 0);have t0:=(hb2'.cell (p:=⟨wo.heap.size,0,none⟩) hor).trans p0;clear hb2 hb2' x0 x1 p0 p1 HJ;go_wp2_with fail;refine (HT.out _ HB2.out).mono ?_;rintro e w3 ⟨v,u,rfl,ho1,ho2,hap,hb3⟩;obtain ⟨av,cv,rfl,_,_⟩:=row_shape ho1;obtain ⟨au,cu,rfl,_,_⟩:=row_shape ho2;have hk3:=HB2.out.trans (hb3.mono hs2);have b0:=(hk3.block w.heap.size (by omega)).trans HB0.out;have b1:=(hk3.block (w.heap.size+1) (by omega)).trans HB1.out;have hs3:=hb3.size;have HAP:=hide hap;have HY1:=hide (f5_heap (a:=.int .i64 jv) (b:=.int .i64 0) (c:=.string nm) (d:=.slice av hh cv) (e:=.slice au hh cu) b1);have hk1:=f5_kp w3 (w.heap.size+1) (.int .i64 jv) (.int .i64 0) (.string nm) (.slice av hh cv) (.slice au hh cu);have HY0:=hide (f5_heap (a:=.int .i64 jv) (b:=.int .i64 0) (c:=.string nm) (d:=.slice av hh cv) (e:=.slice au hh cu) ((hk1.block w.heap.size (by omega) (by omega)).trans b0));have hk0:=f5_kp (f5 w3 (w.heap.size+1) (.int .i64 jv) (.int .i64 0) (.string nm) (.slice av hh cv) (.slice au hh cu)) w.heap.size (.int .i64 jv) (.int .i64 0) (.string nm) (.slice av hh cv) (.slice au hh cu);have HBY:Hid (Below w.heap.size w (f5 (f5 w3 (w.heap.size+1) (.int .i64 jv) (.int .i64 0) (.string nm) (.slice av hh cv) (.slice au hh cu)) w.heap.size (.int .i64 jv) (.int .i64 0) (.string nm) (.slice av hh cv) (.slice au hh cu))):=hide (((HBW.out.trans (hk3.mono (by omega))).trans (hk1.toBelow (fun k e=>by omega) (by omega))).trans (hk0.toBelow (fun k e=>by omega) (by have:=hk1.size;omega)));have HO1:Hid ((f5 (f5 w3 (w.heap.size+1) (.int .i64 jv) (.int .i64 0) (.string nm) (.slice av hh cv) (.slice au hh cu)) w.heap.size (.int .i64 jv) (.int .i64 0) (.string nm) (.slice av hh cv) (.slice au hh cu)).ownsRow w.heap.size 3 1 (.slice av hh cv) hh ((l.take hh).map (.int .i64))):=hide (hk0.own (hk1.own (own_mono ho1 (by omega)) (fun k hk e=>by have:=(ho1.lt k hk).1;omega)) (fun k hk e=>by have:=(ho1.lt k hk).1;omega));have HO2:Hid ((f5 (f5 w3 (w.heap.size+1) (.int .i64 jv) (.int .i64 0) (.string nm) (.slice av hh cv) (.slice au hh cu)) w.heap.size (.int .i64 jv) (.int .i64 0) (.string nm) (.slice av hh cv) (.slice au hh cu)).ownsRow w.heap.size 3 1 (.slice au hh cu) hh ((l.drop hh).map (.int .i64))):=hide (hk0.own (hk1.own (own_mono ho2 (by omega)) (fun k hk e=>by have:=(ho2.lt k hk).1;omega)) (fun k hk e=>by have:=(ho2.lt k hk).1;omega));have y0:w3.cell? ⟨w.heap.size+1,0,none⟩=some (.int .i64 0):=Lib.cell_of_heap b1 0;have y1:w3.cell? ⟨w.heap.size+1,1,none⟩=some (.int .i64 0):=Lib.cell_of_heap b1 1;have y2:w3.cell? ⟨w.heap.size+1,2,none⟩=some (.string ⟨#[]⟩):=Lib.cell_of_heap b1 2;have y3:w3.cell? ⟨w.heap.size+1,3,none⟩=some (.slice none 0 0):=Lib.cell_of_heap b1 3;have y4:w3.cell? ⟨w.heap.size+1,4,none⟩=some (.slice none 0 0):=Lib.cell_of_heap b1 4;have p0:w3.frozen? ⟨w.heap.size+1,0,none⟩=false:=Lib.frozen_of_heap b1 0;have p1:w3.frozen? ⟨w.heap.size+1,1,none⟩=false:=Lib.frozen_of_heap b1 1;have p2:w3.frozen? ⟨w.heap.size+1,2,none⟩=false:=Lib.frozen_of_heap b1 2;have p3:w3.frozen? ⟨w.heap.size+1,3,none⟩=false:=Lib.frozen_of_heap b1 3;have p4:w3.frozen? ⟨w.heap.size+1,4,none⟩=false:=Lib.frozen_of_heap b1 4;have z0:w3.cell? ⟨w.heap.size,0,none⟩=some (.int .i64 0):=Lib.cell_of_heap b0 0;have z1:w3.cell? ⟨w.heap.size,1,none⟩=some (.int .i64 0):=Lib.cell_of_heap b0 1;have z2:w3.cell? ⟨w.heap.size,2,none⟩=some (.string ⟨#[]⟩):=Lib.cell_of_heap b0 2;have z3:w3.cell? ⟨w.heap.size,3,none⟩=some (.slice none 0 0):=Lib.cell_of_heap b0 3;have z4:w3.cell? ⟨w.heap.size,4,none⟩=some (.slice none 0 0):=Lib.cell_of_heap b0 4;have q0:w3.frozen? ⟨w.heap.size,0,none⟩=false:=Lib.frozen_of_heap b0 0;have q1:w3.frozen? ⟨w.heap.size,1,none⟩=false:=Lib.frozen_of_heap b0 1;have q2:w3.frozen? ⟨w.heap.size,2,none⟩=false:=Lib.frozen_of_heap b0 2;have q3:w3.frozen? ⟨w.heap.size,3,none⟩=false:=Lib.frozen_of_heap b0 3;have q4:w3.frozen? ⟨w.heap.size,4,none⟩=false:=Lib.frozen_of_heap b0 4;clear ho1 ho2 hap hb3 hk3 b0 b1 hk1 hk0 s0 t0;go_wp2_with fail;rw [Exit.noGoto_ret];show bodyPost _ _ _ _ _ (f5 (f5 w3 (w.heap.size+1) (.int .i64 jv) (.int .i64 0) (.string nm) (.slice av hh cv) (.slice au hh cu)) w.heap.size (.int .i64 jv) (.int .i64 0) (.string nm) (.slice av hh cv) (.slice au hh cu));generalize f5 (f5 w3 (w.heap.size+1) (.int .i64 jv) (.int .i64 0) (.string nm) (.slice av hh cv) (.slice au hh cu)) w.heap.size (.int .i64 jv) (.int .i64 0) (.string nm) (.slice av hh cv) (.slice au hh cu)=Y at *;clear y0 y1 y2 y3 y4 z0 z1 z2 z3 z4 q0 q1 q2 q3 q4 p0 p1 p2 p3 p4;have y0:Y.cell? ⟨w.heap.size,0,none⟩=some (.int .i64 jv):=Lib.cell_of_heap HY0.out 0;have y1:Y.cell? ⟨w.heap.size,1,none⟩=some (.int .i64 0):=Lib.cell_of_heap HY0.out 1;have y2:Y.cell? ⟨w.heap.size,2,none⟩=some (.string nm):=Lib.cell_of_heap HY0.out 2;have y3:Y.cell? ⟨w.heap.size,3,none⟩=some (.slice av hh cv):=Lib.cell_of_heap HY0.out 3;have y4:Y.cell? ⟨w.heap.size,4,none⟩=some (.slice au hh cu):=Lib.cell_of_heap HY0.out 4;refine bodyPost_ret (v:=.agg #[.int .i64 jv,.int .i64 0,.string nm,.slice av hh cv,.slice au hh cu]) (by simp [results,Tryz.results78,go_sem,y0,y1,y2,y3,y4]) rfl ?_;rw [HE.out];have e2:l.length/2=hh:=by rw [HM1.out];omega
      refine ⟨HBY.out,_,_,rfl,?_,?_,HAP.out⟩
      ·rw [e2];exact HO1.out
      ·rw [e2];exact HO2.out
     ·have HE:Hid (((ss.drop (j+1)).findSome? fun s=>Cx.isCase code (nm,rows) s)=ss.findSome? fun s=>Cx.isCase code (nm,rows) s):=hide (by
       rw [<- HFI.out,HSJ.out,case_no hjv hc])
      have HB9:Hid (Below X.heap.size X w2):=hide (HBI.out.trans (HB2.out.mono hsi));clear hb2 hb2' x0 x1 p0 p1 HJ HT;go_wp2_with fail
      go_roundg (ss.length-(j+1))
      case measure=>omega
      case rel=>exact ⟨j+1,by omega,by go_num,HB9.out,HE.out⟩
    ·obtain rfl:j=ss.length:=by omega
     have HE:Hid ((ss.findSome? fun s=>Cx.isCase code (nm,rows) s)=none):=hide (by rw [<- HFI.out,List.drop_length];rfl);have HE2:Hid (((ps.drop (i+1)).findSome? fun p=>ss.findSome? fun s=>Cx.isCase code p s)=Cx.findOne code ps ss):=hide (by rw [<- HF.out,HI.out,HE.out]);have HB9:Hid (Below w.heap.size w wr):=hide ((HB.out.trans (HBX.out.mono hsz)).trans (hbi.mono (by omega)));have HX0':Hid (wr.heap[w.heap.size]? = some (.cells zeroF 34 (0,0))):=hide ((hbi.block w.heap.size (by omega)).trans ((HBX.out.block w.heap.size (by omega)).trans HX0.out));have HX1':Hid (wr.heap[w.heap.size+1]? = some (.cells zeroF 34 (0,0))):=hide ((hbi.block (w.heap.size+1) (by omega)).trans ((HBX.out.block (w.heap.size+1) (by omega)).trans HX1.out));clear hbi;go_wp2_with fail
     go_roundg (ps.length-(i+1))
     case measure=>omega
     case rel=>exact ⟨i+1,by omega,by go_num,HB9.out,HX0'.out,HX1'.out,HE2.out⟩
  ·obtain rfl:i=ps.length:=by omega
   have HE:Hid (Cx.findOne code ps ss=none):=hide (by rw [<- HF.out,List.drop_length];rfl);have y0:wo.cell? ⟨w.heap.size+1,0,none⟩=some (.int .i64 0):=Lib.cell_of_heap HX1.out 0;have y1:wo.cell? ⟨w.heap.size+1,1,none⟩=some (.int .i64 0):=Lib.cell_of_heap HX1.out 1;have y2:wo.cell? ⟨w.heap.size+1,2,none⟩=some (.string ⟨#[]⟩):=Lib.cell_of_heap HX1.out 2;have y3:wo.cell? ⟨w.heap.size+1,3,none⟩=some (.slice none 0 0):=Lib.cell_of_heap HX1.out 3;have y4:wo.cell? ⟨w.heap.size+1,4,none⟩=some (.slice none 0 0):=Lib.cell_of_heap HX1.out 4;have z0:wo.cell? ⟨w.heap.size,0,none⟩=some (.int .i64 0):=Lib.cell_of_heap HX0.out 0;have z1:wo.cell? ⟨w.heap.size,1,none⟩=some (.int .i64 0):=Lib.cell_of_heap HX0.out 1;have z2:wo.cell? ⟨w.heap.size,2,none⟩=some (.string ⟨#[]⟩):=Lib.cell_of_heap HX0.out 2;have z3:wo.cell? ⟨w.heap.size,3,none⟩=some (.slice none 0 0):=Lib.cell_of_heap HX0.out 3;have z4:wo.cell? ⟨w.heap.size,4,none⟩=some (.slice none 0 0):=Lib.cell_of_heap HX0.out 4;have q0:wo.frozen? ⟨w.heap.size,0,none⟩=false:=Lib.frozen_of_heap HX0.out 0;have q1:wo.frozen? ⟨w.heap.size,1,none⟩=false:=Lib.frozen_of_heap HX0.out 1;have q2:wo.frozen? ⟨w.heap.size,2,none⟩=false:=Lib.frozen_of_heap HX0.out 2;have q3:wo.frozen? ⟨w.heap.size,3,none⟩=false:=Lib.frozen_of_heap HX0.out 3;have q4:wo.frozen? ⟨w.heap.size,4,none⟩=false:=Lib.frozen_of_heap HX0.out 4;have HY:=hide (f5_heap (a:=.int .i64 0) (b:=.int .i64 0) (c:=.string ⟨#[]⟩) (d:=.slice none 0 0) (e:=.slice none 0 0) HX0.out);have HBY:Hid (Below w.heap.size w (f5 wo w.heap.size (.int .i64 0) (.int .i64 0) (.string ⟨#[]⟩) (.slice none 0 0) (.slice none 0 0))):=hide (HB.out.trans ((f5_kp _ _ _ _ _ _ _).toBelow (fun k e=>by omega) hsz));go_wp2_with fail;rw [Exit.noGoto_ret];show bodyPost _ _ _ _ _ (f5 wo w.heap.size (.int .i64 0) (.int .i64 0) (.string ⟨#[]⟩) (.slice none 0 0) (.slice none 0 0));generalize f5 wo w.heap.size (.int .i64 0) (.int .i64 0) (.string ⟨#[]⟩) (.slice none 0 0) (.slice none 0 0)=Y at *;clear y0 y1 y2 y3 y4 z0 z1 z2 z3 z4 q0 q1 q2 q3 q4;have y0:Y.cell? ⟨w.heap.size,0,none⟩=some (.int .i64 0):=Lib.cell_of_heap HY.out 0;have y1:Y.cell? ⟨w.heap.size,1,none⟩=some (.int .i64 0):=Lib.cell_of_heap HY.out 1;have y2:Y.cell? ⟨w.heap.size,2,none⟩=some (.string ⟨#[]⟩):=Lib.cell_of_heap HY.out 2;have y3:Y.cell? ⟨w.heap.size,3,none⟩=some (.slice none 0 0):=Lib.cell_of_heap HY.out 3;have y4:Y.cell? ⟨w.heap.size,4,none⟩=some (.slice none 0 0):=Lib.cell_of_heap HY.out 4;refine bodyPost_ret (v:=.agg #[.int .i64 0,.int .i64 0,.string ⟨#[]⟩,.slice none 0 0,.slice none 0 0]) (by simp [results,Tryz.results78,go_sem,y0,y1,y2,y3,y4]) rfl ?_;rw [HE.out];exact ⟨HBY.out,rfl⟩
end
section
open Go.RowKit Go.Maps
theorem Tryz.keyStr:Keyed Tryz.prog 9:=string_keyed Tryz.underlying9
theorem Tryz.zeroRowSet (w:World):(zeroValue 214).run Tryz.prog w=.ok (.int .u32 0) w:=by kernel_rfl
namespace Cx
def cnt (ms:List Hx.MA) (i:Nat):Nat:=(rowNames (ms.take i)).length
theorem rowNames_take (ms:List Hx.MA) (i:Nat) (hi:i<ms.length):rowNames (ms.take (i+1))=rowNames (ms.take i)++ms[i].rows.map fun _=>ms[i].name.s:=by
 unfold rowNames;rw [List.take_add_one,List.getElem?_eq_getElem hi,List.flatMap_append];simp
theorem cnt_succ (ms:List Hx.MA) (i:Nat) (hi:i<ms.length):cnt ms (i+1)=cnt ms i+ms[i].rows.length:=by
 unfold cnt;rw [rowNames_take ms i hi];simp
theorem rowNames_split (ms:List Hx.MA) (i:Nat):rowNames ms=rowNames (ms.take i)++rowNames (ms.drop i):=by
 unfold rowNames;rw [<- List.flatMap_append,List.take_append_drop]
theorem cnt_le (ms:List Hx.MA) (i:Nat):cnt ms i<=(rowNames ms).length:=by
 unfold cnt;rw [rowNames_split ms i,List.length_append];omega
theorem names_at (ms:List Hx.MA) (i r:Nat) (hi:i<ms.length) (hr:r<ms[i].rows.length):(rowNames ms)[cnt ms i+r]? = some ms[i].name.s:=by
 rw [rowNames_split ms (i+1),rowNames_take ms i hi];have h1:cnt ms i+r<(rowNames (ms.take i)++ms[i].rows.map fun _=>ms[i].name.s).length:=by simp [cnt];exact hr
 rw [List.getElem?_append_left h1];unfold cnt;rw [List.getElem?_append_right (by omega)];simp [hr]
theorem bitV_u32:∀ k,0<=bitV k/\bitV k<4294967296
 | 0=>by decide
 | k+1=>by simp only [bitV];omega
end Cx
def MapIs (D:DataW Unit) (f:ByteArray->Int):Prop:=IsMap D/\∀ s:ByteArray,D.atKey (.string s.data.toList) (.lit (.int .u32 0))=.lit (.int .u32 (f s))
theorem bytes_eq {a b:ByteArray} (h:a.data.toList=b.data.toList):a=b:=by
 obtain ⟨⟨a⟩⟩:=a;obtain ⟨⟨b⟩⟩:=b;simp at h;rw [h]
theorem MapIs.put {D:DataW Unit} {ns:List ByteArray} {k:Nat} {n:ByteArray} (h:MapIs D (Cx.setTo ns k)) (hn:ns[k]? = some n) (x:Int) (hx:x=bits .or .u32 (Cx.setTo ns k n) (Cx.bitV k)):MapIs (D.put (.string n.data.toList) (.lit (.int .u32 x))) (Cx.setTo ns (k+1)):=by
 refine ⟨h.1.put _ _,fun s=>?_⟩;simp only [Cx.setTo]
 by_cases hs:s=n
 ·subst hs
  rw [atKey_put_same h.1 (by trivial),if_pos hn,hx]
 ·rw [atKey_put_other (by intro e;apply hs;exact bytes_eq (by simpa using e)),if_neg (by rw [hn];simpa using fun e=>hs e.symm)]
  exact h.2 s
theorem wf_u32 {x:Int} (h:0<=x/\x<4294967296):(Lit.int .u32 x).wf=true:=by
 have h1:IntKind.u32.min=0:=by decide
 have h2:IntKind.u32.max=4294967295:=by decide
 simp only [Lit.wf,h1,h2];simp;omega
theorem rowsOf_any (w:World) (base tb:Nat) (vt vv vm:Value) (vs:List VarA) (gs:List MG) (F:Nat->Prop) (hT:PT w base tb vt vs gs F vv vm) (hgl:gs.length<=3001) (hrl:(Cx.rowNames (gs.map (·.a))).length<=100000) (hnm:∀ m∈gs,m.a.name.s.size<=1000) :
  Calls Tryz.prog 111 #[.pointer (some ⟨tb,0,none⟩)] w fun e w'=>∃ D,e=.returned (.map (some w.heap.size))/\w'.ownsMap Tryz.prog 9 (plainElem Tryz.prog 214) w.heap.size 100000 D/\MapIs D (Cx.setOf (gs.map (·.a)))/\Below w.heap.size w w':=by
 obtain ⟨_,_,x2,_,_,htl,_⟩:=hT.cells;obtain ⟨am,cm,hvm,_,_⟩:=row_shape (hT.mem.own 2 _ rfl);simp only at hvm;subst hvm;have HT:=hide hT;have HNM:=hide hnm;clear hT hnm;have hmm:=@run_makeMap Tryz.prog;generalize hms:gs.map (·.a)=ms at *;have HMS:=hide hms;have hml:ms.length=gs.length:=by rw [<- hms];simp
 clear hms;go_enter Tryz.func111,Tryz.ntmps111;go_wp2_with fail;clear x2 hmm
 go_loopg [4,13] (gs.length) (fun k v4 v13 wr=>∃ (i:Nat) (D:DataW Unit),i+k=gs.length/\v13=.int .i64 i/\v4=.int .u32 (Cx.bitV (Cx.cnt ms i))/\Below w.heap.size w wr/\wr.ownsMap Tryz.prog 9 (plainElem Tryz.prog 214) w.heap.size (Cx.cnt ms i) D/\MapIs D (Cx.setTo (Cx.rowNames ms) (Cx.cnt ms i)))
 case atStart=>exact ⟨0,.map [],by omega,rfl,rfl,below_a _ _,World.ownsMap_made _ _ _ _,isMap_empty,fun s=>rfl⟩
 case round =>
  obtain ⟨i,D,hi,rfl,rfl,hb,ho,hD⟩:=hrel;have HB:=hide hb;have HO:=hide ho;have HD:=hide hD;have hsz:=hb.size;have hcl:=Cx.cnt_le ms i;clear ho hD;obtain ⟨wo,rfl⟩ : ∃ wo,wo=wr:=⟨wr,rfl⟩
  by_cases hlt:i<gs.length
  ·have hli:(i:Int)<gs.length:=by omega
   have hi0:(0:Int)<=i:=by omega
   have HTr:=hide (HT.out.below hb);obtain ⟨gm,capm,_,e,hgl',hcc⟩:=HTr.out.msl.resolve_left (fun h=>by omega)
   cases e
   have c0:=(hcc i hlt).1;obtain ⟨aw,cw,hvw,_,_⟩:=row_shape (HTr.out.mem.own _ _ (pt_at1 hlt));have c7:wo.cell? ⟨gs[i].blk,7,none⟩=some (.slice aw gs[i].a.rows.length cw):=((HTr.out.modeCells hlt).1 7 (by omega)).trans (by have e:gs[i].vr=.slice aw gs[i].a.rows.length cw:=hvw;show some gs[i].vr=_;rw [e]);have c1:wo.cell? ⟨gs[i].blk,1,none⟩=some (.string gs[i].a.name.s):=((HTr.out.modeCells hlt).1 1 (by omega)).trans rfl;have hmi:i<ms.length:=by omega
   have hme:ms[i]=gs[i].a:=by simp [<- HMS.out]
   have HN:=hide (fun r hr=>Cx.names_at ms i r hmi hr);have HC:=hide (Cx.cnt_succ ms i hmi);rw [hme] at HN HC;have hns:=HNM.out gs[i] (List.getElem_mem hlt);have hcl2:=Cx.cnt_le ms (i+1);have c1w:w.cell? ⟨gs[i].blk,1,none⟩=some (.string gs[i].a.name.s):=((HT.out.modeCells hlt).1 1 (by omega)).trans rfl;have hbl:gs[i].blk<w.heap.size:=(HT.out.modeCells hlt).2.2.2.1;clear hcc hvw hb;generalize gs[i]=m at *;obtain ⟨nm,hnm⟩ : ∃ nm,nm=m.a.name.s:=⟨_,rfl⟩;rw [<- hnm] at c1 c1w hns HN;obtain ⟨q,hq⟩ : ∃ q,q=m.a.rows.length:=⟨_,rfl⟩;rw [<- hq] at c7 HN HC;obtain ⟨c,hc⟩ : ∃ c,c=Cx.cnt ms i:=⟨_,rfl⟩;rw [<- hc] at HO HD HN HC hcl |-;have hq2:c+q<=100000:=by have:=HC.out;omega
   clear hnm hq;go_wp2_with fail;clear c0 c1 c7
   go_loopg [4,22] q (fun k v4 v22 wr=>∃ (r:Nat) (D:DataW Unit),r+k=q/\v22=.int .i64 r/\v4=.int .u32 (Cx.bitV (c+r))/\Below w.heap.size w wr/\wr.ownsMap Tryz.prog 9 (plainElem Tryz.prog 214) w.heap.size (c+r) D/\MapIs D (Cx.setTo (Cx.rowNames ms) (c+r)))
   case atStart=>exact ⟨0,D,by omega,rfl,rfl,HB.out,HO.out,HD.out⟩
   case round =>
    obtain ⟨r,D',hr,rfl,rfl,hbi,hoi,hDi⟩:=hrel;have HBI:=hide hbi;have HOI:=hide hoi;have HDI:=hide hDi;have hsi:=hbi.size;have y1:=(hbi.cell (p:=⟨m.blk,1,none⟩) hbl).trans c1w;clear hbi hoi hDi
    by_cases hltr:r<q
    ·have hlr:(r:Int)<q:=by omega
     have hr0:(0:Int)<=r:=by omega
     have hkey:=Go.WideMaps.keyOf_string_mk (P:=Tryz.prog) Tryz.underlying9 (s:=nm) (by unfold maxLen;omega);have HNR:=hide (HN.out r hltr);have hbv:=Cx.bitV_u32 (c+r);have HBV:Hid (Cx.bitV (c+r+1)=Cx.bitV (c+r)*2 % 4294967296):=hide rfl;generalize hbe:Cx.bitV (c+r)=bv at *;go_wp2_with (first | (at_lookup;refine wpList_lookup_own_int _ rfl _ _ 209 rfl 9 214 .u32 Tryz.keyStr Tryz.underlying209 Tryz.underlying214 (Tryz.zeroRowSet _) w.heap.size (c+r) _ rfl HOI.out _ _ rfl hkey ?_;intro cv hat hwc) | (at_mapUpdate;refine wpList_mapUpdate_own _ rfl _ _ _ 209 rfl 9 214 Tryz.keyStr Tryz.underlying209 _ w.heap.size (c+r) _ rfl HOI.out (by unfold maxLen;omega) _ _ _ rfl rfl hkey _ [] (plainElem_int Tryz.underlying214 (wf_u32 (bits_u32 .or cv bv))) ?_;intro w1 hown1 hgrow1));have hcv:cv=Cx.setTo (Cx.rowNames ms) (c+r) nm:=by
      have:=(HDI.out.2 nm).symm.trans hat;simpa using this.symm
     have HD9:=hide (HDI.out.put HNR.out (bits .or .u32 cv bv) (by rw [hcv,hbe]));have HO9:=hide hown1;have HB9:Hid (Below w.heap.size w w1):=hide (below_grown HBI.out hgrow1 (Nat.le_refl _))
     go_roundg (q-(r+1))
     case measure=>omega
     case rel=>exact ⟨r+1,_,by omega,by go_num,by rw [<- Nat.add_assoc,HBV.out],HB9.out,HO9.out,HD9.out⟩
    ·obtain rfl:r=q:=by omega
     have hce:c+r=Cx.cnt ms (i+1):=HC.out.symm;rw [hce] at HOI HDI;rw [hce];go_wp2_with fail
     go_roundg (gs.length-(i+1))
     case measure=>omega
     case rel=>exact ⟨i+1,D',by omega,by go_num,rfl,HBI.out,HOI.out,HDI.out⟩
  ·obtain rfl:i=gs.length:=by omega
   have HE:Hid (Cx.cnt ms gs.length=(Cx.rowNames ms).length):=hide (by unfold Cx.cnt;rw [<- hml,List.take_length]);go_wp2_with fail;go_ret;refine ⟨D,rfl,HO.out.mono (by omega),?_,HB.out⟩;have:=HD.out;rw [HE.out] at this;exact this
end
end Go.Proofs.YtdjaiolfdbamcaaGreatDoor
