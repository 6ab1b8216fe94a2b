/- The walk of Encode. -/
import Derived.Test.YtdjaiolfdbamcaaGreatDoorZWCE5
import Derived.Lib.AppendStr
import Derived.Lib.SlBytesConst
import Derived.ArgAppend
import Derived.Deep.RegionLaw
set_option maxRecDepth 20000
set_option maxHeartbeats 4000000
namespace Go.Proofs.YtdjaiolfdbamcaaGreatDoor
section
open Go.RowKit
attribute [local go_sem ↓] Go.wp_at_zero Go.wp_at_succ
theorem row_ne_box {w:World} {base e size n b T:Nat} {v:Value} {xs:List Value} {c:Array Value} (h:w.ownsRow base e size v n xs) (hb:w.heap[b]? = some (.cells c T (0,0))) (hT:T≠e):∀ k,v.ownBlock=some k->k≠b:=by
 intro k hk;rcases h.2 with ⟨rfl,_⟩ | ⟨g,cap,cur,rfl,_,hg,_⟩
 ·cases hk
 ·simp [Value.ownBlock] at hk
  subst hk;rintro rfl;rw [hb] at hg;simp only [Option.some.injEq,Obj.cells.injEq] at hg;exact hT hg.2.1
theorem str_cells (s:ByteArray):Lib.strCells s=s.data.toList.map Cx.bV:=by
 simp [Lib.strCells,Cx.bV]
namespace Cx
def varCode (p:Int×Int):List UInt8:=two p.1++two p.2
def lfCode (p:ByteArray×List UInt8):List UInt8:=UInt8.ofNat p.1.size::(p.1.data.toList++two p.2.length++p.2)
def headCode (vars:List (Int×Int)):List UInt8:=[72,69,76,77,49,UInt8.ofNat vars.length]
def encBody (vars:List (Int×Int)) (lfs:List (ByteArray×List UInt8)) (first:Nat):List UInt8 :=
 headCode vars++vars.flatMap varCode++[UInt8.ofNat lfs.length,UInt8.ofNat first]++lfs.flatMap lfCode
end Cx
structure ImIs (w:World) (c:Nat) (av al:Option Addr) (vars:List (Int×Int)) (lfs:List (ByteArray×List UInt8)):Prop where
 vars:∀ i (hi:i<vars.length),∃ g,av=some ⟨g,0,none⟩/\g<c/\w.cell? ⟨g,i*2,none⟩=some (.int .i64 vars[i].1)/\w.cell? ⟨g,i*2+1,none⟩=some (.int .i64 vars[i].2)
 lfs:∀ i (hi:i<lfs.length),∃ g gp cp,al=some ⟨g,0,none⟩/\g<c/\w.cell? ⟨g,i*2,none⟩=some (.string lfs[i].1)/\w.cell? ⟨g,i*2+1,none⟩=some (.slice (some ⟨gp,0,none⟩) lfs[i].2.length cp)/\gp<c/\∀ k (hk:k<lfs[i].2.length),w.cell? ⟨gp,k,none⟩=some (Cx.bV lfs[i].2[k])
 le:c<=w.heap.size
theorem Encode_any (w:World) (av al:Option Addr) (cv cl first:Nat) (vars:List (Int×Int)) (lfs:List (ByteArray×List UInt8)) (h:ImIs w w.heap.size av al vars lfs) (hv:vars.length<=100) (hl:lfs.length<=100) (hf:first<=200) (hn:∀ p∈lfs,p.1.size<=100/\p.2.length<=80000) (hb':(Cx.encBody vars lfs first).length<=80000) :
  Calls Tryz.prog 82 #[.agg #[.slice av vars.length cv,.slice al lfs.length cl,.int .i64 first]] w fun e w'=>e=.returned (.string ⟨(Cx.encBody vars lfs first++Cx.sumCode (Cx.encBody vars lfs first)).toArray⟩)/\Below w.heap.size w w':=by
 obtain ⟨i0,hi0,hz0,hz1,hz2⟩:=info_parts Tryz.infoByte;have HI:=hide h;have HX:=hide (heap_alloc_new w (.cells #[.slice av vars.length cv,.slice al lfs.length cl,.int .i64 first] 106));have HBX:Hid (Below w.heap.size w (w.alloc (.cells #[.slice av vars.length cv,.slice al lfs.length cl,.int .i64 first] 106))):=hide (below_a _ _);have hz:(w.alloc (.cells #[.slice av vars.length cv,.slice al lfs.length cl,.int .i64 first] 106)).heap.size=w.heap.size+1:=by simp
 obtain ⟨X,hX⟩ : ∃ X,X=w.alloc (.cells #[.slice av vars.length cv,.slice al lfs.length cl,.int .i64 first] 106):=⟨_,rfl⟩;rw [<- hX] at HX HBX hz;have x0:X.cell? ⟨w.heap.size,0,none⟩=some (.slice av vars.length cv):=Lib.cell_of_heap HX.out 0;have hcv:(convert 64 64 (.slice (some ⟨w.heap.size+1,0,none⟩) 5 5)).run Tryz.prog (X.alloc (.cells #[.int .u8 72,.int .u8 69,.int .u8 76,.int .u8 77,.int .u8 49] 5))=.ok (.slice (some ⟨w.heap.size+1,0,none⟩) 5 5) (X.alloc (.cells #[.int .u8 72,.int .u8 69,.int .u8 76,.int .u8 77,.int .u8 49] 5 (5,6))):=by
  have:=Lib.run_convert_bytes_const (P:=Tryz.prog) X 64 5 #[.int .u8 72,.int .u8 69,.int .u8 76,.int .u8 77,.int .u8 49] 5 5 Tryz.underlying64 Tryz.underlying5;rw [hz] at this;exact this
 obtain ⟨X5,hX5⟩ : ∃ X5,X5=X.alloc (.cells #[.int .u8 72,.int .u8 69,.int .u8 76,.int .u8 77,.int .u8 49] 5 (5,6)):=⟨_,rfl⟩;rw [<- hX5] at hcv;have hz5:X5.heap.size=w.heap.size+2:=by rw [hX5];simp [hz]
 have HB5:Hid (Below X.heap.size X X5):=hide (by rw [hX5];exact below_a _ _)
 have H5:Hid (∀ j u,([.int .u8 72,.int .u8 69,.int .u8 76,.int .u8 77,.int .u8 49] : List Value)[j]? = some u->X5.cell? ((⟨w.heap.size+1,0,none⟩ : Addr).add j)=some u):=hide (fun j u hu=>by
  have e:((⟨w.heap.size+1,0,none⟩ : Addr).add j)=⟨X.heap.size,j,none⟩:=by simp [Addr.add,hz];omega
  have hh:X5.heap[X.heap.size]? = some (.cells #[.int .u8 72,.int .u8 69,.int .u8 76,.int .u8 77,.int .u8 49] 5 (5,6)):=by rw [hX5];exact heap_alloc_new X _
  rw [e];simp only [World.cell?,hh]
  simpa using hu)
 have x5:X5.cell? ⟨w.heap.size,0,none⟩=some (.slice av vars.length cv):=(HB5.out.cell (p:=⟨w.heap.size,0,none⟩) (show w.heap.size<X.heap.size by omega)).trans x0;clear hX5;generalize hbody:Cx.encBody vars lfs first=bd at *;have HBD:=hide hbody;clear h hbody;go_enter Tryz.func82,Tryz.ntmps82;go_upto_region 1 with (fail);rw [<- hX];clear hX;go_wp2_with (at_builtin;refine wpList_append_grows _ rfl _ _ 64 rfl 5 i0 _ 1 1 Tryz.underlying64 hi0 hz0 hz1 hz2 rfl (by decide) (some ⟨w.heap.size+1,0,none⟩) 5 5 [.int .u8 72,.int .u8 69,.int .u8 76,.int .u8 77,.int .u8 49] rfl ?d1 rfl ?d2 ⟨w.heap.size+2,0,none⟩ 1 1 [.int .u8 (vars.length:Int)] rfl rfl (news_new _ _ ?c1 [_] _) (ones1 rfl) ?c3 ?c4 ?c5 ?_)
 case d1=>intro e;cases e
 case d2 => 
  intro b hb j u hu
  cases hb
  have hj:j<5:=(List.getElem?_eq_some_iff.1 hu).1;have e:((⟨w.heap.size+1,0,none⟩ : Addr).add j)=⟨w.heap.size+1,j,none⟩:=by simp [Addr.add];omega
  have:=H5.out j u hu;rw [e] at this |-;exact ((below_a X5 _).cell (p:=⟨w.heap.size+1,j,none⟩) (show w.heap.size+1<X5.heap.size by omega)).trans this
 case c1=>omega
 case c3=>omega
 case c4=>unfold maxLen;omega
 case c5=>omega
 intro v1 w1 hown hgrow;have hB1:Below w.heap.size w w1:=by
  have h1:=HBX.out.trans (HB5.out.mono (by omega));have h2:=h1.trans ((below_a X5 (.cells #[.int .u8 (vars.length:Int)] 5)).mono (by omega));exact h2.grown hgrow (by have:=h2.size;omega) (fun k e=>by cases e)
 have hIB:w1.heap[w.heap.size]? = some (.cells #[.slice av vars.length cv,.slice al lfs.length cl,.int .i64 first] 106 (0,0)):=by
  refine (hgrow.block w.heap.size (by simp;omega) (by simp)).trans (((below_a X5 _).block w.heap.size (by omega)).trans ((HB5.out.block w.heap.size (by omega)).trans HX.out))
 have hhd:(Cx.headCode vars).map Cx.bV=[.int .u8 72,.int .u8 69,.int .u8 76,.int .u8 77,.int .u8 49,.int .u8 (vars.length:Int)]:=by
  have e:Cx.bV (UInt8.ofNat vars.length)=.int .u8 (vars.length:Int):=by rw [Cx.bV_ofNat];congr 1;omega
  simp only [Cx.headCode,List.map_cons,List.map_nil,e];rfl
 have HO1:Hid (w1.ownsRow (w.heap.size+1) 5 1 v1 (Cx.headCode vars).length ((Cx.headCode vars).map Cx.bV)):=hide (by rw [hhd];exact own_mono hown (by simp));have HIB:=hide hIB;have HB1:=hide hB1;obtain ⟨a1,c1,rfl,_,_⟩:=row_shape HO1.out;clear hown hgrow hB1 hIB hhd hcv H5 x5 HB5 hz5 x0 HX HBX hz;have y0:w1.cell? ⟨w.heap.size,0,none⟩=some (.slice av vars.length cv):=Lib.cell_of_heap HIB.out 0;have hw1:w.heap.size<w1.heap.size:=(Array.getElem?_eq_some_iff.1 HIB.out).1;have hl1:(Cx.headCode vars).length=6:=rfl
 have HVL:Hid (∀ q,((vars.take q).flatMap Cx.varCode).length=4*(min q vars.length)):=hide (fun q=>by
  have:∀ l:List (Int×Int),(l.flatMap Cx.varCode).length=4*l.length:=fun l=>by
   induction l with
   | nil=>rfl
   | cons p r ih=>rw [List.flatMap_cons,List.length_append,ih];simp [Cx.varCode,Cx.two];omega
  rw [this];simp)
 go_wp2_with fail;clear y0
 go_loopg [3,19] (vars.length) (fun k v3 v19 wr=>∃ q:Nat,q+k=vars.length/\v19=.int .i64 q/\Below w.heap.size w wr/\wr.heap[w.heap.size]? = some (.cells #[.slice av vars.length cv,.slice al lfs.length cl,.int .i64 first] 106 (0,0))/\wr.ownsRow (w.heap.size+1) 5 1 v3 (Cx.headCode vars++(vars.take q).flatMap Cx.varCode).length ((Cx.headCode vars++(vars.take q).flatMap Cx.varCode).map Cx.bV))
 case atStart=>exact ⟨0,by omega,rfl,HB1.out,HIB.out,by simpa using HO1.out⟩
 case round =>
  obtain ⟨q,hq,rfl,hb,hib,ho⟩:=hrel;have HB:=hide hb;have HIb:=hide hib;have HO:=hide ho;have hsr:w.heap.size<wr.heap.size:=(Array.getElem?_eq_some_iff.1 hib).1
  by_cases hlt:q<vars.length
  ·have hqi:(q:Int)<vars.length:=by omega
   have hq0:(0:Int)<=q:=by omega
   obtain ⟨gv,rfl,hgv,k0,k1⟩:=HI.out.vars q hlt;have z0:=(hb.cell (p:=⟨gv,q*2,none⟩) hgv).trans k0;have z1:=(hb.cell (p:=⟨gv,q*2+1,none⟩) hgv).trans k1;have hft:=flat_take Cx.varCode vars q hlt;have HFT:=hide hft;have hvl:=HVL.out q;have hall:(Cx.headCode vars++(vars.take q).flatMap Cx.varCode).length<=1000:=by rw [List.length_append,hvl,hl1];omega
   have HBX2:=hide (heap_alloc_new wr (.cells #[.int .i64 vars[q].1,.int .i64 vars[q].2] 168));have HAT1:=hide (AppendTwo_any (wr.alloc (.cells #[.int .i64 vars[q].1,.int .i64 vars[q].2] 168)) (w.heap.size+1) _ u3 _ vars[q].1 (own_below ho (below_a _ _)) (by simp;omega) (by omega));have hvb:∀ k,u3.ownBlock=some k->k<wr.heap.size:=fun k hk=>(ho.lt k hk).2
   generalize hA:Cx.headCode vars++(vars.take q).flatMap Cx.varCode=acc at *;have HA:=hide hA;generalize vars[q]=p at *;clear k0 k1 hft hb hib ho hA hvl;go_wp2_with fail;refine HAT1.out.mono ?_;rintro e w2 ⟨v2,rfl,hG2⟩;obtain ⟨hc2,hv2,hb2⟩:=gx_box (b:=wr.heap.size) hG2 (by simp) (fun k hk=>by have:=hvb k hk;omega);have e1:w2.cell? ⟨wr.heap.size,1,none⟩=some (.int .i64 p.2):=(hc2 1).trans (Lib.cell_of_heap HBX2.out 1);have hs2:=hG2.kept.size;have HG2:=hide (hG2.after (below_a wr _));clear hG2 hc2 HAT1 z0 z1;go_wp2_with fail;refine (AppendTwo_any w2 (w.heap.size+1) _ v2 _ p.2 HG2.out.own (by have:=HG2.out.kept.size;omega) (by omega)).mono ?_;rintro e w3 ⟨v3,rfl,hG3⟩;have HG3:=hide (HG2.out.trans hG3);have HB3:Hid (Below w.heap.size w w3):=hide (HB.out.trans (HG3.out.kept.toBelow (fun k e=>by have:=(HO.out.lt k e).1;omega) (by omega)));have HI3:=hide ((HG3.out.kept.block w.heap.size hsr (fun e=>by have:=(HO.out.lt _ e).1;omega)).trans HIb.out)
   have HO3:Hid (w3.ownsRow (w.heap.size+1) 5 1 v3 (Cx.headCode vars++(vars.take (q+1)).flatMap Cx.varCode).length ((Cx.headCode vars++(vars.take (q+1)).flatMap Cx.varCode).map Cx.bV)):=hide (by
    rw [HFT.out,<- List.append_assoc,HA.out];have e:(acc++Cx.varCode p).length=acc.length+2+2:=by simp [Cx.varCode,Cx.two]
    have e2:(acc++Cx.varCode p).map Cx.bV=acc.map Cx.bV++(Cx.two p.1).map Cx.bV++(Cx.two p.2).map Cx.bV:=by simp [Cx.varCode]
    rw [e,e2];exact HG3.out.own)
   clear hG3 e1 hv2 hb2;go_wp2_with fail
   go_roundg (vars.length-(q+1))
   case measure=>omega
   case rel=>exact ⟨q+1,by omega,by go_num,HB3.out,HI3.out,HO3.out⟩
  ·obtain rfl:q=vars.length:=by omega
   rw [List.take_length] at HO;have hvl:=HVL.out vars.length;rw [List.take_length] at hvl;have hall:(Cx.headCode vars++vars.flatMap Cx.varCode).length<=1000:=by rw [List.length_append,hvl,hl1];omega
   have y1:wr.cell? ⟨w.heap.size,1,none⟩=some (.slice al lfs.length cl):=Lib.cell_of_heap HIb.out 1;have y2:wr.cell? ⟨w.heap.size,2,none⟩=some (.int .i64 first):=Lib.cell_of_heap HIb.out 2;obtain ⟨a3,c3,rfl,_,_⟩:=row_shape HO.out;clear hb hib ho hvl;generalize hA:Cx.headCode vars++vars.flatMap Cx.varCode=acc at *;have HA:=hide hA;clear hA HVL;go_wp2_with (at_builtin;refine wpList_append_own_at _ rfl _ _ 64 rfl (w.heap.size+1) 5 i0 _ 1 1 Tryz.underlying64 hi0 hz0 hz1 hz2 rfl (by decide) _ acc.length _ rfl (own_below HO.out (below_a _ _)) ⟨wr.heap.size,0,none⟩ 2 2 [.int .u8 (lfs.length:Int),.int .u8 (first:Int)] rfl rfl (news_new _ _ rfl [_,_] _) (ones2 rfl rfl) ?c3 ?c4 ?c5 ?_)
   case c3=>unfold maxLen;omega
   case c4=>omega
   case c5=>simp;omega
   intro v4 w4 hown hgrow _ hat;have HG4:=hide (gr_made hown hgrow (by simpa using hat));have HB4:Hid (Below w.heap.size w w4):=hide (HB.out.trans (HG4.out.kept.toBelow (fun k e=>by have:=(HO.out.lt k e).1;omega) (by omega)));have HI4:=hide ((HG4.out.kept.block w.heap.size hsr (fun e=>by have:=(HO.out.lt _ e).1;omega)).trans HIb.out)
   have HO4:Hid (w4.ownsRow (w.heap.size+1) 5 1 v4 (acc++[UInt8.ofNat lfs.length,UInt8.ofNat first]).length ((acc++[UInt8.ofNat lfs.length,UInt8.ofNat first]).map Cx.bV)):=hide (by
    have e:Cx.bV (UInt8.ofNat lfs.length)=.int .u8 (lfs.length:Int):=by rw [Cx.bV_ofNat];congr 1;omega
    have e2:Cx.bV (UInt8.ofNat first)=.int .u8 (first:Int):=by rw [Cx.bV_ofNat];congr 1;omega
    rw [List.map_append,List.length_append,List.map_cons,List.map_cons,List.map_nil,e,e2];exact HG4.out.own)
   have hl2:(acc++[UInt8.ofNat lfs.length,UInt8.ofNat first]).length<=1002:=by simp;omega
   clear hown hgrow hat HG4 HO HIb HB y1 y2 hall;have y1:w4.cell? ⟨w.heap.size,1,none⟩=some (.slice al lfs.length cl):=Lib.cell_of_heap HI4.out 1;generalize hA2:acc++[UInt8.ofNat lfs.length,UInt8.ofNat first]=ac2 at *;have HBE:Hid (bd=ac2++lfs.flatMap Cx.lfCode):=hide (by rw [<- HBD.out,<- hA2,<- HA.out];rfl);have hac:0<ac2.length:=by rw [<- hA2];simp
   clear hA2 HA HBD;obtain ⟨a4,c4,rfl,_,_⟩:=row_shape HO4.out;have hbd:(ac2++lfs.flatMap Cx.lfCode).length<=80000:=by rw [<- HBE.out];exact hb'
   have HLE:Hid (∀ q,(ac2++(lfs.take q).flatMap Cx.lfCode).length<=80000):=hide (fun q=>by have:=flat_le Cx.lfCode lfs q;rw [List.length_append] at hbd |-;omega);clear hbd;go_wp2_with fail;clear y1
   go_loopg [3,45] (lfs.length) (fun k v3 v45 wr=>∃ q:Nat,q+k=lfs.length/\v45=.int .i64 q/\Below w.heap.size w wr/\w.heap.size<wr.heap.size/\wr.ownsRow (w.heap.size+1) 5 1 v3 (ac2++(lfs.take q).flatMap Cx.lfCode).length ((ac2++(lfs.take q).flatMap Cx.lfCode).map Cx.bV))
   case atStart=>exact ⟨0,by omega,rfl,HB4.out,(Array.getElem?_eq_some_iff.1 HI4.out).1,by simpa using HO4.out⟩
   case round =>
    obtain ⟨q,hq,rfl,hb,hsr2,ho⟩:=hrel;have HB:=hide hb;have HO:=hide ho
    by_cases hlt:q<lfs.length
    ·have hqi:(q:Int)<lfs.length:=by omega
     have hq0:(0:Int)<=q:=by omega
     obtain ⟨gl,gp,cp,rfl,hgl,k0,k1,hgp,k2⟩:=HI.out.lfs q hlt;have z0:=(hb.cell (p:=⟨gl,q*2,none⟩) hgl).trans k0;have z1:=(hb.cell (p:=⟨gl,q*2+1,none⟩) hgl).trans k1;obtain ⟨hnm,hpr⟩:=hn lfs[q] (List.getElem_mem hlt);have hft:=flat_take Cx.lfCode lfs q hlt;have HFT:=hide hft;have HK2:=hide k2;have hmx:=HLE.out (q+1);rw [hft,<- List.append_assoc,List.length_append] at hmx;generalize hacc:ac2++(lfs.take q).flatMap Cx.lfCode=acc2 at *;have HACC:=hide hacc;clear hacc;generalize lfs[q]=p at *;obtain ⟨nm,pr⟩:=p;have hlc:(Cx.lfCode (nm,pr)).length=1+nm.size+2+pr.length:=by simp [Cx.lfCode,Cx.two];omega
     rw [hlc] at hmx;simp only at hnm hpr z0 z1;have HBX3:=hide (heap_alloc_new wr (.cells #[.string nm,.slice (some ⟨gp,0,none⟩) pr.length cp] 102));obtain ⟨a3,c3,rfl,_,_⟩:=row_shape ho;clear k0 k1 k2 hft hb ho hlc;go_wp2_with (at_builtin;refine wpList_append_own_at _ rfl _ _ 64 rfl (w.heap.size+1) 5 i0 _ 1 1 Tryz.underlying64 hi0 hz0 hz1 hz2 rfl (by decide) _ acc2.length _ rfl (own_below (own_below HO.out (below_a _ _)) (below_a _ _)) ⟨wr.heap.size+1,0,none⟩ 1 1 [.int .u8 (nm.size:Int)] rfl rfl (news_new _ _ ?c1 [_] _) (ones1 rfl) ?c3 ?c4 ?c5 ?_)
     case c3=>unfold maxLen;omega
     case c4=>omega
     case c5=>omega
     intro v5 w5 hown hgrow _ hat;have hG5:Gr (w.heap.size+1) (wr.alloc (.cells #[.string nm,.slice (some ⟨gp,0,none⟩) pr.length cp] 102)) w5 5 1 (.slice a3 acc2.length c3) v5 (acc2.length+1) (acc2.map Cx.bV++[.int .u8 (nm.size:Int)]):=gr_made hown hgrow (by simpa using hat);have hbx5:=(hG5.kept.block wr.heap.size (by simp) (fun e=>by have:=(HO.out.lt _ e).2;omega)).trans HBX3.out;have HG5:=hide (hG5.after (below_a wr _));have HBX5:=hide hbx5;have hs5:wr.heap.size<w5.heap.size:=(Array.getElem?_eq_some_iff.1 hbx5).1;have f0:w5.cell? ⟨wr.heap.size,0,none⟩=some (.string nm):=Lib.cell_of_heap hbx5 0;obtain ⟨a5,c5,rfl,_,_⟩:=row_shape hG5.own;clear hown hgrow hat hG5 hbx5 HBX3 z0 z1;go_wp2_with (at_builtin;refine Lib.wpList_append_own_string _ rfl _ _ 64 9 rfl (w.heap.size+1) 5 i0 Tryz.underlying64 Tryz.underlying9 hi0 hz0 hz1 hz2 _ (acc2.length+1) _ rfl HG5.out.own nm rfl ?c3 ?c4 ?c5 ?_)
     case c3=>unfold maxLen;omega
     case c4=>omega
     case c5=>omega
     intro v6 w6 hown hgrow _;have hne5:=row_ne_box HG5.out.own HBX5.out (by decide);have hbx6:=(hgrow.block wr.heap.size hs5 (fun e=>hne5 _ e.symm rfl)).trans HBX5.out
     have HK6:Hid (Kp (fun k=>(Value.slice a3 acc2.length c3).ownBlock=some k\/wr.heap.size<=k) wr w6):=hide ((HG5.out.kept.mono (fun _ _ e=>.inl e)).grown hgrow (fun k e=>.inl (by
      rcases HG5.out.spot with h1 | ⟨c,h1,h2⟩
      ·exact .inl (h1 ▸ e)
      ·rw [h1] at e;cases e;exact .inr h2)))
     have HO6:Hid (w6.ownsRow (w.heap.size+1) 5 1 v6 (acc2.length+1+nm.size) (acc2.map Cx.bV++[.int .u8 (nm.size:Int)]++nm.data.toList.map Cx.bV)):=hide (by rw [<- str_cells];simpa [List.append_assoc] using hown);have HBX6:=hide hbx6;have hs6:wr.heap.size<w6.heap.size:=(Array.getElem?_eq_some_iff.1 hbx6).1;have f1:w6.cell? ⟨wr.heap.size,1,none⟩=some (.slice (some ⟨gp,0,none⟩) pr.length cp):=Lib.cell_of_heap hbx6 1;clear hown hgrow hne5 hbx6 f0 HG5 HBX5;go_wp2_with fail;refine (AppendTwo_any w6 (w.heap.size+1) _ v6 _ pr.length HO6.out (by omega) (by omega)).mono ?_;rintro e w7 ⟨v7,rfl,hG7⟩;have hne6:=row_ne_box HO6.out HBX6.out (by decide);have hbx7:=(hG7.kept.block wr.heap.size hs6 (fun e=>hne6 _ e rfl)).trans HBX6.out;have f2:w7.cell? ⟨wr.heap.size,1,none⟩=some (.slice (some ⟨gp,0,none⟩) pr.length cp):=Lib.cell_of_heap hbx7 1;have hB6:Below w.heap.size w w6:=HB.out.trans (HK6.out.toBelow (fun k e=>by rcases e with e | e;have:=(HO.out.lt k e).1;omega;omega) (by omega));have hB7:Below w.heap.size w w7:=hB6.trans (hG7.kept.toBelow (fun k e=>by have:=(HO6.out.lt k e).1;omega) (by omega));have hs7:=hG7.kept.size;have HB7:=hide hB7
     have HPC:Hid (∀ j u,(pr.map Cx.bV)[j]? = some u->w7.cell? ((⟨gp,0,none⟩ : Addr).add j)=some u):=hide (fun j u hu=>by
      have e1:((⟨gp,0,none⟩ : Addr).add j)=⟨gp,j,none⟩:=by simp [Addr.add];omega
      have hj:j<pr.length:=by have:=(List.getElem?_eq_some_iff.1 hu).1;simpa using this
      rw [e1,hB7.cell (p:=⟨gp,j,none⟩) hgp,HK2.out j hj]
      simpa [hj] using hu)
     have HO7:=hide hG7.own;obtain ⟨a7,c7,rfl,_,_⟩:=row_shape hG7.own;clear hG7 hne6 hbx7 hB6 hB7 f1;go_wp2_with (at_builtin;refine wpList_append_own_at _ rfl _ _ 64 rfl (w.heap.size+1) 5 i0 _ 1 1 Tryz.underlying64 hi0 hz0 hz1 hz2 rfl (by decide) _ (acc2.length+1+nm.size+2) _ rfl HO7.out ⟨gp,0,none⟩ pr.length cp (pr.map Cx.bV) rfl ?c0 HPC.out (Cx.bV_ones pr) ?c3 ?c4 ?c5 ?_)
     case c0=>simp
     case c3=>unfold maxLen;omega
     case c4=>omega
     case c5=>omega
     intro v8 w8 hown hgrow _ hat;have hG8:=gr_grown hown hgrow hat;have HB8:Hid (Below w.heap.size w w8):=hide (HB7.out.trans (hG8.kept.toBelow (fun k e=>by have:=(HO7.out.lt k e).1;omega) (by omega)));have hs8:=hG8.kept.size
     have HO8:Hid (w8.ownsRow (w.heap.size+1) 5 1 v8 (acc2++Cx.lfCode (nm,pr)).length ((acc2++Cx.lfCode (nm,pr)).map Cx.bV)):=hide (by
      have e1:(acc2++Cx.lfCode (nm,pr)).length=acc2.length+1+nm.size+2+pr.length:=by simp [Cx.lfCode,Cx.two];omega
      have e0:Cx.bV (UInt8.ofNat nm.size)=.int .u8 (nm.size:Int):=by rw [Cx.bV_ofNat];congr 1;omega
      have e2:(acc2++Cx.lfCode (nm,pr)).map Cx.bV=acc2.map Cx.bV++[.int .u8 (nm.size:Int)]++nm.data.toList.map Cx.bV++(Cx.two pr.length).map Cx.bV++pr.map Cx.bV:=by
       simp only [Cx.lfCode,List.map_append,List.map_cons,e0,List.append_assoc,List.cons_append,List.nil_append]
      rw [e1,e2];simpa [List.append_assoc] using hG8.own)
     clear hown hgrow hat hG8 f2;go_wp2_with fail
     go_roundg (lfs.length-(q+1))
     case measure=>omega
     case rel=>exact ⟨q+1,by omega,by go_num,HB8.out,by omega,by rw [HFT.out,<- List.append_assoc,HACC.out];exact HO8.out⟩
    ·obtain rfl:q=lfs.length:=by omega
     rw [List.take_length,<- HBE.out] at HO;have hb0:0<bd.length:=by rw [HBE.out,List.length_append];omega
     obtain ⟨g3,c3,rfl,hg3,hgl3,_,_,hcc⟩:=row_open HO.out hb0;have HSU:=hide (sumBytes_any wr g3 c3 bd (fun k hk=>(hcc k (by omega)).trans (by simp [hk])) (by omega));have HO9:Hid ((wr.alloc (.cells ((Cx.sumCode bd).map Cx.bV).toArray 5)).ownsRow (w.heap.size+1) 5 1 (.slice (some ⟨g3,0,none⟩) bd.length c3) bd.length (bd.map Cx.bV)):=hide (own_below HO.out (below_a _ _));have hsl:(Cx.sumCode bd).length=4:=rfl;clear hb ho hcc HLE;go_wp2_with fail;refine HSU.out.mono ?_;rintro e w9 ⟨rfl,rfl⟩;generalize hsc:Cx.sumCode bd=sc at *;have HSC:=hide hsc;clear hsc HSU;go_wp2_with (at_builtin;refine wpList_append_own_at _ rfl _ _ 64 rfl (w.heap.size+1) 5 i0 _ 1 1 Tryz.underlying64 hi0 hz0 hz1 hz2 rfl (by decide) _ bd.length _ rfl HO9.out ⟨wr.heap.size,0,none⟩ 4 4 (sc.map Cx.bV) rfl ?c0 (news_new _ _ rfl (sc.map Cx.bV) _) (Cx.bV_ones sc) ?c3 ?c4 ?c5 ?_)
     case c0=>simp [hsl]
     case c3=>unfold maxLen;omega
     case c4=>omega
     case c5=>simp;omega
     intro vz wz hown hgrow _ hat;have hG9:=gr_grown hown hgrow (by simpa using hat);have HBz:Hid (Below w.heap.size w wz):=hide ((HB.out.trans ((below_a wr _).mono (by omega))).trans (hG9.kept.toBelow (fun k e=>by have:=(HO9.out.lt k e).1;omega) (by simp;omega)));obtain ⟨gz,cz,rfl,_,_,_,_,hcz⟩:=row_open hG9.own (by omega);have hcvz:(convert 64 9 (.slice (some ⟨gz,0,none⟩) (bd.length+4) cz)).run Tryz.prog wz=.ok (.string ⟨(bd++sc).toArray⟩) wz:=by
      have e1:(bd++sc).length=bd.length+4:=by rw [List.length_append,hsl]
      have:=run_convert_bytes_back (P:=Tryz.prog) wz 64 9 5 ⟨gz,0,none⟩ cz (bd++sc) Tryz.underlying64 Tryz.underlying5 Tryz.underlying9 (fun j hj=>by
       have e2:((⟨gz,0,none⟩ : Addr).add j)=⟨gz,j,none⟩:=by simp [Addr.add];omega
       rw [e2,hcz j (by omega),<- List.map_append,List.getElem?_map,List.getElem?_eq_getElem hj];rfl)
      rw [e1] at this;exact this
     clear hown hgrow hat hG9 hcz;go_wp2_with fail;go_ret;exact ⟨by rw [HSC.out];rfl,HBz.out⟩
end
section
open Go.RowKit
attribute [local go_sem ↓] Go.wp_at_zero Go.wp_at_succ
namespace Cx
def imVars (vs:List VarA):List (Int×Int):=vs.map fun v=>(v.first.n,v.last.n)
def imLeaf (vs:List VarA) (ms:List Hx.MA) (i:Nat):ByteArray×List UInt8:=(nameOf ms i,program vs ms i)
def imBody (vs:List VarA) (ms:List Hx.MA):List UInt8:=encBody (imVars vs) ((leaves ms).map (imLeaf vs ms)) (numberOf ms 0)
def imageOf (vs:List VarA) (ms:List Hx.MA):List UInt8:=imBody vs ms++sumCode (imBody vs ms)
end Cx
theorem Tryz.infoIVar:(Tryz.prog.info? 168).map (fun i=>(i.zero,i.size,i.bytes))=some (some (.agg #[.int .i64 0,.int .i64 0]),2,16):=by kernel_rfl
theorem Tryz.infoILeaf:(Tryz.prog.info? 102).map (fun i=>(i.zero,i.size,i.bytes))=some (some (.agg #[.string ⟨#[]⟩,.slice none 0 0]),2,40):=by kernel_rfl
def ivC (p:Int×Int):List Value:=[.int .i64 p.1,.int .i64 p.2]
def imC (v l:Value) (nr:Nat):Array Value:=#[v,l,.int .i64 nr]
theorem varC_twelve (va:VarA):varC va=[.int .i64 (kindA va.name.k),.string va.name.s,.int .i64 va.name.n,.int .i64 va.name.line,.int .i64 (kindA va.first.k),.string va.first.s,.int .i64 va.first.n,.int .i64 va.first.line,.int .i64 (kindA va.last.k),.string va.last.s,.int .i64 va.last.n,.int .i64 va.last.line]:=rfl
def PgIs (w:World) (pv:Value) (l:List UInt8):Prop:=∃ gp cap cur,pv=.slice (some ⟨gp,0,none⟩) l.length cap/\w.heap[gp]? = some (.cells cur 5 (0,0))/\cur.toList.take l.length=l.map Cx.bV
theorem pg_of {w:World} {base:Nat} {v:Value} {l:List UInt8} (h:w.ownsRow base 5 1 v l.length (l.map Cx.bV)) (h0:0<l.length):PgIs w v l:=by
 rcases h.2 with ⟨_,h1⟩ | ⟨g,cap,cur,rfl,_,hg,_,_,_,ht⟩
 ·omega
 ·exact ⟨g,cap,cur,rfl,hg,by simpa using ht⟩
theorem PgIs.kept {F:Nat->Prop} {w w':World} {pv:Value} {l:List UInt8} (h:PgIs w pv l) (hk:Kp F w w') (hF:∀ g cur,w.heap[g]? = some (.cells cur 5 (0,0))->¬ F g):PgIs w' pv l:=by
 obtain ⟨gp,cap,cur,e,hg,ht⟩:=h;exact ⟨gp,cap,cur,e,(hk.block gp (Array.getElem?_eq_some_iff.1 hg).1 (hF gp cur hg)).trans hg,ht⟩
theorem rows_apart {w:World} {b e s n b' e' s' n':Nat} {v v':Value} {xs xs':List Value} (h:w.ownsRow b e s v n xs) (h':w.ownsRow b' e' s' v' n' xs') (he:e≠e'):∀ k,v.ownBlock=some k->v'.ownBlock≠some k:=by
 intro k hk hk';rcases h.2 with ⟨rfl,_⟩ | ⟨g,cap,cur,rfl,_,hg,_⟩
 ·cases hk
 ·rcases h'.2 with ⟨rfl,_⟩ | ⟨g',cap',cur',rfl,_,hg',_⟩
  ·cases hk'
  ·simp [Value.ownBlock] at hk hk'
   subst hk;subst hk';rw [hg] at hg';simp only [Option.some.injEq,Obj.cells.injEq] at hg';exact he hg'.2.1
theorem row_not_entry {w:World} {b e s n T g:Nat} {v:Value} {xs:List Value} {cur:Array Value} (h:w.ownsRow b e s v n xs) (hg:w.heap[g]? = some (.cells cur T (0,0))) (he:T≠e):v.ownBlock≠some g:=fun e1=>row_ne_box h hg he g e1 rfl
def lfC (p:ByteArray×Value):List Value:=[.string p.1,p.2]
theorem Image_any (w:World) (base tb:Nat) (vt vv vm:Value) (vs:List VarA) (gs:List MG) (hT:PT w base tb vt vs gs (fun k=>k<w.heap.size) vv vm) (hok:TabOk vs gs) (hr:TabR vs gs) (hps:∀ i,i<gs.length->(Cx.program vs (gs.map (·.a)) i).length<=80000) (hnm:∀ i,i<gs.length->(Cx.nameOf (gs.map (·.a)) i).size<=100) (hbl:(Cx.imBody vs (gs.map (·.a))).length<=80000) :
  Calls Tryz.prog 47 #[.pointer (some ⟨tb,0,none⟩)] w fun e w'=>e=.returned (.string ⟨(Cx.imageOf vs (gs.map (·.a))).toArray⟩)/\Below w.heap.size w w':=by
 have hgl:gs.length<=3001:=by have:=hok.modes;omega
 have hm0:=enter_mem hok _ 0 rfl hok.some;have hln:0<(Cx.leaves (gs.map (·.a))).length:=List.length_pos_of_mem hm0;have HLV:=hide (Leaves_any w base tb vt vv vm vs gs _ hT hok.links hgl);have HT:=hide hT;clear hT;go_enter Tryz.func47,Tryz.ntmps47;go_wp2_with fail;refine HLV.out.mono ?_;rintro e w1 ⟨lv,rfl,ho1,hb1⟩;have hs1:=hb1.size;obtain ⟨gl,cl,hlv,hgb,hgl1,_,_,hcl⟩:=row_open ho1 hln;subst hlv;have HO1:=hide ho1;have HB1:=hide hb1;have HX:=hide (heap_alloc_new w1 (.cells #[.pointer (some ⟨tb,0,none⟩),.slice (some ⟨gl,0,none⟩) (Cx.leaves (gs.map (·.a))).length cl] 162));have hEm:EmC (w1.alloc (.cells #[.pointer (some ⟨tb,0,none⟩),.slice (some ⟨gl,0,none⟩) (Cx.leaves (gs.map (·.a))).length cl] 162)) (w1.heap.size+1) w1.heap.size tb base vt vv vm (.slice (some ⟨gl,0,none⟩) (Cx.leaves (gs.map (·.a))).length cl) vs gs:=by
  refine ⟨(((HT.out.below hb1).below (below_a _ _)).mono (fun k hk=>by omega)),HX.out,⟨gl,cl,rfl,by omega,fun i hi=>?_⟩,by omega,by simp⟩;refine ((below_a w1 _).cell (p:=⟨gl,i,none⟩) hgl1).trans ((hcl i (by omega)).trans ?_);simp [hi,ptrV]
 have HEM:=hide hEm;obtain ⟨_,_,xm,_,_,htl,_⟩:=hEm.pt.cells;obtain ⟨am,cm,hvm,_,_⟩:=row_shape (hEm.pt.mem.own 2 _ rfl);simp only at hvm;subst hvm;obtain ⟨gm,capm,_,e,hgm,hcm⟩:=hEm.pt.msl.resolve_left (fun h=>by have:=hok.some;omega)
 cases e
 have xg:=(hcm 0 hok.some).1
 have hNO:Hid (∀ Y,Below (w1.heap.size+1) (w1.alloc (.cells #[.pointer (some ⟨tb,0,none⟩),.slice (some ⟨gl,0,none⟩) (Cx.leaves (gs.map (·.a))).length cl] 162)) Y->Calls Tryz.prog 80 #[.pointer (some ⟨w1.heap.size,0,none⟩),.pointer (some ⟨(gs[0]'hok.some).blk,0,none⟩)] Y fun e w'=>e=.returned (.int .i64 (Cx.numberOf (gs.map (·.a)) 0))/\Below Y.heap.size Y w'):=hide (fun Y hY=>by
  have:=numberOf_any Y (w1.heap.size+1) w1.heap.size tb base vt vv _ _ vs gs (hEm.below (hY.mono (by simp))) hok 0 hok.some
  rw [bl_at hok.some] at this;exact this)
 clear hEm hcl ho1 hb1 hcm HLV;have hz:(w1.alloc (.cells #[.pointer (some ⟨tb,0,none⟩),.slice (some ⟨gl,0,none⟩) (Cx.leaves (gs.map (·.a))).length cl] 162)).heap.size=w1.heap.size+1:=by simp
 have hgm':=hgm hok.some;obtain ⟨X,hX⟩ : ∃ X,X=w1.alloc (.cells #[.pointer (some ⟨tb,0,none⟩),.slice (some ⟨gl,0,none⟩) (Cx.leaves (gs.map (·.a))).length cl] 162):=⟨_,rfl⟩;rw [<- hX] at HX HEM xm htl xg hNO hz hgm';generalize (gs[0]'hok.some).blk=m0 at *;generalize hnr:Cx.numberOf (gs.map (·.a)) 0=nr at *;go_upto_region 2 with (fail);rw [<- hX];have HBX:Hid (Below w.heap.size w X):=hide (by rw [hX];exact HB1.out.trans ((below_a _ _).mono hs1));clear hX;have hi0:(0:Int)<gs.length:=by have:=hok.some;omega
 go_wp2_with fail;refine (hNO.out X (Below.refl _ _)).mono ?_;rintro e w2 ⟨rfl,hb2⟩;have HEM2:=hide (HEM.out.below hb2);have HB2:Hid (Below w.heap.size w w2):=hide (HBX.out.trans (hb2.mono HBX.out.size));have hs2:w1.heap.size+1<=w2.heap.size:=by rw [<- hz];exact hb2.size
 clear hb2 hNO HEM HX xm xg;obtain ⟨av,cv,hvv,_,_⟩:=row_shape (HEM2.out.pt.mem.own 1 _ rfl);simp only at hvv;subst hvv;obtain ⟨_,xv,_,_,_,htl2,_⟩:=HEM2.out.pt.cells;have HIB:=hide (heap_alloc_new w2 (.cells #[.slice none 0 0,.slice none 0 0,.int .i64 nr] 106));have HY0:Hid (Below w2.heap.size w2 (w2.alloc (.cells #[.slice none 0 0,.slice none 0 0,.int .i64 nr] 106))):=hide (below_a _ _);go_wp2_with fail;obtain ⟨iv,hiv,hv0,hv1,hv2⟩:=info_parts Tryz.infoIVar;have hvs:=hok.vars
 go_loopg [26] (vs.length) (fun k v26 wr=>∃ (q:Nat) (V:Value),q+k=vs.length/\v26=.int .i64 q/\Below w2.heap.size w2 wr/\wr.heap[w2.heap.size]? = some (.cells (imC V (.slice none 0 0) nr) 106 (0,0))/\wr.ownsRow (w2.heap.size+1) 168 2 V q (((Cx.imVars vs).take q).flatMap ivC))
 case atStart=>exact ⟨0,.slice none 0 0,by omega,rfl,HY0.out,HIB.out,World.ownsRow_nil _ _ _ _⟩
 case round =>
  obtain ⟨q,V,hq,rfl,hb,hib,ho⟩:=hrel;have HB:=hide hb;have HIb:=hide hib;have HO:=hide ho;have hsr:w2.heap.size<wr.heap.size:=(Array.getElem?_eq_some_iff.1 hib).1;obtain ⟨aV,cV,rfl,_,_⟩:=row_shape ho
  by_cases hlt:q<vs.length
  ·have hqi:(q:Int)<vs.length:=by omega
   have hq0:(0:Int)<=q:=by omega
   obtain ⟨gv,capv,_,e,hgv,hcc⟩:=(HEM2.out.below hb).pt.vsl.resolve_left (fun h=>by omega)
   cases e
   have hc12:=hcc q hlt;have hft:=flat_take ivC (Cx.imVars vs) q (by simpa [Cx.imVars] using hlt);have hiq:(Cx.imVars vs)[q]'(by simpa [Cx.imVars] using hlt)=(vs[q].first.n,vs[q].last.n):=by simp [Cx.imVars]
   rw [hiq] at hft;have HFT:=hide hft;generalize vs[q]=va at *;rw [varC_twelve] at hc12;have z0:wr.cell? ⟨gv,q*12,none⟩=some (.int .i64 (kindA va.name.k)):=hc12 0 (by omega);have z1:wr.cell? ⟨gv,q*12+1,none⟩=some (.string va.name.s):=hc12 1 (by omega);have z2:wr.cell? ⟨gv,q*12+2,none⟩=some (.int .i64 va.name.n):=hc12 2 (by omega);have z3:wr.cell? ⟨gv,q*12+3,none⟩=some (.int .i64 va.name.line):=hc12 3 (by omega);have z4:wr.cell? ⟨gv,q*12+4,none⟩=some (.int .i64 (kindA va.first.k)):=hc12 4 (by omega);have z5:wr.cell? ⟨gv,q*12+5,none⟩=some (.string va.first.s):=hc12 5 (by omega);have z6:wr.cell? ⟨gv,q*12+6,none⟩=some (.int .i64 va.first.n):=hc12 6 (by omega);have z7:wr.cell? ⟨gv,q*12+7,none⟩=some (.int .i64 va.first.line):=hc12 7 (by omega);have z8:wr.cell? ⟨gv,q*12+8,none⟩=some (.int .i64 (kindA va.last.k)):=hc12 8 (by omega);have z9:wr.cell? ⟨gv,q*12+9,none⟩=some (.string va.last.s):=hc12 9 (by omega);have z10:wr.cell? ⟨gv,q*12+10,none⟩=some (.int .i64 va.last.n):=hc12 10 (by omega);have z11:wr.cell? ⟨gv,q*12+11,none⟩=some (.int .i64 va.last.line):=hc12 11 (by omega);have y0:wr.cell? ⟨w2.heap.size,0,none⟩=some (.slice aV q cV):=Lib.cell_of_heap hib 0;clear hc12 hcc hft hiq hb hib ho;go_wp2_with (at_builtin;refine wpList_append_own_at _ rfl _ _ 103 rfl (w2.heap.size+1) 168 iv _ 2 16 Tryz.underlying103 hiv hv0 hv1 hv2 rfl (by decide) _ q _ rfl (own_below (own_below HO.out (below_a _ _)) (below_a _ _)) ⟨wr.heap.size+1,0,none⟩ 1 1 [.int .i64 va.first.n,.int .i64 va.last.n] rfl rfl (news_new _ _ ?c1 [_,_] _) (ones2 rfl rfl) ?c3 ?c4 ?c5 ?_)
   case c1=>simp
   case c3=>unfold maxLen;omega
   case c4=>omega
   case c5=>simp;omega
   intro V3 w3 hown hgrow _ hat;have hgr3:=gr_made hown hgrow (by simpa using hat);have hG3:=hgr3.after (below_a wr _);have hib3:=(hG3.kept.block w2.heap.size hsr (fun e=>by have:=(HO.out.lt _ e).1;omega)).trans HIb.out;have hB3:Below w2.heap.size w2 w3:=HB.out.trans (hG3.kept.toBelow (fun k e=>by have:=(HO.out.lt k e).1;omega) (by omega));have y3:w3.cell? ⟨w2.heap.size,0,none⟩=some (.slice aV q cV):=Lib.cell_of_heap hib3 0;have yf:w3.frozen? ⟨w2.heap.size,0,none⟩=false:=Lib.frozen_of_heap hib3 0;obtain ⟨aW,cW,rfl,_,_⟩:=row_shape hG3.own;have HB4:Hid (Below w2.heap.size w2 (w3.setCell ⟨w2.heap.size,0,none⟩ (.slice aW (q+1) cW))):=hide ((Kp.ofBelow (F:=fun k=>w2.heap.size<=k) hB3).setCell (p:=⟨w2.heap.size,0,none⟩) (.inl (Nat.le_refl _)) _ |>.toBelow (fun _ h=>h) (Nat.le_refl _));have HI4:Hid ((w3.setCell ⟨w2.heap.size,0,none⟩ (.slice aW (q+1) cW)).heap[w2.heap.size]? = some (.cells (imC (.slice aW (q+1) cW) (.slice none 0 0) nr) 106 (0,0))):=hide (set_heap hib3)
   have HO4:Hid ((w3.setCell ⟨w2.heap.size,0,none⟩ (.slice aW (q+1) cW)).ownsRow (w2.heap.size+1) 168 2 (.slice aW (q+1) cW) (q+1) (((Cx.imVars vs).take (q+1)).flatMap ivC)):=hide (by
    rw [HFT.out]
    exact ((Kp.refl (fun k=>k=w2.heap.size) w3).setCell (p:=⟨w2.heap.size,0,none⟩) (.inl rfl) _).own hG3.own (fun k hk e=>by have:=(hG3.own.lt k hk).1;omega))
   clear hown hgrow hat hgr3 hG3 hib3 hB3 z0 z1 z2 z3 z4 z5 z6 z7 z8 z9 z10 z11 y0;go_wp2_with fail
   go_roundg (vs.length-(q+1))
   case measure=>omega
   case rel=>exact ⟨q+1,_,by omega,by go_num,HB4.out,HI4.out,HO4.out⟩
  ·obtain rfl:q=vs.length:=by omega
   have hvl:(Cx.imVars vs).length=vs.length:=by simp [Cx.imVars]
   rw [<- hvl,List.take_length] at HO;rw [hvl] at HO;have HEMr:=hide (HEM2.out.below hb);have y1:wr.cell? ⟨w1.heap.size,1,none⟩=some (.slice (some ⟨gl,0,none⟩) (Cx.leaves (gs.map (·.a))).length cl):=Lib.cell_of_heap HEMr.out.box 1;clear hb hib ho hvl;obtain ⟨il,hil,hl0,hl1,hl2⟩:=info_parts Tryz.infoILeaf;have hll:(Cx.leaves (gs.map (·.a))).length<=12:=by have:=leavesTo_len (gs.map (·.a)) (gs.map (·.a)).length;have:=hok.modes;unfold Cx.leaves;simp at *;omega
   obtain ⟨gl',cl',e',hglc,hcl'⟩:=HEMr.out.lv
   cases e'
   have HCL:=hide hcl';clear hcl';go_wp2_with fail;clear y1
   go_loopg [46] ((Cx.leaves (gs.map (·.a))).length) (fun k v46 wx=>∃ (q:Nat) (L:Value) (ps:List (ByteArray×Value)),q+k=(Cx.leaves (gs.map (·.a))).length/\v46=.int .i64 q/\Below w2.heap.size w2 wx/\wx.heap[w2.heap.size]? = some (.cells (imC (.slice aV vs.length cV) L nr) 106 (0,0))/\wx.ownsRow (w2.heap.size+1) 168 2 (.slice aV vs.length cV) vs.length ((Cx.imVars vs).flatMap ivC)/\wx.ownsRow (w2.heap.size+1) 102 2 L q (ps.flatMap lfC)/\ps.length=q/\∀ i (hi:i<ps.length),∃ hi2:i<(Cx.leaves (gs.map (·.a))).length,ps[i].1=Cx.nameOf (gs.map (·.a)) (Cx.leaves (gs.map (·.a)))[i]/\PgIs wx ps[i].2 (Cx.program vs (gs.map (·.a)) (Cx.leaves (gs.map (·.a)))[i]))
   case atStart=>exact ⟨0,.slice none 0 0,[],by omega,rfl,HB.out,HIb.out,HO.out,World.ownsRow_nil _ _ _ _,rfl,fun i hi=>absurd hi (by simp)⟩
   case round =>
    obtain ⟨q,L,ps,hq,rfl,hbx,hix,hvx,hlx,hpl,hpx⟩:=hrel;have HBX2:=hide hbx;have HIX:=hide hix;have HVX:=hide hvx;have HLX:=hide hlx;have HPX:=hide hpx;obtain ⟨aL,cL,rfl,_,_⟩:=row_shape hlx;have hsx:w2.heap.size<wr.heap.size:=(Array.getElem?_eq_some_iff.1 hix).1
    by_cases hlt:q<(Cx.leaves (gs.map (·.a))).length
    ·have hqi:(q:Int)<(Cx.leaves (gs.map (·.a))).length:=by omega
     have hq0:(0:Int)<=q:=by omega
     have hjl:(Cx.leaves (gs.map (·.a)))[q]<gs.length:=leaf_lt (List.getElem_mem hlt);have hEx:=HEM2.out.below hbx;obtain ⟨gl2,cl2,e2,hgl2,hc2⟩:=hEx.lv
     cases e2
     have c0:=hc2 q hlt;have yn:wr.cell? ⟨bl gs (Cx.leaves (gs.map (·.a)))[q],1,none⟩=some (.string (Cx.nameOf (gs.map (·.a)) (Cx.leaves (gs.map (·.a)))[q])):=by
      rw [bl_at hjl];exact ((hEx.pt.modeCells hjl).1 1 (by omega)).trans (by simp [MG.box,tokV,Cx.nameOf,hjl])
     have hbj:bl gs (Cx.leaves (gs.map (·.a)))[q]<w1.heap.size+1:=by rw [bl_at hjl];exact (hEx.pt.modeCells hjl).2.2.2.2
     have y1:wr.cell? ⟨w2.heap.size,1,none⟩=some (.slice aL q cL):=Lib.cell_of_heap hix 1
     have CK:Hid (∀ Y,Below wr.heap.size wr Y->Calls Tryz.prog 81 #[.pointer (some ⟨w1.heap.size,0,none⟩),.pointer (some ⟨bl gs (Cx.leaves (gs.map (·.a)))[q],0,none⟩)] Y fun e w'=>∃ gp cp,e=.returned (.slice (some ⟨gp,0,none⟩) (Cx.program vs (gs.map (·.a)) (Cx.leaves (gs.map (·.a)))[q]).length cp)/\PgIs w' (.slice (some ⟨gp,0,none⟩) (Cx.program vs (gs.map (·.a)) (Cx.leaves (gs.map (·.a)))[q]).length cp) (Cx.program vs (gs.map (·.a)) (Cx.leaves (gs.map (·.a)))[q])/\Below Y.heap.size Y w'):=hide (fun Y hY=>by
      refine (program_any (w1.heap.size+1) w1.heap.size tb base vt _ _ _ vs gs hok Y (hEx.below hY) hr _ hjl (hps _ hjl)).mono ?_;rintro e w' ⟨v',rfl,ho',hb'⟩;have hpg:=pg_of ho' (by simp [Cx.program]);obtain ⟨gp,cp,cur,rfl,hg,ht⟩:=hpg
      exact ⟨gp,cp,rfl,⟨gp,cp,cur,rfl,hg,ht⟩,hb'⟩)
     have hlb:∀ k,(Value.slice aL q cL).ownBlock=some k->w2.heap.size+1<=k:=fun k hk=>(hlx.lt k hk).1
     have HNM:Hid (Cx.nameOf (gs.map (·.a)) (Cx.leaves (gs.map (·.a)))[q]=Cx.nameOf (gs.map (·.a)) (Cx.leaves (gs.map (·.a)))[q]):=hide rfl;clear hEx hc2 hbx hix hvx hlx hpx;obtain ⟨bj,hbje⟩ : ∃ bj,bj=bl gs (Cx.leaves (gs.map (·.a)))[q]:=⟨_,rfl⟩;obtain ⟨nm,hnme⟩ : ∃ nm,nm=Cx.nameOf (gs.map (·.a)) (Cx.leaves (gs.map (·.a)))[q]:=⟨_,rfl⟩;obtain ⟨pl,hple⟩ : ∃ pl,pl=(Cx.program vs (gs.map (·.a)) (Cx.leaves (gs.map (·.a)))[q]).length:=⟨_,rfl⟩;obtain ⟨pg,hpge⟩ : ∃ pg,pg=Cx.program vs (gs.map (·.a)) (Cx.leaves (gs.map (·.a)))[q]:=⟨_,rfl⟩;rw [<- hbje] at c0 yn hbj CK;rw [<- hnme] at yn;rw [<- hple,<- hpge] at CK;have HBJ:=hide hbje;have HNME:=hide hnme;have HPLE:=hide hple;have HPGE:=hide hpge;clear hbje hnme hple hpge;have hbw:bj<wr.heap.size:=by omega
     have hbne:bj≠w2.heap.size:=by omega
     have hml:q+1<=maxLen:=by unfold maxLen;omega
     have hmb:(q+1)*40<=140737488355328:=by omega
     have hbb:w2.heap.size+1<=wr.heap.size:=hsx;go_wp2_with fail
     go_region_law (first | (refine step_append_own_at rfl _ _ 104 rfl (w2.heap.size+1) 102 il _ 2 40 Tryz.underlying104 hil hl0 hl1 hl2 rfl (by decide) _ q (ps.flatMap lfC) rfl (own_below (own_below HLX.out hB3) (below_a _ _)) ⟨_,0,none⟩ 1 1 [.string nm,.slice (some ⟨gp,0,none⟩) pl cp] rfl rfl (news_new _ _ rfl [.string nm,.slice (some ⟨gp,0,none⟩) pl cp] _) (ones2 rfl rfl) hml hmb (Nat.le_trans hbb (Nat.le_trans hs3 (below_a _ _).size)) ?_;intro v5 w5 hown hgrow hat;have hG5:=gr_grown hown hgrow hat;obtain ⟨a5,c5,rfl,_,_⟩:=row_shape hown;have hib5:=(hG5.kept.block w2.heap.size (Nat.lt_of_lt_of_le (Nat.lt_of_lt_of_le hsx hs3) (below_a _ _).size) (fun e=>Nat.lt_irrefl _ (hlb _ e))).trans (((below_a w3 _).block w2.heap.size (Nat.lt_of_lt_of_le hsx hs3)).trans ((hB3.block w2.heap.size hsx).trans HIX.out));have y5:w5.cell? ⟨w2.heap.size,1,none⟩=some (.slice aL q cL):=Lib.cell_of_heap hib5 1;have f5:w5.frozen? ⟨w2.heap.size,1,none⟩=false:=Lib.frozen_of_heap hib5 1;obtain ⟨hcn,_,hbn⟩:=gx_from (b:=bj) hG5 (below_a w3 _) (Nat.lt_of_lt_of_le hbw hs3) (fun k hk e=>by have:=hlb k hk;omega);have n5:=(hcn 1).trans zn;have n6:=(((Kp.refl (fun k=>k=w2.heap.size) w5).setCell (p:=⟨w2.heap.size,1,none⟩) (.inl rfl) (.slice a5 (q+1) c5)).cell (b:=bj) (o:=1) hbn hbne).trans n5) | (go_simp;go_at_call 81;refine (CK.out _ ?_).mono ?_;(with_reducible exact below_d _);rintro e w3 ⟨gp,cp,rfl,hpg,hb3⟩;have hB3:=(below_d wr).trans (hb3.mono (below_d wr).size);have z1:=(hB3.cell (p:=⟨w2.heap.size,1,none⟩) hsx).trans y1;have zn:=(hB3.cell (p:=⟨bj,1,none⟩) hbw).trans yn;have hs3:=hB3.size;have hne3:¬ w2.heap.size=w3.heap.size:=Nat.ne_of_lt (Nat.lt_of_lt_of_le hsx hs3);have z2:=((below_a w3 (.cells #[.string nm,.slice (some ⟨gp,0,none⟩) pl cp] 102)).cell (p:=⟨w2.heap.size,1,none⟩) (Nat.lt_of_lt_of_le hsx hs3)).trans z1))
     all_goals
      have hk5:Kp (fun k=>(Value.slice aL q cL).ownBlock=some k) (w3.alloc (.cells #[.string nm,.slice (some ⟨gp,0,none⟩) pl cp] 102)) w5:=hG5.kept;have hLa:=own_below (own_below HLX.out hB3) (below_a w3 (.cells #[.string nm,.slice (some ⟨gp,0,none⟩) pl cp] 102));have hVa:=own_below (own_below HVX.out hB3) (below_a w3 (.cells #[.string nm,.slice (some ⟨gp,0,none⟩) pl cp] 102));have hkS:Kp (fun k=>k=w2.heap.size) w5 (w5.setCell ⟨w2.heap.size,1,none⟩ (.slice a5 (q+1) c5)):=(Kp.refl (fun k=>k=w2.heap.size) w5).setCell (p:=⟨w2.heap.size,1,none⟩) (.inl rfl) _;have hkeep:∀ pv l,PgIs w3 pv l->PgIs (w5.setCell ⟨w2.heap.size,1,none⟩ (.slice a5 (q+1) c5)) pv l:=fun pv l hp=>by
       have h1:=hp.kept (Kp.ofBelow (F:=fun _=>False) (below_a w3 (.cells #[.string nm,.slice (some ⟨gp,0,none⟩) pl cp] 102))) (fun _ _ _ h=>h);have h2:=h1.kept hk5 (fun g cur hg=>row_not_entry hLa hg (by decide));refine h2.kept hkS (fun g cur hg e=>?_);subst e;rw [hib5] at hg;simp at hg
      have hB5:Below w2.heap.size w2 w5:=(HBX2.out.trans ((hB3.trans ((below_a w3 _).mono hs3)).mono (by omega))).trans (hk5.toBelow (fun k e=>by have:=hlb k e;omega) (by simp;omega));have HB6:Hid (Below w2.heap.size w2 (w5.setCell ⟨w2.heap.size,1,none⟩ (.slice a5 (q+1) c5))):=hide (hB5.trans (hkS.toBelow (fun k e=>by omega) hB5.size));have HI6:Hid ((w5.setCell ⟨w2.heap.size,1,none⟩ (.slice a5 (q+1) c5)).heap[w2.heap.size]? = some (.cells (imC (.slice aV vs.length cV) (.slice a5 (q+1) c5) nr) 106 (0,0))):=hide (set_heap hib5);have HV6:=hide (hkS.own (hk5.own hVa (rows_apart hVa hLa (by decide))) (fun k hk e=>by have:=((hk5.own hVa (rows_apart hVa hLa (by decide))).lt k hk).1;omega))
      have HL6:Hid ((w5.setCell ⟨w2.heap.size,1,none⟩ (.slice a5 (q+1) c5)).ownsRow (w2.heap.size+1) 102 2 (.slice a5 (q+1) c5) (q+1) ((ps++[(nm,Value.slice (some ⟨gp,0,none⟩) pl cp)]).flatMap lfC)):=hide (by
       rw [List.flatMap_append]
       exact hkS.own hown (fun k hk e=>by have:=(hown.lt k hk).1;omega))
      have HP6:Hid (∀ i (hi:i<(ps++[(nm,Value.slice (some ⟨gp,0,none⟩) pl cp)]).length),∃ hi2:i<(Cx.leaves (gs.map (·.a))).length,(ps++[(nm,Value.slice (some ⟨gp,0,none⟩) pl cp)])[i].1=Cx.nameOf (gs.map (·.a)) (Cx.leaves (gs.map (·.a)))[i]/\PgIs (w5.setCell ⟨w2.heap.size,1,none⟩ (.slice a5 (q+1) c5)) (ps++[(nm,Value.slice (some ⟨gp,0,none⟩) pl cp)])[i].2 (Cx.program vs (gs.map (·.a)) (Cx.leaves (gs.map (·.a)))[i])):=hide (fun i hi=>by
       by_cases hip:i<ps.length
       ·obtain ⟨h2,h3,h4⟩:=HPX.out i hip
        refine ⟨h2,?_,?_⟩
        ·rw [List.getElem_append_left hip];exact h3
        ·rw [List.getElem_append_left hip]
         exact hkeep _ _ (h4.kept (Kp.ofBelow (F:=fun _=>False) hB3) (fun _ _ _ h=>h))
       ·have hie:i=q:=by simp at hi;omega
        subst hie;have hge:(ps++[(nm,Value.slice (some ⟨gp,0,none⟩) pl cp)])[i]=(nm,Value.slice (some ⟨gp,0,none⟩) pl cp):=by rw [List.getElem_append_right (by omega)];simp
        refine ⟨hlt,?_,?_⟩
        ·rw [hge];exact HNME.out
        ·rw [hge,<- HPGE.out];exact hkeep _ _ hpg)
      clear hown hgrow hat hG5 hib5 hk5 hLa hVa hkS hkeep hB5 y5 f5 n5 n6 hcn hbn z1 zn z2 hpg hb3 hB3 y1 yn c0;go_wp2_with fail
      go_roundg ((Cx.leaves (gs.map (·.a))).length-(q+1))
      case measure=>omega
      case rel=>exact ⟨q+1,_,_,by omega,by go_num,HB6.out,HI6.out,HV6.out,HL6.out,by simp;omega,HP6.out⟩
    ·obtain rfl:q=(Cx.leaves (gs.map (·.a))).length:=by omega
     have y0:wr.cell? ⟨w2.heap.size,0,none⟩=some (.slice aV vs.length cV):=Lib.cell_of_heap hix 0;have y1:wr.cell? ⟨w2.heap.size,1,none⟩=some (.slice aL (Cx.leaves (gs.map (·.a))).length cL):=Lib.cell_of_heap hix 1;have y2:wr.cell? ⟨w2.heap.size,2,none⟩=some (.int .i64 nr):=Lib.cell_of_heap hix 2;have hvl:(Cx.imVars vs).length=vs.length:=by simp [Cx.imVars]
     have hlfl:((Cx.leaves (gs.map (·.a))).map (Cx.imLeaf vs (gs.map (·.a)))).length=(Cx.leaves (gs.map (·.a))).length:=by simp
     have hIM:ImIs wr wr.heap.size aV aL (Cx.imVars vs) ((Cx.leaves (gs.map (·.a))).map (Cx.imLeaf vs (gs.map (·.a)))):=by
      refine ⟨fun i hi=>?_,fun i hi=>?_,Nat.le_refl _⟩
      ·obtain ⟨g,cap,hv,_,hgl3,_,_,hcc⟩:=row_open hvx (by omega)
       cases hv
       have hf:=fun j hj=>flatC ivC 2 (Cx.imVars vs) (fun _=>rfl) i j hi hj
       exact ⟨g,rfl,hgl3,(hcc (i*2+0) (by omega)).trans (hf 0 (by omega)),(hcc (i*2+1) (by omega)).trans (hf 1 (by omega))⟩
      ·rw [hlfl] at hi
       obtain ⟨g,cap,hv,_,hgl3,_,_,hcc⟩:=row_open hlx (by omega)
       cases hv
       have hip:i<ps.length:=by omega
       have hf:=fun j hj=>flatC lfC 2 ps (fun _=>rfl) i j hip hj
       obtain ⟨hi2,hn1,gp,cp,cur,hpv,hgp,htk⟩:=hpx i hip;refine ⟨g,gp,cp,rfl,hgl3,?_,?_,(Array.getElem?_eq_some_iff.1 hgp).1,fun k hk=>?_⟩
       ·refine ((hcc (i*2+0) (by omega)).trans (hf 0 (by omega))).trans ?_
        rw [List.getElem_map];simp [lfC,hn1,Cx.imLeaf]
       ·refine ((hcc (i*2+1) (by omega)).trans (hf 1 (by omega))).trans ?_
        rw [List.getElem_map];simp [lfC,hpv,Cx.imLeaf]
       ·simp only [List.getElem_map,Cx.imLeaf] at hk |-
        rw [Lib.cell_of_heap hgp k];have h3:(cur.toList.take (Cx.program vs (gs.map (·.a)) (Cx.leaves (gs.map (·.a)))[i]).length)[k]? = ((Cx.program vs (gs.map (·.a)) (Cx.leaves (gs.map (·.a)))[i]).map Cx.bV)[k]? := by rw [htk]
        rw [List.getElem?_take_of_lt hk,List.getElem?_map,List.getElem?_eq_getElem hk] at h3;simpa using h3
     have HEN:=hide (Encode_any wr aV aL cV cL nr (Cx.imVars vs) ((Cx.leaves (gs.map (·.a))).map (Cx.imLeaf vs (gs.map (·.a)))) hIM (by omega) (by omega) (by
      have h1:Cx.numberOf (gs.map (·.a)) 0<(Cx.leaves (gs.map (·.a))).length:=List.findIdx_lt_length_of_exists ⟨_,hm0,by simp⟩;omega) (fun p hp=>by
      obtain ⟨j,hj,rfl⟩:=List.mem_map.1 hp
      exact ⟨hnm j (leaf_lt hj),hps j (leaf_lt hj)⟩) (by rw [<- hnr];exact hbl))
     rw [hvl,hlfl] at HEN;have HBW:Hid (Below w.heap.size w wr):=hide (HB2.out.trans (hbx.mono HB2.out.size));have HNR:=hide hnr;clear hbx hix hvx hlx hpx hIM hnr;go_wp2_with fail;refine HEN.out.mono ?_;rintro e wz ⟨rfl,hbz⟩;have HBZ:=hide (HBW.out.trans (hbz.mono HBW.out.size));clear hbz HEN y0 y1 y2;go_wp2_with fail;go_ret;exact ⟨by rw [Cx.imageOf,Cx.imBody,HNR.out];rfl,HBZ.out⟩
end
end Go.Proofs.YtdjaiolfdbamcaaGreatDoor
