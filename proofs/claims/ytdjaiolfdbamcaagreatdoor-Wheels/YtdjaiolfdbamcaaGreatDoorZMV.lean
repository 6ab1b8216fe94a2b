/- Orders of a region whose last operation may break what is held: what is held is asked behind every operation but that one; nothing of the program is asked here. -/
import Derived.Test.YtdjaiolfdbamcaaGreatDoorZMRa
import Derived.Test.YtdjaiolfdbamcaaGreatDoorZMRd
import Derived.Deep.RegionHeld3
import Derived.RegionTactic
import Derived.Deep.DrawnRows
import Derived.WalkSmall
import Derived.Lib.AppendZeros
import Derived.Laws.AppendOwnNone
import Derived.Test.YtdjaiolfdbamcaaGreatDoorShelf2
import Derived.Lib.BufferMore
set_option maxRecDepth 20000
set_option maxHeartbeats 8000000
namespace Go.Proofs.YtdjaiolfdbamcaaGreatDoor
section
section
variable {P:Program} {md:Region.Mode} {ops:Array Oper} {Q:Exit->Act->World->Prop} {S:World->Prop} {L:Nat}
def WE (P:Program) (md:Region.Mode) (ops:Array Oper) (Q:Exit->Act->World->Prop) (S:World->Prop) (L:Nat):Nat->Array Bool->Act->World->Prop
 | 0,l,a,w=>Region.ready md ops l=[]/\Q .normal a w
 | n+1,l,a,w=>(Region.ready md ops l=[]->Q .normal a w)/\∀ i∈Region.ready md ops l,wpOp P ops Q i (fun a' w'=>(i≠L->S w')/\WE P md ops Q S L n (l.setIfInBounds i true) a' w') a w
theorem WE.any:∀ (n:Nat) (l:Array Bool) (a:Act) (w:World),WE P md ops Q S L n l a w->wpAny P md ops Q n l a w:=by
 intro n
 induction n with
 | zero=>intro l a w h;exact h
 | succ n ih=>intro l a w h;exact ⟨h.1,fun i hi=>wpOp_mono (fun a' w' q=>ih _ _ _ q.2) (h.2 i hi)⟩
theorem unlisted {l:Array Bool} {i:Nat} (h:l.getD i true=false) (k:l.getD i false=true):False:=by
 by_cases hi:i<l.size
 ·simp [hi] at h k
  rw [h] at k
  cases k
 ·simp [Nat.not_lt.1 hi] at k
theorem WE.early {i:Nat} {oi:Oper} {v:Value} (hi:ops[i]? = some oi) (hsel:∀ (j:Nat) (o:Oper) cs b,ops[j]? = some o->o.op≠.select cs b)
  (hQ:∀ c a w,Q (.panic c) (a.put oi.dst v) w->Q (.panic c) a w) (hL:∀ o,ops[L]? = some o->∃ e∈o.after,Region.binds md e=true/\e.on=i) (hne:i≠L) :
  ∀ (n:Nat) (l:Array Bool) (a:Act) (w:World),(∀ j oj,ops[j]? = some oj->j≠i->l.getD j true=false->(∀ e∈oj.after,Region.binds md e=true->e.on≠i)->oi.apart ops oj=true) ->
   i∈Region.ready md ops l->YieldsIf P ops S oi v a->S w->WE P md ops Q S L n (l.setIfInBounds i true) (a.put oi.dst v) w->WE P md ops Q S L (n+1) l a w:=by
 intro n
 induction n with
 | zero =>
  intro l a w _ hr hy hS H;refine ⟨fun h=>absurd hr (by rw [h];simp),fun j hj=>?_⟩;rcases Decidable.em (j=i) with rfl | hji
  ·exact hy.wpOp hi hS ⟨fun _=>hS,H⟩
  ·exact absurd (ready_mono hj hji) (by rw [H.1];simp)
 | succ n ih =>
  intro l a w hap hr hy hS H;refine ⟨fun h=>absurd hr (by rw [h];simp),fun j hj=>?_⟩;rcases Decidable.em (j=i) with rfl | hji
  ·exact hy.wpOp hi hS ⟨fun _=>hS,H⟩
  obtain ⟨hju,oj,hoj,hw⟩:=mem_ready.1 hj;have hwait:∀ e∈oj.after,Region.binds md e=true->e.on≠i:=fun e he hb heq=>by
   have k:=hw e he hb;rw [heq] at k;exact unlisted (mem_ready.1 hr).1 k
  have hjL:j≠L:=fun e=>by
   subst e;obtain ⟨x,hx,hb,ho⟩:=hL oj hoj;exact hwait x hx hb ho
  have q:=wpOp_putIf hoj (hap j oj hoj hji hju hwait) (fun cs b=>hsel i oi cs b hi) (fun cs b=>hsel j oj cs b hoj) hQ hy (H.2 j (ready_mono hj hji));refine wpOp_mono (fun a' w' z=>⟨fun _=>z.2.1 hjL,?_⟩) q;refine ih (l.setIfInBounds j true) a' w' (fun k ok hk hki hun hno=>hap k ok hk hki ?_ hno) (ready_mono hr (Ne.symm hji)) z.1 (z.2.1 hjL) ?_
  ·rcases Decidable.em (j=k) with rfl | hjk
   ·exact hju
   ·rwa [getD_set_ne true hjk] at hun
  ·rw [Array.setIfInBounds_comm _ _ hji]
   exact z.2.2
theorem WE.take {i:Nat} {oi:Oper} {v:Value} {n:Nat} {l:Array Bool} {a:Act} {w:World} (hi:ops[i]? = some oi) (hs:Region.noSelect ops=true) (hf:Region.free md ops l i=true) (hr:(Region.ready md ops l).contains i=true)
  (hL:(match ops[L]? with | some o=>o.after.any (fun e=>Region.binds md e && e.on == i) | none=>true)=true) (hne:(i != L)=true) (hQ:∀ c a w,Q (.panic c) (a.put oi.dst v) w->Q (.panic c) a w) (hy:YieldsIf P ops S oi v a) (hS:S w)
  (h:WE P md ops Q S L n (l.setIfInBounds i true) (a.put oi.dst v) w):WE P md ops Q S L (n+1) l a w:=by
 refine WE.early hi (Region.noSelect_spec hs) hQ (fun o ho=>?_) (by simpa using hne) n l a w (Region.free_spec hi hf) (by simpa using hr) hy hS h;rw [ho] at hL;simp only [Array.any_eq_true'] at hL;obtain ⟨e,he,hb⟩:=hL;simp at hb;exact ⟨e,he,hb.1,hb.2⟩
theorem WE.one {i:Nat} {o:Oper} {n:Nat} {l:Array Bool} {a:Act} {w:World} (hr:Region.ready md ops l=[i]) (ho:ops[i]? = some o)
  (h:∀ K':Act->World->Prop,Shut (∀ a w,S w->(S w->WE P md ops Q S L n (l.setIfInBounds i true) a w)->K' a w)->if Region.wanted o (yielded ops a.tmps)=true then Oper.wp P o a w K' Q else K' (a.put o.dst undef) w):WE P md ops Q S L (n+1) l a w :=
 ⟨fun h0=>absurd (hr.symm.trans h0) (by simp),fun j hj=>by
  rw [hr] at hj;obtain rfl:j=i:=by simpa using hj
  exact wpOp_step ho (fun K' hK=>h K' (fun a w hS hW=>hK a w ⟨fun _=>hS,hW hS⟩))⟩
theorem WE.last {o:Oper} {n:Nat} {l:Array Bool} {a:Act} {w:World} (hr:Region.ready md ops l=[L]) (ho:ops[L]? = some o)
  (h:∀ K':Act->World->Prop,Shut (∀ a w,WE P md ops Q S L n (l.setIfInBounds L true) a w->K' a w)->if Region.wanted o (yielded ops a.tmps)=true then Oper.wp P o a w K' Q else K' (a.put o.dst undef) w):WE P md ops Q S L (n+1) l a w :=
 ⟨fun h0=>absurd (hr.symm.trans h0) (by simp),fun j hj=>by
  rw [hr] at hj;obtain rfl:j=L:=by simpa using hj
  exact wpOp_step ho (fun K' hK=>h K' (fun a w hW=>hK a w ⟨fun e=>absurd rfl e,hW⟩))⟩
theorem WE.done {l:Array Bool} {a:Act} {w:World} (hr:Region.ready md ops l=[]) (h:Q .normal a w):∀ n,WE P md ops Q S L n l a w
 | 0=>⟨hr,h⟩
 | _+1=>⟨fun _=>h,fun i hi=>by rw [hr] at hi;cases hi⟩
theorem WE.region {id:Nat} {a:Act} {w:World} (L:Nat) (S:World->Prop) (hm:P.follows .mixedOrders=true) (hS:S w.drew) (h:S w.drew->WE P .any ops Q S L ops.size (Array.replicate ops.size false) a w.drew):(Code.region id ops true).wp P Q a w :=
 wp_region_any hm (WE.any _ _ _ _ (h hS))
end
end
section
open Go.RowKit
attribute [local go_sem ↓] Go.wp_at_zero Go.wp_at_succ
theorem row_shp {w:World} {base e size n:Nat} {v:Value} {xs:List Value} (h:w.ownsRow base e size v n xs):∃ a c,v=.slice a n c/\n<=c/\c<=maxLen:=by
 rcases h.2 with ⟨rfl,rfl⟩ | ⟨g,cap,cur,rfl,_,_,h1,h2,_⟩
 ·exact ⟨none,0,rfl,Nat.le_refl _,Nat.zero_le _⟩
 ·exact ⟨_,cap,rfl,h1,h2⟩
structure RunP where
 rb:Nat
 gp:Nat
 cp:Nat
 xa:Option Addr
 cx:Nat
 p:List UInt8
 xs:List Int
def rnC (R:RunP) (k:Nat) (tv:Value) (leaf:Nat) (en:Bool):Array Value:=#[.slice (some ⟨R.gp,0,none⟩) R.p.length R.cp,.int .i64 k,.slice R.xa R.xs.length R.cx,tv,.int .i64 leaf,.bool en]
structure RunM (w:World) (R:RunP) (k:Nat) (tv:Value) (st:List Bool) (leaf:Nat) (en:Bool):Prop where
 box:w.heap[R.rb]? = some (.cells (rnC R k tv leaf en) 178 (0,0))
 gpl:R.gp<R.rb
 prog:∀ j (hj:j<R.p.length),w.cell? ⟨R.gp,j,none⟩=some (.int .u8 (R.p[j].toNat:Int))
 nums:∀ j (hj:j<R.xs.length),∃ g,R.xa=some ⟨g,0,none⟩/\g<R.rb/\w.cell? ⟨g,j,none⟩=some (.int .i64 R.xs[j])
 tru:w.ownsRow (R.rb+1) 4 1 tv st.length (st.reverse.map Value.bool)
theorem RunM.lt {w:World} {R:RunP} {k:Nat} {tv:Value} {st:List Bool} {leaf:Nat} {en:Bool} (h:RunM w R k tv st leaf en):R.rb<w.heap.size:=(Array.getElem?_eq_some_iff.1 h.box).1
theorem RunM.setB {w w3:World} {R:RunP} {k k':Nat} {tv tv':Value} {st st':List Bool} {leaf leaf':Nat} {en en':Bool} (h:RunM w R k tv st leaf en) (hB:Below (R.rb+1) w w3) (o:Nat) (v:Value) (he:(rnC R k tv leaf en).setIfInBounds o v=rnC R k' tv' leaf' en') (ht:w3.ownsRow (R.rb+1) 4 1 tv' st'.length (st'.reverse.map Value.bool)) :
  RunM (w3.setCell ⟨R.rb,o,none⟩ v) R k' tv' st' leaf' en'/\Below R.rb w (w3.setCell ⟨R.rb,o,none⟩ v):=by
 have hk:Kp (fun k=>k=R.rb) w3 (w3.setCell ⟨R.rb,o,none⟩ v):=kp_set w3 R.rb o v;have hl:=h.lt;have hs:=hB.size;refine ⟨⟨?_,h.gpl,fun j hj=>?_,fun j hj=>?_,?_⟩,(hB.mono (by omega)).trans (hk.toBelow (fun k e=>by omega) (by omega))⟩
 ·rw [set_heap ((hB.block R.rb (by omega)).trans h.box),he]
 ·have:=h.gpl
  exact (hk.cell (by omega) (by omega)).trans ((hB.cell (p:=⟨R.gp,j,none⟩) (Nat.lt_succ_of_lt this)).trans (h.prog j hj))
 ·obtain ⟨g,e,hg,hc⟩:=h.nums j hj
  exact ⟨g,e,hg,(hk.cell (by omega) (by omega)).trans ((hB.cell (p:=⟨g,j,none⟩) (Nat.lt_succ_of_lt hg)).trans hc)⟩
 ·exact hk.own ht (fun k e1 e2=>by have:=(ht.lt k e1).1;omega)
theorem bel_a (w:World) (o:Obj):Below w.heap.size w (w.alloc o):=(Below.refl _ _).alloc (Nat.le_refl _) o
theorem bel_d (w:World):Below w.heap.size w w.drew:=(Below.refl _ _).drew
theorem RunM.kept {w w':World} {R:RunP} {k:Nat} {tv:Value} {st:List Bool} {leaf:Nat} {en:Bool} (h:RunM w R k tv st leaf en) (hb:Below w.heap.size w w'):RunM w' R k tv st leaf en:=by
 have hk:Kp (fun _=>False) w w':=Kp.ofBelow hb;have hl:=h.lt;refine ⟨(hk.block R.rb hl id).trans h.box,h.gpl,fun j hj=>?_,fun j hj=>?_,hk.own h.tru (fun _ _=>id)⟩
 ·have:=h.gpl
  exact (hk.cell (by omega) id).trans (h.prog j hj)
 ·obtain ⟨g,e,hg,hc⟩:=h.nums j hj
  exact ⟨g,e,hg,(hk.cell (by omega) id).trans hc⟩
theorem rnext_any (w:World) (R:RunP) (k:Nat) (tv:Value) (st:List Bool) (leaf:Nat) (en:Bool) (h:RunM w R k tv st leaf en) (hk:k<R.p.length) (hp:R.p.length<=65535) :
  Calls Tryz.prog 87 #[.pointer (some ⟨R.rb,0,none⟩)] w fun e w'=>e=.returned (.int .u8 R.p[k].toNat)/\RunM w' R (k+1) tv st leaf en/\Below R.rb w w':=by
 have c0:w.cell? ⟨R.rb,0,none⟩=some (.slice (some ⟨R.gp,0,none⟩) R.p.length R.cp):=Lib.cell_of_heap h.box 0;have c1:w.cell? ⟨R.rb,1,none⟩=some (.int .i64 k):=Lib.cell_of_heap h.box 1;have f1:w.frozen? ⟨R.rb,1,none⟩=false:=Lib.frozen_of_heap h.box 1;have d0:=h.prog k hk;obtain ⟨u,hu⟩ : ∃ u,u=R.p[k].toNat:=⟨_,rfl⟩;rw [<- hu] at d0 |-;clear hu;have hki:(k:Int)<R.p.length:=by omega
 have hk0:(0:Int)<=k:=by omega
 have hl:=h.lt;have HS:=hide (h.setB (k':=k+1) (tv':=tv) (st':=st) (leaf':=leaf) (en':=en) ((bel_d w).mono hl) 1 (.int .i64 ((k:Int)+1)) rfl (h.kept (bel_d w)).tru);clear h;go_enter Tryz.func87,Tryz.ntmps87;go_wp2_with fail
 go_region_held3 (fun W=>W.cell? ⟨R.rb,0,none⟩=some (.slice (some ⟨R.gp,0,none⟩) R.p.length R.cp)/\W.cell? ⟨R.rb,1,none⟩=some (.int .i64 k)/\W.cell? ⟨R.gp,k,none⟩=some (.int .u8 u)) (first | go_keep | (exact ⟨by with_reducible assumption,by with_reducible assumption,by with_reducible assumption⟩)) (fail)
 all_goals
  go_wp2_with fail;go_ret;exact ⟨rfl,HS.out.1,HS.out.2⟩
theorem rnextTwo_any (w:World) (R:RunP) (k:Nat) (tv:Value) (st:List Bool) (leaf:Nat) (en:Bool) (h:RunM w R k tv st leaf en) (hk:k+1<R.p.length) (hp:R.p.length<=65535) :
  Calls Tryz.prog 173 #[.pointer (some ⟨R.rb,0,none⟩)] w fun e w'=>e=.returned (.int .i64 (Mx.two R.p[k] R.p[k+1]))/\RunM w' R (k+2) tv st leaf en/\Below R.rb w w':=by
 have HN:=hide (rnext_any w R k tv st leaf en h (by omega) hp);have HL:=hide h.lt;clear h;go_enter Tryz.func173,Tryz.ntmps173;go_wp2_with fail;refine HN.out.mono ?_;rintro e w1 ⟨rfl,h1,hb1⟩;have HN1:=hide (rnext_any w1 R (k+1) tv st leaf en h1 hk hp);have HB1:=hide hb1;clear h1 hb1 HN;go_wp2_with fail;refine HN1.out.mono ?_;rintro e w2 ⟨rfl,h2,hb2⟩;have HB2:=hide (HB1.out.trans hb2);have H2:=hide h2;have HT:=hide (Two_any w2 R.p[k] R.p[k+1]);clear h2 hb2 HN1;go_wp2_with fail;refine HT.out.mono ?_;rintro e w3 ⟨rfl,rfl⟩;go_wp2_with fail;go_ret;exact ⟨rfl,H2.out,HB2.out⟩
theorem Tryz.infoBoolT:(Tryz.prog.info? 4).map (fun i=>(i.zero,i.size,i.bytes))=some (some (.bool false),1,1):=by kernel_rfl
theorem one1 {a:Value} (ha:a.oneCell'=true):∀ u∈[a],u.oneCell'=true:=by
 intro u hu;simp at hu;subst hu;exact ha
theorem rput_any (w:World) (R:RunP) (k:Nat) (tv:Value) (st:List Bool) (leaf:Nat) (en b:Bool) (h:RunM w R k tv st leaf en) (hs:st.length<=1000) :
  Calls Tryz.prog 175 #[.pointer (some ⟨R.rb,0,none⟩),.bool b] w fun e w'=>∃ tv',e=.returned (.tuple #[])/\RunM w' R k tv' (b::st) leaf en/\Below R.rb w w':=by
 obtain ⟨i0,hi0,hz0,hz1,hz2⟩:=info_parts Tryz.infoBoolT;obtain ⟨av,cv,rfl,_,_⟩:=row_shp h.tru;have c3:w.cell? ⟨R.rb,3,none⟩=some (.slice av st.length cv):=Lib.cell_of_heap h.box 3;have H:=hide h;have hl:=h.lt;have hlb:∀ k,(Value.slice av st.length cv).ownBlock=some k->R.rb<k:=fun k hk=>(h.tru.lt k hk).1
 clear h;go_enter Tryz.func175,Tryz.ntmps175;go_wp2_with (at_builtin;refine wpList_append_own_at _ rfl _ _ 176 rfl (R.rb+1) 4 i0 _ 1 1 Tryz.underlying176 hi0 hz0 hz1 hz2 rfl (by decide) _ st.length _ rfl (own_below H.out.tru ((Below.refl _ _).alloc (Nat.le_refl _) _)) ⟨w.heap.size,0,none⟩ 1 1 [.bool b] rfl rfl (news_new _ _ rfl [_] _) (one1 rfl) ?c3 ?c4 ?c5 ?_)
 case c3=>unfold maxLen;omega
 case c4=>omega
 case c5=>simp;omega
 intro v' w3 hown hgrow _ hat;obtain ⟨a',c',rfl,_,_⟩:=row_shp hown;have hB3:Below (R.rb+1) w w3:=((bel_a w (.cells #[.bool b] 4)).mono hl).trans ⟨hgrow.os,hgrow.tape,hgrow.output,hgrow.size,fun k hk=>hgrow.block k (by simp;omega) (fun e=>by have:=hlb k e.symm;omega)⟩;have hrow:w3.ownsRow (R.rb+1) 4 1 (.slice a' (st.length+1) c') (b::st).length ((b::st).reverse.map Value.bool):=by
  have e:(b::st).reverse.map Value.bool=st.reverse.map Value.bool++[.bool b]:=by simp
  rw [e,List.map_reverse];exact hown
 have HS:=hide (H.out.setB (k':=k) (tv':=.slice a' (st.length+1) c') (st':=b::st) (leaf':=leaf) (en':=en) hB3 3 (.slice a' (st.length+1) c') rfl hrow);have hbx:=(hB3.block R.rb (by omega)).trans H.out.box;have f3:w3.frozen? ⟨R.rb,3,none⟩=false:=Lib.frozen_of_heap hbx 3;have g3:w3.cell? ⟨R.rb,3,none⟩=some (.slice av st.length cv):=Lib.cell_of_heap hbx 3;clear hown hgrow hat hB3 hrow hbx;go_wp2_with fail;go_end0;exact ⟨_,rfl,HS.out.1,HS.out.2⟩
end
section
open Go.RowKit
attribute [local go_sem ↓] Go.wp_at_zero Go.wp_at_succ
theorem rtake2_any (w:World) (R:RunP) (k:Nat) (tv:Value) (st:List Bool) (leaf:Nat) (en b:Bool) (h:RunM w R k tv (b::st) leaf en) (hs:st.length<=1000) :
  Calls Tryz.prog 174 #[.pointer (some ⟨R.rb,0,none⟩)] w fun e w'=>e=.returned (.bool b)/\(∃ tv',RunM w' R k tv' st leaf en)/\Below R.rb w w':=by
 have hl:=h.lt;have htr:w.ownsRow (R.rb+1) 4 1 tv (st.length+1) (st.reverse.map Value.bool++[.bool b]):=by
  have:=h.tru;simpa using this
 rcases htr.2 with ⟨_,h0⟩ | ⟨g,cap,cur,rfl,hg,hgh,hn,hcm,hcs,hct⟩
 ·omega
 have c3:w.cell? ⟨R.rb,3,none⟩=some (.slice (some ⟨g,0,none⟩) ((st.length+1:Nat)) cap):=Lib.cell_of_heap h.box 3;have d0:w.cell? ⟨g,st.length,none⟩=some (.bool b):=by
  have:=htr.cellAt st.length (by omega);rw [this];simp
 have f3:w.frozen? ⟨R.rb,3,none⟩=false:=Lib.frozen_of_heap h.box 3;have hpop:=ownsRow_pop (n:=st.length) (xs:=st.reverse.map Value.bool) (last:=[.bool b]) (by simp) htr;have HS:=hide (h.setB (k':=k) (tv':=.slice (some ⟨g,0,none⟩) st.length cap) (st':=st) (leaf':=leaf) (en':=en) (Below.refl _ _) 3 (.slice (some ⟨g,0,none⟩) st.length cap) rfl hpop);clear h htr hgh hct hpop;go_enter Tryz.func174,Tryz.ntmps174;go_wp2_with fail;go_ret;exact ⟨rfl,⟨_,HS.out.1⟩,HS.out.2⟩
def ActR (w:World) (R:RunP) (q:Nat×List Bool×Nat×Bool) (e:Ending) (w':World):Prop:=e=.returned (.tuple #[])/\Below R.rb w w'/\∃ tv,RunM w' R q.1 tv q.2.1 q.2.2.1 q.2.2.2
theorem halt_any (w:World) (R:RunP) (k:Nat) (tv:Value) (st:List Bool) (leaf:Nat) (en:Bool) (h:RunM w R k tv st leaf en) :
  Calls Tryz.prog 124 #[.pointer (some ⟨R.rb,0,none⟩)] w fun e w'=>ActR w R (k,st,leaf,true) e w':=by
 have c5:w.cell? ⟨R.rb,5,none⟩=some (.bool en):=Lib.cell_of_heap h.box 5;have f5:w.frozen? ⟨R.rb,5,none⟩=false:=Lib.frozen_of_heap h.box 5;have HS:=hide (h.setB (k':=k) (tv':=tv) (st':=st) (leaf':=leaf) (en':=true) (Below.refl _ _) 5 (.bool true) rfl h.tru);clear h;go_enter Tryz.func124,Tryz.ntmps124;go_wp2_with fail;go_end0;exact ⟨rfl,HS.out.2,_,HS.out.1⟩
theorem goes_any (w:World) (R:RunP) (k:Nat) (tv:Value) (st:List Bool) (leaf:Nat) (en:Bool) (h:RunM w R k tv st leaf en) (hk:k<R.p.length) (hp:R.p.length<=65535) :
  Calls Tryz.prog 125 #[.pointer (some ⟨R.rb,0,none⟩)] w fun e w'=>ActR w R (k+1,st,R.p[k].toNat,true) e w':=by
 have HN:=hide (rnext_any w R k tv st leaf en h hk hp);have hu:=R.p[k].toNat_lt;obtain ⟨u,hue⟩ : ∃ u,u=R.p[k].toNat:=⟨_,rfl⟩;rw [<- hue] at HN hu |-;clear h hue;have hwu:IntKind.i64.wrap (u:Int)=u:=IntWalk.i64_in _ (by omega);have hwv:wrap64 (u:Int)=u:=IntWalk.wrap64_in _ (by omega);go_enter Tryz.func125,Tryz.ntmps125;go_wp2_with fail;refine HN.out.mono ?_;rintro e w1 ⟨rfl,h1,hb1⟩;have c4:w1.cell? ⟨R.rb,4,none⟩=some (.int .i64 leaf):=Lib.cell_of_heap h1.box 4;have f4:w1.frozen? ⟨R.rb,4,none⟩=false:=Lib.frozen_of_heap h1.box 4;have hS:=h1.setB (k':=k+1) (tv':=tv) (st':=st) (leaf':=u) (en':=en) (Below.refl _ _) 4 (.int .i64 u) rfl h1.tru;have c5:(w1.setCell ⟨R.rb,4,none⟩ (.int .i64 u)).cell? ⟨R.rb,5,none⟩=some (.bool en):=Lib.cell_of_heap hS.1.box 5;have f5:(w1.setCell ⟨R.rb,4,none⟩ (.int .i64 u)).frozen? ⟨R.rb,5,none⟩=false:=Lib.frozen_of_heap hS.1.box 5;have hT:=hS.1.setB (k':=k+1) (tv':=tv) (st':=st) (leaf':=u) (en':=true) (Below.refl _ _) 5 (.bool true) rfl hS.1.tru;have HT:=hide hT.1;have HB:=hide ((hb1.trans hS.2).trans hT.2);clear h1 hb1 hS hT HN;go_wp2_with fail;go_end0;exact ⟨rfl,HB.out,_,HT.out⟩
theorem askip_any (w:World) (R:RunP) (k:Nat) (tv:Value) (st:List Bool) (leaf:Nat) (en b:Bool) (h:RunM w R k tv (b::st) leaf en) (hk:k+1<R.p.length) (hp:R.p.length<=65535) (hs:st.length<=1000) :
  Calls Tryz.prog 126 #[.pointer (some ⟨R.rb,0,none⟩)] w fun e w'=>ActR w R (if b then k+2 else k+2+Mx.two R.p[k] R.p[k+1],st,leaf,en) e w':=by
 have HN:=hide (rnextTwo_any w R k tv (b::st) leaf en h hk hp);have hu:=Mx.two_lt R.p[k] R.p[k+1];obtain ⟨u,hue⟩ : ∃ u,u=Mx.two R.p[k] R.p[k+1]:=⟨_,rfl⟩;rw [<- hue] at HN hu |-;clear h hue;go_enter Tryz.func126,Tryz.ntmps126;go_wp2_with fail;refine HN.out.mono ?_;rintro e w1 ⟨rfl,h1,hb1⟩;have HT:=hide (rtake2_any w1 R (k+2) tv st leaf en b h1 hs);have HB1:=hide hb1;clear h1 hb1 HN;go_wp2_with fail;refine HT.out.mono ?_;rintro e w2 ⟨rfl,⟨tv2,h2⟩,hb2⟩;have HB2:=hide (HB1.out.trans hb2);have H2:=hide h2
 cases b with
 | true =>
  clear h2 hb2 HT;go_wp2_with fail;go_end0;exact ⟨rfl,HB2.out,_,H2.out⟩
 | false =>
  have c1:w2.cell? ⟨R.rb,1,none⟩=some (.int .i64 ((k:Int)+2)):=Lib.cell_of_heap h2.box 1;have f1:w2.frozen? ⟨R.rb,1,none⟩=false:=Lib.frozen_of_heap h2.box 1;have HS:=hide (h2.setB (k':=k+2+u) (tv':=tv2) (st':=st) (leaf':=leaf) (en':=en) (Below.refl _ _) 1 (.int .i64 ((k:Int)+2+u)) rfl h2.tru);clear h2 hb2 HT;go_wp2_with fail;go_end0;exact ⟨rfl,HB2.out.trans HS.out.2,_,HS.out.1⟩
theorem turn_any (w:World) (R:RunP) (k:Nat) (tv:Value) (st:List Bool) (leaf:Nat) (en b:Bool) (h:RunM w R k tv (b::st) leaf en) (hs:st.length<=900) :
  Calls Tryz.prog 129 #[.pointer (some ⟨R.rb,0,none⟩)] w fun e w'=>ActR w R (k,(!b)::st,leaf,en) e w':=by
 have HT:=hide (rtake2_any w R k tv st leaf en b h (by omega));clear h;go_enter Tryz.func129,Tryz.ntmps129;go_wp2_with fail;refine HT.out.mono ?_;rintro e w1 ⟨rfl,⟨tv1,h1⟩,hb1⟩;have HP:=hide (rput_any w1 R k tv1 st leaf en (!b) h1 (by omega));have HB1:=hide hb1;clear h1 hb1 HT;go_wp2_with fail;refine HP.out.mono ?_;rintro e w2 ⟨tv2,rfl,h2,hb2⟩;have HB2:=hide (HB1.out.trans hb2);have H2:=hide h2;clear h2 hb2 HP;go_wp2_with fail;go_end0;exact ⟨rfl,HB2.out,_,H2.out⟩
theorem yes_any (w:World) (R:RunP) (k:Nat) (tv:Value) (st:List Bool) (leaf:Nat) (en:Bool) (h:RunM w R k tv st leaf en) (hs:st.length<=900) :
  Calls Tryz.prog 130 #[.pointer (some ⟨R.rb,0,none⟩)] w fun e w'=>ActR w R (k,true::st,leaf,en) e w':=by
 have HP:=hide (rput_any w R k tv st leaf en true h (by omega));clear h;go_enter Tryz.func130,Tryz.ntmps130;go_wp2_with fail;refine HP.out.mono ?_;rintro e w2 ⟨tv2,rfl,h2,hb2⟩;have HB2:=hide hb2;have H2:=hide h2;clear h2 hb2 HP;go_wp2_with fail;go_end0;exact ⟨rfl,HB2.out,_,H2.out⟩
theorem both_any (w:World) (R:RunP) (k:Nat) (tv:Value) (st:List Bool) (leaf:Nat) (en a b:Bool) (h:RunM w R k tv (a::b::st) leaf en) (hs:st.length<=900) :
  Calls Tryz.prog 127 #[.pointer (some ⟨R.rb,0,none⟩)] w fun e w'=>ActR w R (k,(b && a)::st,leaf,en) e w':=by
 have HT:=hide (rtake2_any w R k tv (b::st) leaf en a h (by simp;omega));clear h;go_enter Tryz.func127,Tryz.ntmps127;go_wp2_with fail;refine HT.out.mono ?_;rintro e w1 ⟨rfl,⟨tv1,h1⟩,hb1⟩;have HT1:=hide (rtake2_any w1 R k tv1 st leaf en b h1 (by omega));have HB1:=hide hb1;clear h1 hb1 HT;go_wp2_with fail;refine HT1.out.mono ?_;rintro e w2 ⟨rfl,⟨tv2,h2⟩,hb2⟩;have HP:=hide (rput_any w2 R k tv2 st leaf en (b && a) h2 (by omega));have HB2:=hide (HB1.out.trans hb2);clear h2 hb2 HT1 HB1
 cases b
 all_goals
  go_wp2_with fail;refine HP.out.mono ?_;rintro e w3 ⟨tv3,rfl,h3,hb3⟩;have HB3:=hide (HB2.out.trans hb3);have H3:=hide h3;clear h3 hb3 HP;go_wp2_with fail;go_end0;exact ⟨rfl,HB3.out,_,H3.out⟩
theorem some_any (w:World) (R:RunP) (k:Nat) (tv:Value) (st:List Bool) (leaf:Nat) (en a b:Bool) (h:RunM w R k tv (a::b::st) leaf en) (hs:st.length<=900) :
  Calls Tryz.prog 128 #[.pointer (some ⟨R.rb,0,none⟩)] w fun e w'=>ActR w R (k,(b || a)::st,leaf,en) e w':=by
 have HT:=hide (rtake2_any w R k tv (b::st) leaf en a h (by simp;omega));clear h;go_enter Tryz.func128,Tryz.ntmps128;go_wp2_with fail;refine HT.out.mono ?_;rintro e w1 ⟨rfl,⟨tv1,h1⟩,hb1⟩;have HT1:=hide (rtake2_any w1 R k tv1 st leaf en b h1 (by omega));have HB1:=hide hb1;clear h1 hb1 HT;go_wp2_with fail;refine HT1.out.mono ?_;rintro e w2 ⟨rfl,⟨tv2,h2⟩,hb2⟩;have HP:=hide (rput_any w2 R k tv2 st leaf en (b || a) h2 (by omega));have HB2:=hide (HB1.out.trans hb2);clear h2 hb2 HT1 HB1
 cases b
 all_goals
  go_wp2_with fail;refine HP.out.mono ?_;rintro e w3 ⟨tv3,rfl,h3,hb3⟩;have HB3:=hide (HB2.out.trans hb3);have H3:=hide h3;clear h3 hb3 HP;go_wp2_with fail;go_end0;exact ⟨rfl,HB3.out,_,H3.out⟩
theorem rasked_any (w:World) (R:RunP) (k:Nat) (tv:Value) (st:List Bool) (leaf:Nat) (en:Bool) (h:RunM w R k tv st leaf en) (hk:k+2<R.p.length) (hp:R.p.length<=65535) (hn:R.p[k].toNat<R.xs.length) :
  Calls Tryz.prog 176 #[.pointer (some ⟨R.rb,0,none⟩)] w fun e w'=>e=.returned (.tuple #[.int .i64 R.xs[R.p[k].toNat],.int .i64 (Mx.sgn (Mx.two R.p[k+1] R.p[k+2]))])/\RunM w' R (k+3) tv st leaf en/\Below R.rb w w':=by
 have HN:=hide (rnext_any w R k tv st leaf en h (by omega) hp);have hu:=R.p[k].toNat_lt;obtain ⟨u,hue⟩ : ∃ u,u=R.p[k].toNat:=⟨_,rfl⟩;rw [<- hue] at HN hu hn;obtain ⟨x,hx⟩ : ∃ x,x=R.xs[u]:=⟨_,rfl⟩;have hx2:R.xs[R.p[k].toNat]=x:=by rw [hx];congr 1;exact hue.symm
 obtain ⟨tw,htw⟩ : ∃ tw,tw=Mx.two R.p[k+1] R.p[k+2]:=⟨_,rfl⟩;rw [hx2,<- htw];clear h hue hx2;go_enter Tryz.func176,Tryz.ntmps176;go_wp2_with fail;refine HN.out.mono ?_;rintro e w1 ⟨rfl,h1,hb1⟩;have htl:=Mx.two_lt R.p[k+1] R.p[k+2];have CK:Hid (∀ Y,Below w1.heap.size w1 Y->Calls Tryz.prog 173 #[.pointer (some ⟨R.rb,0,none⟩)] Y fun e w'=>e=.returned (.int .i64 (Mx.two R.p[k+1] R.p[k+2]))/\RunM w' R (k+3) tv st leaf en/\Below R.rb w w'):=hide (fun Y hY=>(rnextTwo_any Y R (k+1) tv st leaf en (h1.kept hY) hk hp).mono fun e w' ⟨a1,a2,a3⟩=>⟨a1,a2,hb1.trans ((hY.mono (Nat.le_of_lt h1.lt)).trans a3)⟩);rw [<- htw] at CK htl;obtain ⟨gx,hxa,hgx,hxc⟩:=h1.nums u hn;rw [<- hx] at hxc;have c2:w1.cell? ⟨R.rb,2,none⟩=some (.slice (some ⟨gx,0,none⟩) R.xs.length R.cx):=by rw [<- hxa];exact Lib.cell_of_heap h1.box 2
 have HN2:Hid (∀ W,RunM W R (k+3) tv st leaf en->W.cell? ⟨R.rb,2,none⟩=some (.slice (some ⟨gx,0,none⟩) R.xs.length R.cx)/\W.cell? ⟨gx,u,none⟩=some (.int .i64 x)):=hide (fun W hW=>by
  refine ⟨by rw [<- hxa];exact Lib.cell_of_heap hW.box 2,?_⟩;obtain ⟨g,e1,_,e3⟩:=hW.nums u hn;rw [hxa] at e1
  cases e1
  rw [hx];exact e3)
 have hui:(u:Int)<R.xs.length:=by omega
 have hu0:(0:Int)<=u:=by omega
 have hwu:IntKind.i64.wrap (u:Int)=u:=IntWalk.i64_in _ (by omega);have hwv:wrap64 (u:Int)=u:=IntWalk.wrap64_in _ (by omega);clear h1 hb1 HN hxa hx htw;go_wp2_with fail
 go_region_held3 (fun W=>W.cell? ⟨R.rb,2,none⟩=some (.slice (some ⟨gx,0,none⟩) R.xs.length R.cx)/\W.cell? ⟨gx,u,none⟩=some (.int .i64 x)) (first | go_keep | (exact ⟨by with_reducible assumption,by with_reducible assumption⟩))
  (first
   | (go_at_call 173;refine (CK.out _ ?_).mono ?_;(with_reducible exact bel_d _);rintro e w2 ⟨rfl,h2,hb2⟩;obtain ⟨y2,y3⟩:=HN2.out _ h2)
   | (go_at_call 215;refine (Signed_any _ _ htl).mono ?_;rintro e w3 ⟨rfl,rfl⟩))
 all_goals
  have H2:=hide h2;have HB2:=hide hb2;clear h2 hb2;go_wp2_with fail;refine bodyPost_ret (v:=.tuple #[.int .i64 x,.int .i64 (Mx.sgn tw)]) (by simp [results,Tryz.results176,go_sem]) rfl ?_;exact ⟨rfl,H2.out,HB2.out⟩
theorem aless_any (w:World) (R:RunP) (k:Nat) (tv:Value) (st:List Bool) (leaf:Nat) (en:Bool) (h:RunM w R k tv st leaf en) (hk:k+2<R.p.length) (hp:R.p.length<=65535) (hn:R.p[k].toNat<R.xs.length) (hs:st.length<=900) :
  Calls Tryz.prog 131 #[.pointer (some ⟨R.rb,0,none⟩)] w fun e w'=>ActR w R (k+3,(decide (R.xs[R.p[k].toNat]<Mx.sgn (Mx.two R.p[k+1] R.p[k+2])))::st,leaf,en) e w':=by
 have HA:=hide (rasked_any w R k tv st leaf en h hk hp hn);generalize R.xs[R.p[k].toNat]=x at *;generalize Mx.sgn (Mx.two R.p[k+1] R.p[k+2])=y at *;clear h;go_enter Tryz.func131,Tryz.ntmps131;go_wp2_with fail;refine HA.out.mono ?_;rintro e w1 ⟨rfl,h1,hb1⟩;have HP:=hide (rput_any w1 R (k+3) tv st leaf en (decide (x<y)) h1 (by omega));have HB1:=hide hb1;clear h1 hb1 HA;go_wp2_with fail;refine HP.out.mono ?_;rintro e w2 ⟨tv2,rfl,h2,hb2⟩;have HB2:=hide (HB1.out.trans hb2);have H2:=hide h2;clear h2 hb2 HP;go_wp2_with fail;go_end0;exact ⟨rfl,HB2.out,_,H2.out⟩
theorem asame_any (w:World) (R:RunP) (k:Nat) (tv:Value) (st:List Bool) (leaf:Nat) (en:Bool) (h:RunM w R k tv st leaf en) (hk:k+2<R.p.length) (hp:R.p.length<=65535) (hn:R.p[k].toNat<R.xs.length) (hs:st.length<=900) :
  Calls Tryz.prog 132 #[.pointer (some ⟨R.rb,0,none⟩)] w fun e w'=>ActR w R (k+3,(R.xs[R.p[k].toNat] == Mx.sgn (Mx.two R.p[k+1] R.p[k+2]))::st,leaf,en) e w':=by
 have HA:=hide (rasked_any w R k tv st leaf en h hk hp hn);generalize R.xs[R.p[k].toNat]=x at *;generalize Mx.sgn (Mx.two R.p[k+1] R.p[k+2])=y at *;clear h;go_enter Tryz.func132,Tryz.ntmps132;go_wp2_with fail;refine HA.out.mono ?_;rintro e w1 ⟨rfl,h1,hb1⟩;have HP:=hide (rput_any w1 R (k+3) tv st leaf en (x == y) h1 (by omega));have HB1:=hide hb1;clear h1 hb1 HA;go_wp2_with fail;refine HP.out.mono ?_;rintro e w2 ⟨tv2,rfl,h2,hb2⟩;have HB2:=hide (HB1.out.trans hb2);have H2:=hide h2;clear h2 hb2 HP;go_wp2_with fail;go_end0;exact ⟨rfl,HB2.out,_,H2.out⟩
end
section
open Go.RowKit
attribute [local go_sem ↓] Go.wp_at_zero Go.wp_at_succ
namespace Mx
theorem safe_cases {p:List UInt8} {leaves numbers k c:Nat} (h:Safe p leaves numbers k c) (hk:k<p.length) :
  p[k]=0\/(p[k]=1/\k+2<=p.length)\/(p[k]=2/\k+3<=p.length/\1<=c)\/(p[k]=3/\2<=c)\/(p[k]=4/\2<=c)\/(p[k]=5/\1<=c)\/p[k]=6\/(p[k]=7/\k+4<=p.length/\(p.getD (k+1) 0).toNat<numbers)\/(p[k]=8/\k+4<=p.length/\(p.getD (k+1) 0).toNat<numbers):=by
 have hg:p.getD k 0=p[k]:=by simp [hk]
 have key:∀ s,shapeOf p[k]=some s->k+1+s.width<=p.length->named p leaves numbers k=true->(s.ends=false->s.takes<=c)->p[k]=0\/(p[k]=1/\k+2<=p.length)\/(p[k]=2/\k+3<=p.length/\1<=c)\/(p[k]=3/\2<=c)\/(p[k]=4/\2<=c)\/(p[k]=5/\1<=c)\/p[k]=6\/(p[k]=7/\k+4<=p.length/\(p.getD (k+1) 0).toNat<numbers)\/(p[k]=8/\k+4<=p.length/\(p.getD (k+1) 0).toNat<numbers):=by
  intro s hs hw hn ht;unfold named at hn;rw [hg] at hn;generalize p[k]=b at *;unfold shapeOf at hs
  by_cases h0:b=0
  ·exact .inl h0
  by_cases h1:b=1
  ·subst h1;simp at hs;subst hs;exact .inr (.inl ⟨rfl,hw⟩)
  by_cases h2:b=2
  ·subst h2;simp at hs;subst hs;exact .inr (.inr (.inl ⟨rfl,hw,ht rfl⟩))
  by_cases h3:b=3
  ·subst h3;simp at hs;subst hs;exact .inr (.inr (.inr (.inl ⟨rfl,ht rfl⟩)))
  by_cases h4:b=4
  ·subst h4;simp at hs;subst hs;exact .inr (.inr (.inr (.inr (.inl ⟨rfl,ht rfl⟩))))
  by_cases h5:b=5
  ·subst h5;simp at hs;subst hs;exact .inr (.inr (.inr (.inr (.inr (.inl ⟨rfl,ht rfl⟩)))))
  by_cases h6:b=6
  ·exact .inr (.inr (.inr (.inr (.inr (.inr (.inl h6))))))
  by_cases h7:b=7
  ·subst h7;simp at hs;subst hs
   rw [if_neg (by decide),if_pos (.inl rfl)] at hn;exact .inr (.inr (.inr (.inr (.inr (.inr (.inr (.inl ⟨rfl,hw,by simpa using hn⟩)))))))
  by_cases h8:b=8
  ·subst h8;simp at hs;subst hs
   rw [if_neg (by decide),if_pos (.inr rfl)] at hn;exact .inr (.inr (.inr (.inr (.inr (.inr (.inr (.inr ⟨rfl,hw,by simpa using hn⟩)))))))
  simp [h0,h1,h2,h3,h4,h5,h6,h7,h8] at hs
 cases h with
 | ends _ hs hw hn he=>rw [hg] at hs;exact key _ hs hw hn (fun e=>by rw [he] at e;cases e)
 | goes _ hs hw hc hn _ _ _ _=>rw [hg] at hs;exact key _ hs hw hn (fun _=>hc)
theorem safe_depth {p:List UInt8} {leaves numbers k:Nat} {st:List Bool} {leaf:Nat} {xs:List Int} (h:Safe p leaves numbers k st.length) (hd:st.length<=32):(step p xs k st leaf).2.1.length<=32:=by
 have hk:=safe_lt h;have hg:p.getD k 0=p[k]:=by simp [hk]
 have hc:=safe_cases h hk
 cases h with
 | ends _ hs _ _ he =>
  rw [hg] at hs;rcases hc with e | ⟨e,_⟩ | ⟨e,_⟩ | ⟨e,_⟩ | ⟨e,_⟩ | ⟨e,_⟩ | e | ⟨e,_⟩ | ⟨e,_⟩ <;> rw [e] at hs <;> simp [shapeOf] at hs <;> subst hs <;> simp at he <;> unfold step <;> rw [hg,e] <;> simp <;> exact hd
 | goes _ hs _ _ _ he h32 _ _ =>
  rw [hg] at hs;rcases hc with e | ⟨e,_⟩ | ⟨e,_⟩ | ⟨e,_⟩ | ⟨e,_⟩ | ⟨e,_⟩ | e | ⟨e,_⟩ | ⟨e,_⟩ <;> rw [e] at hs <;> simp [shapeOf] at hs <;> subst hs <;> simp at he h32 <;> unfold step <;> rw [hg,e] <;> simp <;> omega
end Mx
theorem act_any (w:World) (R:RunP) (k:Nat) (tv:Value) (st:List Bool) (leaf leaves numbers:Nat) (h:RunM w R (k+1) tv st leaf false) (hk:k<R.p.length) (hp:R.p.length<=65535) (hs:Mx.Safe R.p leaves numbers k st.length) (hx:R.xs.length=numbers) (hd:st.length<=40) :
  Calls Tryz.prog 86 #[.int .u8 R.p[k].toNat,.pointer (some ⟨R.rb,0,none⟩)] w fun e w'=>ActR w R (Mx.step R.p R.xs k st leaf) e w':=by
 have hg:R.p.getD k 0=R.p[k]:=by simp [hk]
 rcases Mx.safe_cases hs hk with e | ⟨e,h1⟩ | ⟨e,h1,h2⟩ | ⟨e,h2⟩ | ⟨e,h2⟩ | ⟨e,h2⟩ | e | ⟨e,h1,h2⟩ | ⟨e,h1,h2⟩
 ·have HA:=hide (halt_any w R (k+1) tv st leaf false h)
  have hst:Mx.step R.p R.xs k st leaf=(k+1,st,leaf,true):=by unfold Mx.step;rw [hg,e];simp
  rw [hst,e];clear h hs hst hg e;go_enter Tryz.func86,Tryz.ntmps86;go_wp2_with fail;refine HA.out.mono ?_;rintro e w1 ⟨rfl,hr⟩;have HR:=hide hr;clear hr;go_wp2_with fail;go_end0;exact ⟨rfl,HR.out⟩
 ·have HA:=hide (goes_any w R (k+1) tv st leaf false h (by omega) hp)
  have hst:Mx.step R.p R.xs k st leaf=(k+1+1,st,R.p[k+1].toNat,true):=by
   unfold Mx.step;rw [hg,e,show R.p.getD (k+1) 0=R.p[k+1] by simp [show k+1<R.p.length by omega]];simp
  rw [hst,e];clear h hs hst hg e;go_enter Tryz.func86,Tryz.ntmps86;go_wp2_with fail;refine HA.out.mono ?_;rintro e w1 ⟨rfl,hr⟩;have HR:=hide hr;clear hr;go_wp2_with fail;go_end0;exact ⟨rfl,HR.out⟩
 ·cases st with
  | nil=>simp at h2
  | cons b st =>
   have HA:=hide (askip_any w R (k+1) tv st leaf false b h (by omega) hp (by simp at hd;omega));have hst:Mx.step R.p R.xs k (b::st) leaf=(if b then k+1+2 else k+1+2+Mx.two R.p[k+1] R.p[k+1+1],st,leaf,false):=by
    unfold Mx.step;rw [hg,e,show R.p.getD (k+1) 0=R.p[k+1] by simp [show k+1<R.p.length by omega],show R.p.getD (k+2) 0=R.p[k+1+1] by simp [show k+2<R.p.length by omega]];simp
   rw [hst,e];generalize (if b=true then k+1+2 else k+1+2+Mx.two R.p[k+1] R.p[k+1+1])=kk at *;clear h hs hst hg e;go_enter Tryz.func86,Tryz.ntmps86;go_wp2_with fail;refine HA.out.mono ?_;rintro e w1 ⟨rfl,hr⟩;have HR:=hide hr;clear hr;go_wp2_with fail;go_end0;exact ⟨rfl,HR.out⟩
 ·match st,h2 with
  | a::b::st,h2 =>
   have HA:=hide (both_any w R (k+1) tv st leaf false a b h (by simp at hd;omega));have hst:Mx.step R.p R.xs k (a::b::st) leaf=(k+1,(b && a)::st,leaf,false):=by unfold Mx.step;rw [hg,e];simp
   rw [hst,e];clear h hs hst hg e;go_enter Tryz.func86,Tryz.ntmps86;go_wp2_with fail;refine HA.out.mono ?_;rintro e w1 ⟨rfl,hr⟩;have HR:=hide hr;clear hr;go_wp2_with fail;go_end0;exact ⟨rfl,HR.out⟩
 ·match st,h2 with
  | a::b::st,h2 =>
   have HA:=hide (some_any w R (k+1) tv st leaf false a b h (by simp at hd;omega));have hst:Mx.step R.p R.xs k (a::b::st) leaf=(k+1,(b || a)::st,leaf,false):=by unfold Mx.step;rw [hg,e];simp
   rw [hst,e];clear h hs hst hg e;go_enter Tryz.func86,Tryz.ntmps86;go_wp2_with fail;refine HA.out.mono ?_;rintro e w1 ⟨rfl,hr⟩;have HR:=hide hr;clear hr;go_wp2_with fail;go_end0;exact ⟨rfl,HR.out⟩
 ·match st,h2 with
  | a::st,h2 =>
   have HA:=hide (turn_any w R (k+1) tv st leaf false a h (by simp at hd;omega));have hst:Mx.step R.p R.xs k (a::st) leaf=(k+1,(!a)::st,leaf,false):=by unfold Mx.step;rw [hg,e];simp
   rw [hst,e];clear h hs hst hg e;go_enter Tryz.func86,Tryz.ntmps86;go_wp2_with fail;refine HA.out.mono ?_;rintro e w1 ⟨rfl,hr⟩;have HR:=hide hr;clear hr;go_wp2_with fail;go_end0;exact ⟨rfl,HR.out⟩
 ·have HA:=hide (yes_any w R (k+1) tv st leaf false h (by omega))
  have hst:Mx.step R.p R.xs k st leaf=(k+1,true::st,leaf,false):=by unfold Mx.step;rw [hg,e];simp
  rw [hst,e];clear h hs hst hg e;go_enter Tryz.func86,Tryz.ntmps86;go_wp2_with fail;refine HA.out.mono ?_;rintro e w1 ⟨rfl,hr⟩;have HR:=hide hr;clear hr;go_wp2_with fail;go_end0;exact ⟨rfl,HR.out⟩
 ·have g1:R.p.getD (k+1) 0=R.p[k+1]:=by simp [show k+1<R.p.length by omega]
  have g2:R.p.getD (k+2) 0=R.p[k+1+1]:=by simp [show k+2<R.p.length by omega]
  have g3:R.p.getD (k+3) 0=R.p[k+1+2]:=by simp [show k+3<R.p.length by omega]
  rw [g1] at h2;have HA:=hide (aless_any w R (k+1) tv st leaf false h (by omega) hp (by omega) (by omega));have hst:Mx.step R.p R.xs k st leaf=(k+1+3,decide (R.xs[R.p[k+1].toNat]<Mx.sgn (Mx.two R.p[k+1+1] R.p[k+1+2]))::st,leaf,false):=by
   unfold Mx.step;rw [hg,e,g1,g2,g3,show R.xs.getD R.p[k+1].toNat 0=R.xs[R.p[k+1].toNat] by simp [show R.p[k+1].toNat<R.xs.length by omega]];simp
  rw [hst,e];clear h hs hst hg e g1 g2 g3;go_enter Tryz.func86,Tryz.ntmps86;go_wp2_with fail;refine HA.out.mono ?_;rintro e w1 ⟨rfl,hr⟩;have HR:=hide hr;clear hr;go_wp2_with fail;go_end0;exact ⟨rfl,HR.out⟩
 ·have g1:R.p.getD (k+1) 0=R.p[k+1]:=by simp [show k+1<R.p.length by omega]
  have g2:R.p.getD (k+2) 0=R.p[k+1+1]:=by simp [show k+2<R.p.length by omega]
  have g3:R.p.getD (k+3) 0=R.p[k+1+2]:=by simp [show k+3<R.p.length by omega]
  rw [g1] at h2;have HA:=hide (asame_any w R (k+1) tv st leaf false h (by omega) hp (by omega) (by omega));have hst:Mx.step R.p R.xs k st leaf=(k+1+3,(R.xs[R.p[k+1].toNat] == Mx.sgn (Mx.two R.p[k+1+1] R.p[k+1+2]))::st,leaf,false):=by
   unfold Mx.step;rw [hg,e,g1,g2,g3,show R.xs.getD R.p[k+1].toNat 0=R.xs[R.p[k+1].toNat] by simp [show R.p[k+1].toNat<R.xs.length by omega]];simp
  rw [hst,e];clear h hs hst hg e g1 g2 g3;go_enter Tryz.func86,Tryz.ntmps86;go_wp2_with fail;refine HA.out.mono ?_;rintro e w1 ⟨rfl,hr⟩;have HR:=hide hr;clear hr;go_wp2_with fail;go_end0;exact ⟨rfl,HR.out⟩
theorem Run_any (w:World) (gp cp:Nat) (p:List UInt8) (xa:Option Addr) (cx:Nat) (xs:List Int) (leaf leaves numbers:Nat) (hg:gp<w.heap.size) (hpr:∀ j (hj:j<p.length),w.cell? ⟨gp,j,none⟩=some (.int .u8 (p[j].toNat:Int))) (hnm:∀ j (hj:j<xs.length),∃ g,xa=some ⟨g,0,none⟩/\g<w.heap.size/\w.cell? ⟨g,j,none⟩=some (.int .i64 xs[j]))
  (hp:p.length<=65535) (hs:Mx.Safe p leaves numbers 0 0) (hx:xs.length=numbers) (hl:leaf<leaves) :
  Calls Tryz.prog 56 #[.slice (some ⟨gp,0,none⟩) p.length cp,.slice xa xs.length cx,.int .i64 leaf] w fun e w'=>e=.returned (.int .i64 (Mx.run p xs leaf))/\Below w.heap.size w w':=by
 subst hx;obtain ⟨R,hR⟩ : ∃ R:RunP,R=⟨w.heap.size,gp,cp,xa,cx,p,xs⟩:=⟨_,rfl⟩;have hX:=heap_alloc_new w (.cells (rnC ⟨w.heap.size,gp,cp,xa,cx,p,xs⟩ 0 (.slice none 0 0) leaf false) 178);have hbX:=bel_a w (.cells (rnC ⟨w.heap.size,gp,cp,xa,cx,p,xs⟩ 0 (.slice none 0 0) leaf false) 178)
 have HX:Hid (RunM (w.alloc (.cells (rnC ⟨w.heap.size,gp,cp,xa,cx,p,xs⟩ 0 (.slice none 0 0) leaf false) 178)) R 0 (.slice none 0 0) [] leaf false):=hide (by
  rw [hR]
  exact ⟨hX,hg,fun j hj=>(hbX.cell (p:=⟨gp,j,none⟩) hg).trans (hpr j hj),fun j hj=>by
   obtain ⟨g,e1,e2,e3⟩:=hnm j hj
   exact ⟨g,e1,e2,(hbX.cell (p:=⟨g,j,none⟩) e2).trans e3⟩,World.ownsRow_nil _ _ _ _⟩)
 have HBX:=hide hbX;have e1:R.p=p:=by rw [hR]
 have e2:R.xs=xs:=by rw [hR]
 have e3:R.rb=w.heap.size:=by rw [hR]
 have HS:=hide hs;clear hX hbX hnm hpr hs hR;subst e1;subst e2;unfold rnC at HX HBX;go_enter Tryz.func56,Tryz.ntmps56;go_wp2_with fail;generalize w.alloc (.cells #[.slice (some ⟨gp,0,none⟩) R.p.length cp,.int .i64 0,.slice xa R.xs.length cx,.slice none 0 0,.int .i64 leaf,.bool false] 178)=X at *
 go_loopg [] R.p.length (fun m wr=>Below w.heap.size w wr/\∃ f k tv st l en,f=m/\RunM wr R k tv st l en/\((en=true/\Mx.run R.p R.xs leaf=l)\/(en=false/\Mx.run R.p R.xs leaf=Mx.runF R.p R.xs f k st l/\R.p.length<=f+k/\Mx.Safe R.p leaves R.xs.length k st.length/\l<leaves/\st.length<=32)))
 case atStart=>exact ⟨HBX.out,_,0,_,[],leaf,false,rfl,HX.out,.inr ⟨rfl,rfl,by omega,HS.out,hl,by simp⟩⟩
 case round =>
  obtain ⟨hbr,f,k,tv,st,l,en,hfm,hm,hcase⟩:=hrel;have c5:wr.cell? ⟨w.heap.size,5,none⟩=some (.bool en):=by rw [<- e3];exact Lib.cell_of_heap hm.box 5
  have HB:=hide hbr;rcases hcase with ⟨rfl,hrun⟩ | ⟨rfl,hrun,hf,hsf,hll,hd⟩
  ·have c4:wr.cell? ⟨w.heap.size,4,none⟩=some (.int .i64 l):=by rw [<- e3];exact Lib.cell_of_heap hm.box 4
   have HR:=hide hrun;clear hm hrun hbr;go_wp2_with fail;go_ret;exact ⟨by rw [HR.out];rfl,HB.out⟩
  ·have hk:=Mx.safe_lt hsf
   have HN:=hide (rnext_any wr R k tv st l false hm hk hp);have HA:Hid (∀ w1,RunM w1 R (k+1) tv st l false->Calls Tryz.prog 86 #[.int .u8 R.p[k].toNat,.pointer (some ⟨R.rb,0,none⟩)] w1 fun e w'=>ActR w1 R (Mx.step R.p R.xs k st l) e w'):=hide (fun w1 h1=>act_any w1 R k tv st l leaves R.xs.length h1 hk hp hsf rfl (by omega));have hss:=Mx.safe_step (xs:=R.xs) hsf hll;have hdd:=Mx.safe_depth (xs:=R.xs) (leaf:=l) hsf hd;simp only at hss;obtain ⟨ff,hff⟩ : ∃ ff,f=ff+1:=⟨f-1,by omega⟩;subst hff;have hrf:Mx.runF R.p R.xs (ff+1) k st l=if (Mx.step R.p R.xs k st l).2.2.2 then (Mx.step R.p R.xs k st l).2.2.1 else Mx.runF R.p R.xs ff (Mx.step R.p R.xs k st l).1 (Mx.step R.p R.xs k st l).2.1 (Mx.step R.p R.xs k st l).2.2.1:=rfl;rw [hrf] at hrun;have HRN:=hide hrun;have HSS:=hide hss;have HDD:=hide hdd;rw [e3] at HN HA;clear hrun hrf hss hdd hsf hm hbr;generalize Mx.step R.p R.xs k st l=q at *;obtain ⟨k2,st2,l2,en2⟩:=q;simp only at HRN HSS HDD;generalize R.p[k].toNat=u at *;go_wp2_with fail;refine HN.out.mono ?_;rintro e w1 ⟨rfl,h1,hb1⟩;have HA1:=hide (HA.out w1 h1);have HB1:=hide hb1;clear h1 hb1 HA HN;go_wp2_with fail;refine HA1.out.mono ?_;rintro e w2 ⟨rfl,hb2,tv2,h2⟩;have HB2:Hid (Below w.heap.size w w2):=hide (HB.out.trans (HB1.out.trans (by rw [e3] at hb2;exact hb2)));have H2:=hide h2;clear hb2 h2 HA1;go_wp2_with fail
   cases en2 with
   | true =>
    go_roundg 0
    case measure=>omega
    case rel=>exact ⟨HB2.out,0,k2,tv2,st2,l2,true,rfl,H2.out,.inl ⟨rfl,by rw [HRN.out];rfl⟩⟩
   | false =>
    go_roundg ff
    case measure=>omega
    case rel=>exact ⟨HB2.out,ff,k2,tv2,st2,l2,false,rfl,H2.out,.inr ⟨rfl,by rw [HRN.out];rfl,by have:=HSS.out.2.1;omega,HSS.out.2.2 rfl,HSS.out.1,HDD.out⟩⟩
end
section
open Go.RowKit
attribute [local go_sem ↓] Go.wp_at_zero Go.wp_at_succ
def SlI (w:World) (sa:Option Addr) (xs:List Int):Prop:=∀ i (hi:i<xs.length),∃ g o,sa=some ⟨g,o,none⟩/\g<w.heap.size/\w.cell? ⟨g,o+i,none⟩=some (.int .i64 xs[i])
theorem SlI.below {w w':World} {sa:Option Addr} {xs:List Int} (h:SlI w sa xs) (hb:Below w.heap.size w w'):SlI w' sa xs:=fun i hi=>by
 obtain ⟨g,o,e,hg,hc⟩:=h i hi;exact ⟨g,o,e,Nat.lt_of_lt_of_le hg hb.size,(hb.cell (p:=⟨g,o+i,none⟩) hg).trans hc⟩
def AhM (w:World) (mb:Nat) (v:Value) (o:Option (List Int)):Prop:=(v=.slice none 0 0/\(o=none\/o=some []))\/∃ g cap l,v=.slice (some ⟨g,0,none⟩) l.length cap/\o=some l/\mb<g/\g<w.heap.size/\∀ i (hi:i<l.length),w.cell? ⟨g,i,none⟩=some (.int .i64 l[i])
structure MaP where
 c:Nat
 mb:Nat
 av:Option Addr
 cv:Nat
 al:Option Addr
 cl:Nat
 im:Mx.Img
def maC (M:MaP) (a:Nat) (vh:Value):Array Value:=#[.slice M.av M.im.vars.length M.cv,.slice M.al M.im.leaves.length M.cl,.int .i64 M.im.first,.int .i64 a,vh]
structure MaM (w:World) (M:MaP) (s:Mx.Mst) (vh:Value):Prop where
 box:w.heap[M.mb]? = some (.cells (maC M s.at_ vh) 108 (0,0))
 im:ImM w M.c M.av M.al M.im
 le:M.c<=M.mb
 at_:s.at_<M.im.leaves.length
 ah:AhM w M.mb vh s.ahead
 wide:∀ l,s.ahead=some l->l.length=M.im.vars.length
theorem AhM.kept {w w':World} {mb:Nat} {v:Value} {o:Option (List Int)} (h:AhM w mb v o) (hk:Kp (fun k=>k=mb) w w'):AhM w' mb v o:=by
 rcases h with h | ⟨g,cap,l,e1,e2,h1,h2,h3⟩
 ·exact .inl h
 ·exact .inr ⟨g,cap,l,e1,e2,h1,Nat.lt_of_lt_of_le h2 hk.size,fun i hi=>(hk.cell h2 (by omega)).trans (h3 i hi)⟩
theorem MaM.kept {w w':World} {M:MaP} {s:Mx.Mst} {vh:Value} (h:MaM w M s vh) (hb:Below w.heap.size w w'):MaM w' M s vh :=
 ⟨(hb.block M.mb (Array.getElem?_eq_some_iff.1 h.box).1).trans h.box,h.im.kept (Kp.ofBelow (F:=fun _=>False) hb) (fun _ _ _ _ _ _ _=>id),h.le,h.at_,h.ah.kept (Kp.ofBelow hb),h.wide⟩
theorem MaM.lt {w:World} {M:MaP} {s:Mx.Mst} {vh:Value} (h:MaM w M s vh):M.mb<w.heap.size:=(Array.getElem?_eq_some_iff.1 h.box).1
theorem MaM.set2 {w:World} {M:MaP} {s:Mx.Mst} {vh:Value} (h:MaM w M s vh) (s':Mx.Mst) (vh':Value) (hs:s'.at_<M.im.leaves.length) (ha:AhM w M.mb vh' s'.ahead) (hw:∀ l,s'.ahead=some l->l.length=M.im.vars.length) :
  MaM ((w.setCell ⟨M.mb,3,none⟩ (.int .i64 s'.at_)).setCell ⟨M.mb,4,none⟩ vh') M s' vh'/\Kp (fun k=>k=M.mb) w ((w.setCell ⟨M.mb,3,none⟩ (.int .i64 s'.at_)).setCell ⟨M.mb,4,none⟩ vh'):=by
 have hk:Kp (fun k=>k=M.mb) w ((w.setCell ⟨M.mb,3,none⟩ (.int .i64 s'.at_)).setCell ⟨M.mb,4,none⟩ vh'):=(kp_set w M.mb 3 _).trans (kp_set _ M.mb 4 _) (fun k h=>.inl h);refine ⟨⟨?_,h.im.kept hk (fun g _ _ _ hg _ _ e=>by have:=h.le;omega),h.le,hs,ha.kept hk,hw⟩,hk⟩;exact set_heap (o:=4) (set_heap (o:=3) h.box)
theorem Reset_any (w:World) (M:MaP) (s:Mx.Mst) (vh:Value) (h:MaM w M s vh) (hf:M.im.first<M.im.leaves.length) :
  Calls Tryz.prog 35 #[.pointer (some ⟨M.mb,0,none⟩)] w fun e w'=>e=.returned (.tuple #[])/\MaM w' M ⟨M.im.first,none⟩ (.slice none 0 0)/\Kp (fun k=>k=M.mb) w w':=by
 have c2:w.cell? ⟨M.mb,2,none⟩=some (.int .i64 M.im.first):=Lib.cell_of_heap h.box 2;have c3:w.cell? ⟨M.mb,3,none⟩=some (.int .i64 s.at_):=Lib.cell_of_heap h.box 3;have f3:w.frozen? ⟨M.mb,3,none⟩=false:=Lib.frozen_of_heap h.box 3;have hb1:=set_heap (o:=3) (v:=.int .i64 M.im.first) h.box;have c4:(w.setCell ⟨M.mb,3,none⟩ (.int .i64 M.im.first)).cell? ⟨M.mb,4,none⟩=some vh:=Lib.cell_of_heap hb1 4;have f4:(w.setCell ⟨M.mb,3,none⟩ (.int .i64 M.im.first)).frozen? ⟨M.mb,4,none⟩=false:=Lib.frozen_of_heap hb1 4;have HS:=hide (h.set2 ⟨M.im.first,none⟩ (.slice none 0 0) hf (.inl ⟨rfl,.inl rfl⟩) (fun _ e=>by cases e));clear h hb1;go_enter Tryz.func35,Tryz.ntmps35;go_wp2_with fail;go_end0;exact ⟨rfl,HS.out.1,HS.out.2⟩
theorem Mode_any (w:World) (M:MaP) (s:Mx.Mst) (vh:Value) (h:MaM w M s vh) (hn:(M.im.leaf s.at_).1.length<=8) :
  Calls Tryz.prog 25 #[.pointer (some ⟨M.mb,0,none⟩)] w fun e w'=>e=.returned (.string (bstr (M.im.leaf s.at_).1))/\Below w.heap.size w w':=by
 have hat:=h.at_;have c1:w.cell? ⟨M.mb,1,none⟩=some (.slice M.al M.im.leaves.length M.cl):=Lib.cell_of_heap h.box 1;have c3:w.cell? ⟨M.mb,3,none⟩=some (.int .i64 s.at_):=Lib.cell_of_heap h.box 3;obtain ⟨g,cur,hal,hg,hgh,hc⟩:=h.im.leaves (by omega);have d0:w.cell? ⟨g,s.at_*2,none⟩=some (.string (bstr (M.im.leaf s.at_).1)):=by
  rw [Mx.Img.leaf_at hat];exact (Lib.cell_of_heap hgh (s.at_*2)).trans (hc s.at_ hat).1
 rw [hal] at c1;have hz:=bstr_size (M.im.leaf s.at_).1;obtain ⟨nm,hnm⟩ : ∃ nm,nm=bstr (M.im.leaf s.at_).1:=⟨_,rfl⟩;rw [<- hnm] at d0 hz |-;have hml:=h.lt;have hgl:=(Array.getElem?_eq_some_iff.1 hgh).1;have hai:(s.at_:Int)<M.im.leaves.length:=by omega
 have ha0:(0:Int)<=s.at_:=by omega
 clear hal hgh hc h hnm;have HCL:=hide (fun W=>Clone_any W nm (by omega));go_enter Tryz.func25,Tryz.ntmps25;go_wp2_with fail
 go_region_held3 (fun W=>W.cell? ⟨M.mb,1,none⟩=some (.slice (some ⟨g,0,none⟩) M.im.leaves.length M.cl)/\W.cell? ⟨M.mb,3,none⟩=some (.int .i64 s.at_)/\W.cell? ⟨g,s.at_*2,none⟩=some (.string nm)) (first | go_keep | (exact ⟨by with_reducible assumption,by with_reducible assumption,by with_reducible assumption⟩))
  (first | (go_at_call 54;refine (HCL.out _).mono ?_;rintro e w1 ⟨rfl,hb1⟩;have z1:=(hb1.cell (p:=⟨M.mb,1,none⟩) hml).trans c1;have z3:=(hb1.cell (p:=⟨M.mb,3,none⟩) hml).trans c3;have z0:=(hb1.cell (p:=⟨g,s.at_*2,none⟩) hgl).trans d0))
 all_goals
  have HB:=hide ((below_d w).trans (hb1.mono (below_d w).size));clear hb1 z1 z3 z0;go_wp2_with fail;go_ret;exact ⟨rfl,HB.out⟩
theorem zip_at {vs:List (Int×Int)} {xs:List Int} (f:(Int×Int)×Int->Bool) (i:Nat) (hi:i<vs.length) (hx:i<xs.length):((vs.zip xs).drop i).all f=(f (vs[i],xs[i]) && ((vs.zip xs).drop (i+1)).all f):=by
 rw [List.drop_eq_getElem_cons (show i<(vs.zip xs).length by simp;omega)];simp
theorem isSample_any (w:World) (M:MaP) (s:Mx.Mst) (vh:Value) (sa:Option Addr) (cs:Nat) (xs:List Int) (h:MaM w M s vh) (hx:SlI w sa xs) (hv3:M.im.vars.length<=3) :
  Calls Tryz.prog 55 #[.pointer (some ⟨M.mb,0,none⟩),.slice sa xs.length cs] w fun e w'=>e=.returned (.bool (Mx.isSample M.im.vars xs))/\Below w.heap.size w w':=by
 have c0:w.cell? ⟨M.mb,0,none⟩=some (.slice M.av M.im.vars.length M.cv):=Lib.cell_of_heap h.box 0;have HIM:=hide h.im;have HX:=hide hx;have hmc:=h.le;have hml:=h.lt;clear h hx
 by_cases hl:xs.length=M.im.vars.length
 ·have HS:Hid (Mx.isSample M.im.vars xs=((M.im.vars.zip xs).drop 0).all fun q=>decide (q.1.1<=q.2) && decide (q.2<=q.1.2)):=hide (by unfold Mx.isSample;simp [hl])
  obtain ⟨ans,hans⟩ : ∃ ans,ans=Mx.isSample M.im.vars xs:=⟨_,rfl⟩;rw [<- hans] at HS |-;clear hans;have hle:((xs.length:Int) != M.im.vars.length)=false:=by simp [hl]
  have HL:=hide hl;clear hl;go_enter Tryz.func55,Tryz.ntmps55;go_wp2_with fail;clear c0
  go_loopg [22] (M.im.vars.length) (fun k v22 wr=>∃ i:Nat,i+k=M.im.vars.length/\v22=.int .i64 i/\Below w.heap.size w wr/\ans=((M.im.vars.zip xs).drop i).all fun q=>decide (q.1.1<=q.2) && decide (q.2<=q.1.2))
  case atStart=>exact ⟨0,by omega,rfl,Below.refl _ _,HS.out⟩
  case round =>
   obtain ⟨i,hi,rfl,hbr,hrs⟩:=hrel;have HB:=hide hbr;have hsz:=hbr.size
   by_cases hlt:i<M.im.vars.length
   ·have hii:(i:Int)<M.im.vars.length:=by omega
    have hix:(i:Int)<xs.length:=by rw [HL.out];exact hii
    have hi0:(0:Int)<=i:=by omega
    obtain ⟨gv,cur,hav,hgv,hgh,hcv⟩:=(HIM.out.below (hbr.mono (by omega))).vars (by omega);have v0:wr.cell? ⟨gv,i*2,none⟩=some (.int .i64 M.im.vars[i].1):=(Lib.cell_of_heap hgh (i*2)).trans (hcv i hlt).1;have v1:wr.cell? ⟨gv,i*2+1,none⟩=some (.int .i64 M.im.vars[i].2):=(Lib.cell_of_heap hgh (i*2+1)).trans (hcv i hlt).2;obtain ⟨gs,o,hsa,hgs,hgx⟩:=HX.out i (by rw [HL.out];exact hlt);have hZ:=zip_at (fun q=>decide (q.1.1<=q.2) && decide (q.2<=q.1.2)) i hlt (show i<xs.length by rw [HL.out];exact hlt);rw [hZ] at hrs;simp only at hrs;obtain ⟨lo,hlo⟩ : ∃ lo,lo=M.im.vars[i].1:=⟨_,rfl⟩;obtain ⟨hi',hhi⟩ : ∃ hi',hi'=M.im.vars[i].2:=⟨_,rfl⟩;have hixn:i<xs.length:=by rw [HL.out];exact hlt
    obtain ⟨x,hxe⟩ : ∃ x,x=xs[i]:=⟨_,rfl⟩;rw [<- hlo,<- hhi,<- hxe] at hrs;rw [<- hlo] at v0;rw [<- hhi] at v1;rw [<- hxe] at hgx;have x0:(wr.alloc (.cells #[.int .i64 lo,.int .i64 hi'] 168)).cell? ⟨gs,o+i,none⟩=some (.int .i64 x):=((below_a wr _).cell (p:=⟨gs,o+i,none⟩) (by show gs<_;omega)).trans ((hbr.cell (p:=⟨gs,o+i,none⟩) hgs).trans hgx);have hnew:=heap_alloc_new wr (.cells #[.int .i64 lo,.int .i64 hi'] 168);have y0:(wr.alloc (.cells #[.int .i64 lo,.int .i64 hi'] 168)).cell? ⟨wr.heap.size,0,none⟩=some (.int .i64 lo):=Lib.cell_of_heap hnew 0;have y1:(wr.alloc (.cells #[.int .i64 lo,.int .i64 hi'] 168)).cell? ⟨wr.heap.size,1,none⟩=some (.int .i64 hi'):=Lib.cell_of_heap hnew 1;have HRS:=hide hrs;have HB2:=hide (HB.out.alloc HB.out.size (.cells #[.int .i64 lo,.int .i64 hi'] 168)).drew;rw [hav,hsa];have HAV:=hide hav;have HSA:=hide hsa;clear hgh hcv hnew hZ hrs hlo hhi hxe hbr hav hsa hgx
    by_cases hc1:x<lo
    ·have HA:Hid (ans=false):=hide (by rw [HRS.out,decide_eq_false (by omega)];rfl)
     go_upto_region 6 with (fail);refine wp_region_held_drew (S:=fun Y=>Y.cell? ⟨gs,o+i,none⟩=some (.int .i64 x)/\Y.cell? ⟨wr.heap.size,0,none⟩=some (.int .i64 lo)) (by kernel_rfl) ⟨x0,y0⟩ (fun hHeld=>?_);refine tkR 0 rfl ?_ ?_ hHeld ?_;rotate_left
     ·intro w hSw;(try dsimp only at hSw);go_simp;(try with_reducible rfl)
     (try simp only [Act.put,qA,qB,qC,qD,qE])
     refine tkR 1 rfl ?_ ?_ hHeld ?_;rotate_left
     ·intro w hSw;(try dsimp only at hSw);go_simp;(try with_reducible rfl)
     (try simp only [Act.put,qA,qB,qC,qD,qE,qF])
     refine tkR 2 rfl ?_ ?_ hHeld ?_;rotate_left
     ·intro w hSw;(try dsimp only at hSw);go_simp;(try with_reducible rfl)
     (try simp only [Act.put,qA,qB,qC,qD,qE,qF])
     refine tkR 3 rfl ?_ ?_ hHeld ?_;rotate_left
     ·intro w hSw;(try dsimp only at hSw);go_simp;(try with_reducible rfl)
     (try simp only [Act.put,qA,qB,qC,qD,qE,qF])
     refine tkR 4 rfl ?_ ?_ hHeld ?_;rotate_left
     ·intro w hSw;(try dsimp only at hSw);go_simp;(try with_reducible rfl)
     (try simp only [Act.put,qA,qB,qC,qD,qE,qF])
     refine tkR 5 rfl ?_ ?_ hHeld ?_;rotate_left
     ·intro w hSw;(try dsimp only at hSw);go_simp;(try with_reducible rfl)
     (try simp only [Act.put,qA,qB,qC,qD,qE,qF])
     refine tkR 6 rfl (.bool true) ?_ hHeld ?_
     ·intro w hSw;(try dsimp only at hSw);go_simp;(try simp);(try omega)
     (try simp only [Act.put,qA,qB,qC,qD,qE,qF])
     refine tkR 7 rfl ?_ ?_ hHeld ?_;rotate_left
     ·intro w hSw;(try dsimp only at hSw);go_simp;(try with_reducible rfl)
     (try simp only [Act.put,qA,qB,qC,qD,qE,qF])
     refine skR 8 rfl hHeld ?_
     (try simp only [Act.put,qA,qB,qC,qD,qE,qF])
     refine skR 9 rfl hHeld ?_
     (try simp only [Act.put,qA,qB,qC,qD,qE,qF])
     refine skR 10 rfl hHeld ?_
     (try simp only [Act.put,qA,qB,qC,qD,qE,qF])
     refine skR 11 rfl hHeld ?_
     (try simp only [Act.put,qA,qB,qC,qD,qE,qF])
     refine skR 12 rfl hHeld ?_
     (try simp only [Act.put,qA,qB,qC,qD,qE,qF])
     refine skR 13 rfl hHeld ?_
     (try simp only [Act.put,qA,qB,qC,qD,qE,qF])
     refine skR 14 rfl hHeld ?_
     (try simp only [Act.put,qA,qB,qC,qD,qE,qF])
     refine tkR 15 rfl ?_ ?_ hHeld ?_;rotate_left
     ·intro w hSw;(try dsimp only at hSw);go_simp;(try with_reducible rfl)
     (try simp only [Act.put,qA,qB,qC,qD,qE,qF])
     refine wpAnyH_done (by kernel_rfl) ?_ _;go_wp2_with fail;go_ret;exact ⟨by rw [HA.out];rfl,HB2.out⟩
    ·have hc1':¬ x<lo:=hc1
     go_upto_region 6 with (fail)
     go_region_held3 (fun W=>W.cell? ⟨gs,o+i,none⟩=some (.int .i64 x)/\W.cell? ⟨wr.heap.size,0,none⟩=some (.int .i64 lo)/\W.cell? ⟨wr.heap.size,1,none⟩=some (.int .i64 hi')) (first | go_keep | (exact ⟨by with_reducible assumption,by with_reducible assumption,by with_reducible assumption⟩)) (fail)
     all_goals
      by_cases hc2:hi'<x
      ·have HA:Hid (ans=false):=hide (by rw [HRS.out,decide_eq_true (by omega),decide_eq_false (by omega)];rfl)
       go_wp2_with fail;go_ret;exact ⟨by rw [HA.out];rfl,HB2.out⟩
      ·have HA:=hide (show ans=((M.im.vars.zip xs).drop (i+1)).all fun q=>decide (q.1.1<=q.2) && decide (q.2<=q.1.2) by rw [HRS.out,decide_eq_true (by omega),decide_eq_true (by omega)];simp)
       go_wp2_with fail;rw [<- HAV.out,<- HSA.out]
       go_roundg (M.im.vars.length-(i+1))
       case measure=>omega
       case rel=>exact ⟨i+1,by omega,by go_num,HB2.out,HA.out⟩
   ·obtain rfl:i=M.im.vars.length:=by omega
    have HA:Hid (ans=true):=hide (by rw [hrs,List.drop_of_length_le (by simp;omega)];rfl);clear hrs;go_wp2_with fail;go_ret;exact ⟨by rw [HA.out];rfl,HB.out⟩
 ·have hle:((xs.length:Int) != M.im.vars.length)=true:=by simp;omega
  have HA:Hid (Mx.isSample M.im.vars xs=false):=hide (by unfold Mx.isSample;simp [hl]);go_enter Tryz.func55,Tryz.ntmps55;go_wp2_with fail;go_ret;exact ⟨by rw [HA.out];rfl,Below.refl _ _⟩
end
section
open Go.RowKit
attribute [local go_sem ↓] Go.wp_at_zero Go.wp_at_succ
theorem Tryz.infoIntT2:(Tryz.prog.info? 3).map (fun i=>(i.zero,i.size,i.bytes))=some (some (.int .i64 0),1,8):=by kernel_rfl
theorem Grow_any (w:World) (n:Nat) (h0:0<n) (hn:n<=1000) :
  Calls Tryz.prog 88 #[.slice none 0 0,.int .i64 n] w fun e w'=>∃ v,e=.returned v/\w'.ownsRow w.heap.size 3 1 v 0 []/\Below w.heap.size w w':=by
 have hni:¬ (n:Int)<0:=by omega
 have hnp:(0:Int)<n:=by omega
 obtain ⟨i0,hi0,hz0,hz1,hz2⟩:=info_parts Tryz.infoIntT2;have hrun:=fun ty=>Lib.run_append_nil_zeros (P:=Tryz.prog) w 32 3 ty 3 i0 (.int .i64 0) .i64 .i64 Tryz.underlying32 Tryz.underlying3 hi0 hz0 n h0 (by rw [hz1];decide) (by omega) (by rw [hz2];omega)
 have hcap:=grownCap_ge w n 0 3;have hcm:=grownCap_le_maxLen w n 0 3 (by unfold maxLen;omega);generalize grownCap w n 0 3=cap at *;go_enter Tryz.func88,Tryz.ntmps88;go_wp2_with (at_builtin;refine Lib.wpList_append_run _ rfl _ _ _ _ rfl _ _ rfl rfl _ _ (hrun _) ?_);go_ret;refine ⟨_,rfl,?_,below_ad _ _⟩;exact World.ownsRow_made w _ cap (Nat.le_refl _) hcm (by simp [size_zeroCells];omega)
theorem Grow0_any (w:World) :
  Calls Tryz.prog 88 #[.slice none 0 0,.int .i64 0] w fun e w'=>∃ v,e=.returned v/\w'.ownsRow w.heap.size 3 1 v 0 []/\Below w.heap.size w w':=by
 go_enter Tryz.func88,Tryz.ntmps88;go_wp2_with fail;go_ret;exact ⟨_,rfl,World.ownsRow_nil _ _ _ _,Below.refl _ _⟩
theorem app_ints (W:World) (base n:Nat) (v:Value) (xs:List Value) (ho:W.ownsRow base 3 1 v n xs) (hb:base<=W.heap.size) (sa:Option Addr) (l:List Int) (c:Nat) (h:SlI W sa l) (hz:sa=none->c=0) (hn:n+l.length<=1000) :
  ∃ v' w',(Builtin.append_ #[32,32] 32 #[v,.slice sa l.length c]).run Tryz.prog W=.ok v' w'/\w'.ownsRow base 3 1 v' (n+l.length) (xs++l.map (.int .i64))/\Below base W w':=by
 obtain ⟨i0,hi0,hz0,hz1,hz2⟩:=info_parts Tryz.infoIntT2
 cases sa with
 | none =>
  have hl:l=[]:=by
   cases l with
   | nil=>rfl
   | cons a t=>obtain ⟨g,o,e,_⟩:=h 0 (by simp);cases e
  subst hl;obtain rfl:=hz rfl;exact ⟨v,W,run_append_owned_none (P:=Tryz.prog) W base 32 32 3 i0 1 Tryz.underlying32 hi0 v n xs ho,by simpa using ho,Below.refl _ _⟩
 | some ad =>
  obtain ⟨v',w',hr,h2,h3,h4,h5⟩:=run_append_own_at (P:=Tryz.prog) W base 32 32 3 i0 (.int .i64 0) 1 8 Tryz.underlying32 hi0 hz0 hz1 hz2 rfl (by decide) v n xs ho ad l.length c (l.map (.int .i64)) (by simp) (fun j u hu=>by
   rw [List.getElem?_map] at hu
   cases hj:l[j]? with
   | none=>rw [hj] at hu;cases hu
   | some x =>
    rw [hj] at hu
    cases hu
    obtain ⟨hjl,hje⟩:=List.getElem?_eq_some_iff.1 hj;obtain ⟨g,o,e,hg,hc⟩:=h j hjl
    cases e
    rw [hje] at hc;have e2:((⟨g,o,none⟩ : Addr).add j)=⟨g,o+j,none⟩:=by simp [Addr.add]
    rw [e2];exact hc) (fun u hu=>by
   obtain ⟨x,_,rfl⟩:=List.mem_map.1 hu
   rfl) (by unfold maxLen;omega) (by omega) hb
  refine ⟨v',w',hr,h2,⟨h3.os,h3.tape,h3.output,h3.size,fun k hk=>h3.block k (by omega) (fun e=>?_)⟩⟩;have:=(ho.lt k e.symm).1;omega
theorem Concat_any (w:World) (g0 cg:Nat) (a1 a2:Option Addr) (l1 l2:List Int) (c1 c2:Nat) (hg0:g0<w.heap.size) (x1:w.cell? ⟨g0,0,none⟩=some (.slice a1 l1.length c1)) (x2:w.cell? ⟨g0,1,none⟩=some (.slice a2 l2.length c2)) (h1:SlI w a1 l1) (h2:SlI w a2 l2) (n1:l1.length<=400) (n2:l2.length<=400) (z1:a1=none->c1=0) (z2:a2=none->c2=0) :
  Calls Tryz.prog 57 #[.slice (some ⟨g0,0,none⟩) 2 cg] w fun e w'=>∃ v,e=.returned v/\w'.ownsRow w.heap.size 3 1 v (l1.length+l2.length) ((l1++l2).map (.int .i64))/\Below w.heap.size w w':=by
 have H1:=hide h1;have H2:=hide h2;clear h1 h2;go_enter Tryz.func57,Tryz.ntmps57;go_wp2_with fail
 go_loopg [3,11] 2 (fun k v3 v11 wr=>wr=w/\((k=2/\v3=.int .i64 0/\v11=.int .i64 0)\/(k=1/\v3=.int .i64 l1.length/\v11=.int .i64 1)\/(k=0/\v3=.int .i64 (l1.length+l2.length:Int)/\v11=.int .i64 2)))
 case atStart=>exact ⟨rfl,.inl ⟨rfl,rfl,rfl⟩⟩
 case round =>
  obtain ⟨rfl,hcase⟩:=hrel;have p1:¬ (l1.length:Int)<0:=by omega
  have p2:¬ (l1.length:Int)+l2.length<0:=by omega
  rcases hcase with ⟨hk,rfl,rfl⟩ | ⟨hk,rfl,rfl⟩ | ⟨hk,rfl,rfl⟩
  ·go_wp2_with fail
   go_roundg 1
   case measure=>omega
   case rel=>exact ⟨rfl,.inr (.inl ⟨rfl,rfl,rfl⟩)⟩
  ·go_wp2_with fail
   go_roundg 0
   case measure=>omega
   case rel=>exact ⟨rfl,.inr (.inr ⟨rfl,rfl,rfl⟩)⟩
  ·obtain ⟨wo,rfl⟩ : ∃ wo,wo=wr:=⟨wr,rfl⟩
   have HG:Hid (Calls Tryz.prog 88 #[.slice none 0 0,.int .i64 ((l1.length:Int)+l2.length)] wo fun e w'=>∃ v,e=.returned v/\w'.ownsRow wo.heap.size 3 1 v 0 []/\Below wo.heap.size wo w'):=hide (by
    by_cases h0:l1.length+l2.length=0
    ·have e:(l1.length:Int)+l2.length=0:=by omega
     rw [e];exact Grow0_any wo
    ·have:=Grow_any wo (l1.length+l2.length) (by omega) (by omega)
     rw [Int.natCast_add] at this
     exact this)
   go_wp2_with fail;refine HG.out.mono ?_;rintro e w1 ⟨v1,rfl,ho1,hb1⟩;obtain ⟨a3,c3,rfl,_,_⟩:=row_shp ho1;have HO1:=hide ho1;have HB1:=hide hb1;have HX:Hid (∀ W,Below wo.heap.size wo W->W.cell? ⟨g0,0,none⟩=some (.slice a1 l1.length c1)/\W.cell? ⟨g0,1,none⟩=some (.slice a2 l2.length c2)):=hide (fun W hW=>⟨(hW.cell (p:=⟨g0,0,none⟩) hg0).trans x1,(hW.cell (p:=⟨g0,1,none⟩) hg0).trans x2⟩);clear ho1 hb1 HG;go_wp2_with fail;clear x1 x2
   go_loopg [6,27] 2 (fun k v6 v27 wq=>Below wo.heap.size wo wq/\((k=2/\v27=.int .i64 0/\wq.ownsRow wo.heap.size 3 1 v6 0 [])\/(k=1/\v27=.int .i64 1/\wq.ownsRow wo.heap.size 3 1 v6 (0+l1.length) ([]++l1.map (.int .i64)))\/(k=0/\v27=.int .i64 2/\wq.ownsRow wo.heap.size 3 1 v6 (0+l1.length+l2.length) (([]++l1.map (.int .i64))++l2.map (.int .i64)))))
   case atStart=>exact ⟨HB1.out,.inl ⟨rfl,rfl,HO1.out⟩⟩
   case round =>
    obtain ⟨hbq,hcase⟩:=hrel;have HBQ:=hide hbq;obtain ⟨y1,y2⟩:=HX.out wr hbq;have hsq:=hbq.size;rcases hcase with ⟨hk2,rfl,ho⟩ | ⟨hk2,rfl,ho⟩ | ⟨hk2,rfl,ho⟩
    ·obtain ⟨v',w',hr,ho',hb'⟩:=app_ints wr wo.heap.size 0 _ [] ho hsq a1 l1 c1 (H1.out.below hbq) z1 (by omega)
     have HO':=hide ho';have HB':=hide (hbq.trans hb');clear ho ho' hb' hbq;go_wp2_with (at_builtin;refine Lib.wpList_append_run _ rfl _ _ _ _ rfl _ _ rfl rfl _ _ hr ?_)
     go_roundg 1
     case measure=>omega
     case rel=>exact ⟨HB'.out,.inr (.inl ⟨rfl,rfl,HO'.out⟩)⟩
    ·obtain ⟨v',w',hr,ho',hb'⟩:=app_ints wr wo.heap.size (0+l1.length) _ ([]++l1.map (.int .i64)) ho hsq a2 l2 c2 (H2.out.below hbq) z2 (by omega)
     have HO':=hide ho';have HB':=hide (hbq.trans hb');clear ho ho' hb' hbq;go_wp2_with (at_builtin;refine Lib.wpList_append_run _ rfl _ _ _ _ rfl _ _ rfl rfl _ _ hr ?_)
     go_roundg 0
     case measure=>omega
     case rel=>exact ⟨HB'.out,.inr (.inr ⟨rfl,rfl,HO'.out⟩)⟩
    ·have HO:=hide ho
     obtain ⟨a6,c6,rfl,_,_⟩:=row_shp ho;clear ho hbq;go_wp2_with fail;go_ret;refine ⟨_,rfl,?_,HBQ.out⟩;have:=HO.out;rw [List.map_append];simpa using this
end
section
open Go.RowKit
attribute [local go_sem ↓] Go.wp_at_zero Go.wp_at_succ
def StepR (w:World) (M:MaP) (s:Mx.Mst) (xs:List Int) (e:Ending) (w':World):Prop:=Kp (fun k=>k=M.mb) w w'/\match Mx.mstep M.im s xs with
 | some s2=>e=.returned (.tuple #[.string (bstr (M.im.leaf s2.at_).1),.int .i64 0])/\∃ vh,MaM w' M s2 vh
 | none=>e=.returned (.tuple #[.string ⟨#[]⟩,.int .i64 8])/\∃ vh,MaM w' M s vh
def IntB (w:World) (v:Value):Prop:=∀ g,v.ownBlock=some g->∃ cur,w.heap[g]? = some (.cells cur 3 (0,0))
theorem IntB.kept {F:Nat->Prop} {w w':World} {v:Value} (h:IntB w v) (hk:Kp F w w') (hF:∀ g,v.ownBlock=some g->¬ F g):IntB w' v:=fun g e=>by
 obtain ⟨cur,hc⟩:=h g e;exact ⟨cur,(hk.block g (Array.getElem?_eq_some_iff.1 hc).1 (hF g e)).trans hc⟩
def StepF (w:World) (M:MaP) (s:Mx.Mst) (vh:Value) (xs:List Int) (e:Ending) (w':World):Prop:=Kp (fun k=>k=M.mb) w w'/\match Mx.mstep M.im s xs with
 | some s2=>e=.returned (.tuple #[.string (bstr (M.im.leaf s2.at_).1),.int .i64 0])/\∃ vh',MaM w' M s2 vh'/\IntB w' vh'/\∀ g,vh'.ownBlock=some g->w.heap.size<=g
 | none=>e=.returned (.tuple #[.string ⟨#[]⟩,.int .i64 8])/\MaM w' M s vh
theorem StepF.weak {w:World} {M:MaP} {s:Mx.Mst} {vh:Value} {xs:List Int} {e:Ending} {w':World} (h:StepF w M s vh xs e w'):StepR w M s xs e w':=by
 refine ⟨h.1,?_⟩;have h2:=h.2
 cases hm:Mx.mstep M.im s xs with
 | none=>rw [hm] at h2;exact ⟨h2.1,_,h2.2⟩
 | some s2=>rw [hm] at h2;obtain ⟨h3,v,h4,_⟩:=h2;exact ⟨h3,v,h4⟩
def ClM (b:Nat) (w:World) (v:Value) (xs:List Int):Prop:=(v=.slice none 0 0/\xs=[])\/w.ownsRow b 3 1 v xs.length (xs.map (.int .i64))
theorem CloneI_any (w:World) (sa:Option Addr) (cs:Nat) (xs:List Int) (h:SlI w sa xs) (hn:xs.length<=1000) :
  Calls Tryz.prog 58 #[.slice sa xs.length cs] w fun e w'=>∃ v,e=.returned v/\ClM w.heap.size w' v xs/\Below w.heap.size w w':=by
 cases sa with
 | none =>
  have hl:xs=[]:=by
   cases xs with
   | nil=>rfl
   | cons a t=>obtain ⟨g,o,e,_⟩:=h 0 (by simp);cases e
  refine (Tryz.slices_Clone_int_nil xs.length cs w).mono fun e w' hr=>?_
  obtain ⟨rfl,rfl⟩:=hr;exact ⟨_,rfl,.inl ⟨rfl,hl⟩,Below.refl _ _⟩
 | some ad =>
  by_cases h0:xs.length=0
  ·have hl:xs=[]:=List.length_eq_zero_iff.1 h0
   subst hl;refine (Tryz.slices_Clone_int_zero ad cs w).mono fun e w' hr=>?_
   obtain ⟨v,rfl,ho,_,hb⟩:=hr;exact ⟨v,rfl,.inr ho,hb⟩
  ·obtain ⟨g,o,e,_⟩:=h 0 (by omega)
   cases e
   refine (Tryz.slices_Clone_int g o xs.length cs xs w (Nat.le_refl _) (by omega) (fun j hj=>?_)).mono fun e w' hr=>?_
   ·obtain ⟨g',o',e',_,hc⟩:=h j hj
    cases e'
    rw [hc,List.getD_eq_getElem?_getD,List.getElem?_eq_getElem hj];rfl
   ·obtain ⟨v,rfl,ho,_,hb⟩:=hr
    rw [List.take_length] at ho;exact ⟨v,rfl,.inr ho,hb⟩
theorem ClM.shape {w:World} {b:Nat} {v:Value} {xs:List Int} (h:ClM b w v xs):∃ a c,v=.slice a xs.length c:=by
 rcases h with ⟨rfl,rfl⟩ | h
 ·exact ⟨none,0,rfl⟩
 ·obtain ⟨a,c,e,_⟩:=row_shp h
  exact ⟨a,c,e⟩
theorem ClM.intB {w:World} {b:Nat} {v:Value} {xs:List Int} (h:ClM b w v xs):IntB w v:=fun g e=>by
 rcases h with ⟨rfl,_⟩ | h
 ·cases e
 ·rcases h.2 with ⟨rfl,_⟩ | ⟨g',cap,cur,rfl,hb,hh,_⟩
  ·cases e
  ·cases e;exact ⟨cur,hh⟩
theorem ClM.ge {w:World} {b g:Nat} {v:Value} {xs:List Int} (h:ClM b w v xs) (e:v.ownBlock=some g):b<=g:=by
 rcases h with ⟨rfl,_⟩ | h
 ·cases e
 ·rcases h.2 with ⟨rfl,_⟩ | ⟨g',cap,cur,rfl,hb,_⟩
  ·cases e
  ·cases e;exact hb
theorem ClM.ah {w:World} {mb b:Nat} {v:Value} {xs:List Int} (h:ClM b w v xs) (hb:mb<b):AhM w mb v (some xs):=by
 rcases h with ⟨rfl,rfl⟩ | h
 ·exact .inl ⟨rfl,.inr rfl⟩
 ·rcases h.2 with ⟨rfl,h0⟩ | ⟨g,cap,cur,rfl,hg,hh,_⟩
  ·exact .inl ⟨rfl,.inr (by rw [List.length_eq_zero_iff.1 h0])⟩
  ·refine .inr ⟨g,cap,xs,rfl,rfl,by omega,(Array.getElem?_eq_some_iff.1 hh).1,fun i hi=>?_⟩
   have:=h.cellAt i (by omega);rw [this,List.getElem?_map,List.getElem?_eq_getElem hi];rfl
theorem SlI.kept {F:Nat->Prop} {w w':World} {sa:Option Addr} {xs:List Int} (h:SlI w sa xs) (hk:Kp F w w') (hF:0<xs.length->∀ g o,sa=some ⟨g,o,none⟩->¬ F g):SlI w' sa xs:=fun i hi=>by
 obtain ⟨g,o,e,hg,hc⟩:=h i hi;exact ⟨g,o,e,Nat.lt_of_lt_of_le hg hk.size,(hk.cell hg (hF (by omega) g o e)).trans hc⟩
def AheadIs (w:World) (vh sv:Value) (aa:Option Addr) (ca:Nat) (ahl:List Int):Prop:=(vh=.slice none 0 0/\sv=.slice aa ahl.length ca/\SlI w aa ahl/\(aa=none->ca=0))\/(vh=.slice aa ahl.length ca/\aa.isSome=true/\SlI w aa ahl)
theorem Step_anyF (w:World) (M:MaP) (s:Mx.Mst) (vh:Value) (sa:Option Addr) (cs:Nat) (xs:List Int) (h:MaM w M s vh) (hG:M.im.Good) (hx:SlI w sa xs) (hz:sa=none->cs=0) (hne:0<xs.length->∀ g o,sa=some ⟨g,o,none⟩->g≠M.mb) :
  Calls Tryz.prog 30 #[.pointer (some ⟨M.mb,0,none⟩),.slice sa xs.length cs] w fun e w'=>StepF w M s vh xs e w':=by
 have HIS:=hide (isSample_any w M s vh sa cs xs h hx hG.ok.vars);have H:=hide h;have HG:=hide hG;have HX:=hide hx;have HZ:=hide hz;have HNE:=hide hne;clear h hG hx hz hne
 by_cases hs:Mx.isSample M.im.vars xs=true
 ·have HMS:Hid (Mx.mstep M.im s xs=some ⟨Mx.run (M.im.leaf s.at_).2 (s.ahead.getD xs++xs) s.at_,some xs⟩):=hide (by unfold Mx.mstep;rw [if_pos hs])
  have hl:xs.length=M.im.vars.length:=by
   unfold Mx.isSample at hs;simp at hs;exact hs.1
  rw [hs] at HIS;have HL:=hide hl;clear hs hl;go_enter Tryz.func30,Tryz.ntmps30;go_wp2_with fail;refine HIS.out.mono ?_;rintro e w1 ⟨rfl,hb1⟩;have H1:=hide (H.out.kept hb1);have HX1:=hide (HX.out.below hb1);have HB1:=hide hb1;have c4:w1.cell? ⟨M.mb,4,none⟩=some vh:=Lib.cell_of_heap H1.out.box 4;clear HIS hb1;have hah:=H1.out.ah;have hwd:=H1.out.wide
  have HAH:Hid (∃ aa ca ahl,AheadIs w1 vh (.slice sa xs.length cs) aa ca ahl/\ahl.length=M.im.vars.length/\s.ahead.getD xs=ahl):=hide (by
   rcases hah with ⟨rfl,ho⟩ | ⟨g,cap,l,rfl,ho,h1,h2,h3⟩
   ·refine ⟨sa,cs,xs,.inl ⟨rfl,rfl,HX1.out,HZ.out⟩,HL.out,?_⟩
    rcases ho with e | e
    ·rw [e];rfl
    ·have:=hwd _ e
     have hl:=HL.out;rw [<- this] at hl;rw [e]
     cases xs with
     | nil=>rfl
     | cons _ _=>simp at hl
   ·refine ⟨some ⟨g,0,none⟩,cap,l,.inr ⟨rfl,rfl,fun i hi=>⟨g,0,rfl,h2,by rw [Nat.zero_add];exact h3 i hi⟩⟩,hwd _ ho,by rw [ho];rfl⟩)
  clear hah hwd;obtain ⟨aa,ca,ahl,hai,hal,hge⟩:=HAH.out;rw [hge] at HMS;have HAL:=hide hal;clear HAH hge hal;have hat:=H1.out.at_;have c1:w1.cell? ⟨M.mb,1,none⟩=some (.slice M.al M.im.leaves.length M.cl):=Lib.cell_of_heap H1.out.box 1;have c3:w1.cell? ⟨M.mb,3,none⟩=some (.int .i64 s.at_):=Lib.cell_of_heap H1.out.box 3;obtain ⟨g,cur,hma,hg,hgh,hc⟩:=H1.out.im.leaves (by omega);obtain ⟨_,gp,cp,cup,fr,hc1,hgp,hgph,hpc⟩:=hc s.at_ hat;rw [hma] at c1;have hgl:=(Array.getElem?_eq_some_iff.1 hgh).1;have hgpl:=(Array.getElem?_eq_some_iff.1 hgph).1;have hml:=H1.out.lt;have d1:w1.cell? ⟨g,s.at_*2+1,none⟩=some (.slice (some ⟨gp,0,none⟩) (M.im.leaf s.at_).2.length cp):=by
   rw [Mx.Img.leaf_at hat];exact (Lib.cell_of_heap hgh (s.at_*2+1)).trans hc1
  have HPG:Hid (∀ k (hk:k<(M.im.leaf s.at_).2.length),w1.cell? ⟨gp,k,none⟩=some (.int .u8 ((M.im.leaf s.at_).2[k].toNat:Int))):=hide (by
   rw [Mx.Img.leaf_at hat]
   exact fun k hk=>(Lib.cell_of_heap hgph k).trans (hpc k hk))
  have hsh:(M.im.leaf s.at_).2.length<=65535:=by
   rw [Mx.Img.leaf_at hat];have:=HG.out.ok.progs _ (List.getElem_mem hat);unfold Mx.Short at this;omega
  have HSF:=hide (HG.out.safe s.at_ hat);have HRL:Hid (Mx.run (M.im.leaf s.at_).2 (ahl++xs) s.at_<M.im.leaves.length):=hide (Mx.run_lt (HG.out.safe s.at_ hat) hat);have hai2:(s.at_:Int)<M.im.leaves.length:=by omega
  have ha0:(0:Int)<=s.at_:=by omega
  have hv3:=HG.out.ok.vars;generalize (M.im.leaf s.at_).2=pg at *
  have HRW:Hid (∀ W v base,Below w1.heap.size w1 W->W.ownsRow base 3 1 v (ahl.length+xs.length) ((ahl++xs).map (.int .i64))->∃ a c,v=.slice a (ahl.length+xs.length) c/\Calls Tryz.prog 56 #[.slice (some ⟨gp,0,none⟩) pg.length cp,.slice a (ahl.length+xs.length) c,.int .i64 s.at_] W fun e w'=>e=.returned (.int .i64 (Mx.run pg (ahl++xs) s.at_))/\Below W.heap.size W w'):=hide (fun W v base hW hv=>by
   obtain ⟨a,c,rfl,_,_⟩:=row_shp hv;refine ⟨a,c,rfl,?_⟩;rw [<- List.length_append];refine Run_any W gp cp pg a c (ahl++xs) s.at_ M.im.leaves.length (2*M.im.vars.length) (Nat.lt_of_lt_of_le hgpl hW.size) (fun j hj=>(hW.cell (p:=⟨gp,j,none⟩) hgpl).trans (HPG.out j hj)) (fun j hj=>?_) hsh HSF.out (by rw [List.length_append,HAL.out,HL.out];omega) hat;obtain ⟨g2,cap2,e2,hb2,hl2,_,_,hcc⟩:=row_open hv (by simp at hj;omega)
   cases e2
   refine ⟨g2,rfl,hl2,?_⟩;rw [hcc j (by simp at hj;omega),List.getElem?_map,List.getElem?_eq_getElem hj]
   rfl)
  have HCC:Hid (∀ v6,v6=.slice aa ahl.length ca->∀ Y g0,Below w1.heap.size w1 Y->g0<Y.heap.size->Y.cell? ⟨g0,0,none⟩=some v6->Y.cell? ⟨g0,1,none⟩=some (.slice sa xs.length cs)->Calls Tryz.prog 57 #[.slice (some ⟨g0,0,none⟩) 2 2] Y fun e w'=>∃ v,e=.returned v/\w'.ownsRow Y.heap.size 3 1 v (ahl.length+xs.length) ((ahl++xs).map (.int .i64))/\Below Y.heap.size Y w'):=hide (fun v6 hv6 Y g0 hY hg0 y0 y1=>by
   subst hv6;have hsl:SlI w1 aa ahl/\(aa=none->ca=0):=by
    rcases hai with ⟨_,_,h1,h2⟩ | ⟨_,h0,h1⟩
    ·exact ⟨h1,h2⟩
    ·exact ⟨h1,fun e=>by rw [e] at h0;cases h0⟩
   exact Concat_any Y g0 2 aa sa ahl xs ca cs hg0 y0 y1 (hsl.1.below hY) (HX1.out.below hY) (by rw [HAL.out];omega) (by rw [HL.out];omega) hsl.2 HZ.out)
  obtain ⟨rn,hrn⟩ : ∃ rn,rn=Mx.run pg (ahl++xs) s.at_:=⟨_,rfl⟩;rw [<- hrn] at HRW HRL HMS;clear hrn
  have hn0:Hid ((vh=.slice none 0 0/\(.slice sa xs.length cs:Value)=.slice aa ahl.length ca)\/(vh=.slice aa ahl.length ca/\aa.isSome=true)):=hide (by
   rcases hai with ⟨h1,h2,_⟩ | ⟨h1,h2,_⟩
   ·exact .inl ⟨h1,h2⟩
   ·exact .inr ⟨h1,h2⟩)
  clear hai hgh hc hc1 hgph hpc hma;rcases hn0.out with ⟨hvh,hsv⟩ | ⟨hvh,hso⟩
  case' inl =>
   have hnn:=Lib.run_eql_slice_nil_nil (P:=Tryz.prog) w1 0 0 Tryz.underlying32;rw [hvh] at c4;have HSV:=hide hsv;clear hsv hvh;have HCX:=hide (HCC.out _ HSV.out);go_upto_region 6 with (fail)
  case' inr =>
   obtain ⟨aad,rfl⟩:=Option.isSome_iff_exists.1 hso;have hnn:=Lib.run_eql_slice_some_nil (P:=Tryz.prog) w1 aad ahl.length ca Tryz.underlying32;rw [hvh] at c4;have HCX:=hide (HCC.out _ rfl);clear hvh hso;go_upto_region 6 with (fail)
  all_goals
   clear hnn;refine WE.region 24 (fun W=>W.cell? ⟨M.mb,1,none⟩=some (.slice (some ⟨g,0,none⟩) M.im.leaves.length M.cl)/\W.cell? ⟨g,s.at_*2+1,none⟩=some (.slice (some ⟨gp,0,none⟩) pg.length cp)/\W.cell? ⟨M.mb,3,none⟩=some (.int .i64 s.at_)) (by kernel_rfl) ⟨c1,d1,c3⟩ (fun hHeld=>?_);refine WE.take (i:=0) (v:=?_) rfl (by kernel_rfl) (by kernel_rfl) (by kernel_rfl) (by kernel_rfl) (by rfl) (fun _ _ _ h=>h) (Or.inl ⟨by rfl,?_⟩) hHeld ?_;rotate_left
   ·intro w hSw;(try dsimp only at hSw);go_simp;(try with_reducible rfl)
   (try simp only [Act.put,qA,qB,qC,qD,qE])
   refine WE.take (i:=1) (v:=?_) rfl (by kernel_rfl) (by kernel_rfl) (by kernel_rfl) (by kernel_rfl) (by rfl) (fun _ _ _ h=>h) (Or.inl ⟨by rfl,?_⟩) hHeld ?_;rotate_left
   ·intro w hSw;(try dsimp only at hSw);go_simp;(try with_reducible rfl)
   (try simp only [Act.put,qA,qB,qC,qD,qE,qF])
   refine WE.take (i:=2) (v:=?_) rfl (by kernel_rfl) (by kernel_rfl) (by kernel_rfl) (by kernel_rfl) (by rfl) (fun _ _ _ h=>h) (Or.inl ⟨by rfl,?_⟩) hHeld ?_;rotate_left
   ·intro w hSw;(try dsimp only at hSw);go_simp;(try with_reducible rfl)
   (try simp only [Act.put,qA,qB,qC,qD,qE,qF])
   refine WE.take (i:=3) (v:=?_) rfl (by kernel_rfl) (by kernel_rfl) (by kernel_rfl) (by kernel_rfl) (by rfl) (fun _ _ _ h=>h) (Or.inl ⟨by rfl,?_⟩) hHeld ?_;rotate_left
   ·intro w hSw;(try dsimp only at hSw);go_simp;(try with_reducible rfl)
   (try simp only [Act.put,qA,qB,qC,qD,qE,qF])
   refine WE.take (i:=4) (v:=?_) rfl (by kernel_rfl) (by kernel_rfl) (by kernel_rfl) (by kernel_rfl) (by rfl) (fun _ _ _ h=>h) (Or.inl ⟨by rfl,?_⟩) hHeld ?_;rotate_left
   ·intro w hSw;(try dsimp only at hSw);go_simp;(try with_reducible rfl)
   (try simp only [Act.put,qA,qB,qC,qD,qE,qF])
   refine WE.take (i:=5) (v:=?_) rfl (by kernel_rfl) (by kernel_rfl) (by kernel_rfl) (by kernel_rfl) (by rfl) (fun _ _ _ h=>h) (Or.inl ⟨by rfl,?_⟩) hHeld ?_;rotate_left
   ·intro w hSw;(try dsimp only at hSw);go_simp;(try with_reducible rfl)
   (try simp only [Act.put,qA,qB,qC,qD,qE,qF])
   refine WE.take (i:=6) (v:=?_) rfl (by kernel_rfl) (by kernel_rfl) (by kernel_rfl) (by kernel_rfl) (by rfl) (fun _ _ _ h=>h) (Or.inl ⟨by rfl,?_⟩) hHeld ?_;rotate_left
   ·intro w hSw;(try dsimp only at hSw);go_simp;(try with_reducible rfl)
   (try simp only [Act.put,qA,qB,qC,qD,qE,qF])
   refine WE.take (i:=7) (v:=?_) rfl (by kernel_rfl) (by kernel_rfl) (by kernel_rfl) (by kernel_rfl) (by rfl) (fun _ _ _ h=>h) (Or.inl ⟨by rfl,?_⟩) hHeld ?_;rotate_left
   ·intro w hSw;(try dsimp only at hSw);go_simp;(try with_reducible rfl)
   (try simp only [Act.put,qA,qB,qC,qD,qE,qF])
   refine WE.take (i:=8) (v:=?_) rfl (by kernel_rfl) (by kernel_rfl) (by kernel_rfl) (by kernel_rfl) (by rfl) (fun _ _ _ h=>h) (Or.inl ⟨by rfl,?_⟩) hHeld ?_;rotate_left
   ·intro w hSw;(try dsimp only at hSw);go_simp;(try with_reducible rfl)
   (try simp only [Act.put,qA,qB,qC,qD,qE,qF])
   refine WE.take (i:=9) (v:=?_) rfl (by kernel_rfl) (by kernel_rfl) (by kernel_rfl) (by kernel_rfl) (by rfl) (fun _ _ _ h=>h) (Or.inl ⟨by rfl,?_⟩) hHeld ?_;rotate_left
   ·intro w hSw;(try dsimp only at hSw);go_simp;(try with_reducible rfl)
   (try simp only [Act.put,qA,qB,qC,qD,qE,qF])
   refine WE.take (i:=10) (v:=?_) rfl (by kernel_rfl) (by kernel_rfl) (by kernel_rfl) (by kernel_rfl) (by rfl) (fun _ _ _ h=>h) (Or.inl ⟨by rfl,?_⟩) hHeld ?_;rotate_left
   ·intro w hSw;(try dsimp only at hSw);go_simp;(try with_reducible rfl)
   (try simp only [Act.put,qA,qB,qC,qD,qE,qF])
   refine WE.take (i:=11) (v:=?_) rfl (by kernel_rfl) (by kernel_rfl) (by kernel_rfl) (by kernel_rfl) (by rfl) (fun _ _ _ h=>h) (Or.inl ⟨by rfl,?_⟩) hHeld ?_;rotate_left
   ·intro w hSw;(try dsimp only at hSw);go_simp;(try with_reducible rfl)
   (try simp only [Act.put,qA,qB,qC,qD,qE,qF])
   refine WE.take (i:=12) (v:=?_) rfl (by kernel_rfl) (by kernel_rfl) (by kernel_rfl) (by kernel_rfl) (by rfl) (fun _ _ _ h=>h) (Or.inl ⟨by rfl,?_⟩) hHeld ?_;rotate_left
   ·intro w hSw;(try dsimp only at hSw);go_simp;(try with_reducible rfl)
   (try simp only [Act.put,qA,qB,qC,qD,qE,qF])
   refine WE.take (i:=13) (v:=?_) rfl (by kernel_rfl) (by kernel_rfl) (by kernel_rfl) (by kernel_rfl) (by rfl) (fun _ _ _ h=>h) (Or.inl ⟨by rfl,?_⟩) hHeld ?_;rotate_left
   ·intro w hSw;(try dsimp only at hSw);go_simp;(try with_reducible rfl)
   (try simp only [Act.put,qA,qB,qC,qD,qE,qF])
   refine WE.take (i:=14) (v:=?_) rfl (by kernel_rfl) (by kernel_rfl) (by kernel_rfl) (by kernel_rfl) (by rfl) (fun _ _ _ h=>h) (Or.inl ⟨by rfl,?_⟩) hHeld ?_;rotate_left
   ·intro w hSw;(try dsimp only at hSw);go_simp;(try with_reducible rfl)
   (try simp only [Act.put,qA,qB,qC,qD,qE,qF])
   refine WE.take (i:=17) (v:=?_) rfl (by kernel_rfl) (by kernel_rfl) (by kernel_rfl) (by kernel_rfl) (by rfl) (fun _ _ _ h=>h) (Or.inl ⟨by rfl,?_⟩) hHeld ?_;rotate_left
   ·intro w hSw;(try dsimp only at hSw);go_simp;(try with_reducible rfl)
   (try simp only [Act.put,qA,qB,qC,qD,qE,qF])
   refine WE.take (i:=18) (v:=?_) rfl (by kernel_rfl) (by kernel_rfl) (by kernel_rfl) (by kernel_rfl) (by rfl) (fun _ _ _ h=>h) (Or.inl ⟨by rfl,?_⟩) hHeld ?_;rotate_left
   ·intro w hSw;(try dsimp only at hSw);go_simp;(try with_reducible rfl)
   (try simp only [Act.put,qA,qB,qC,qD,qE,qF])
   refine WE.take (i:=19) (v:=?_) rfl (by kernel_rfl) (by kernel_rfl) (by kernel_rfl) (by kernel_rfl) (by rfl) (fun _ _ _ h=>h) (Or.inl ⟨by rfl,?_⟩) hHeld ?_;rotate_left
   ·intro w hSw;(try dsimp only at hSw);go_simp;(try with_reducible rfl)
   (try simp only [Act.put,qA,qB,qC,qD,qE,qF])
   refine WE.take (i:=20) (v:=?_) rfl (by kernel_rfl) (by kernel_rfl) (by kernel_rfl) (by kernel_rfl) (by rfl) (fun _ _ _ h=>h) (Or.inl ⟨by rfl,?_⟩) hHeld ?_;rotate_left
   ·intro w hSw;(try dsimp only at hSw);go_simp;(try with_reducible rfl)
   (try simp only [Act.put,qA,qB,qC,qD,qE,qF])
   refine WE.one (i:=15) (by kernel_rfl) rfl (fun K hK=>?_)
   go_simp
   refine hK.out _ _ ⟨((below_ad w1 _).cell (p:=⟨M.mb,1,none⟩) hml).trans c1,((below_ad w1 _).cell (p:=⟨g,s.at_*2+1,none⟩) hgl).trans d1,((below_ad w1 _).cell (p:=⟨M.mb,3,none⟩) hml).trans c3⟩ (fun hHeld=>?_);clear hK K
   (try simp only [Act.put,qA,qB,qC,qD,qE,qF])
   refine WE.one (i:=16) (by kernel_rfl) rfl (fun K hK=>?_)
   go_simp
   refine (HCX.out _ _ ?_ ?_ ?_ ?_).mono ?_
   ·with_reducible exact below_ad _ _
   ·rw [size_ad];exact Nat.lt_succ_self _
   ·exact Lib.cell_of_heap (heap_alloc_new w1 _) 0
   ·exact Lib.cell_of_heap (heap_alloc_new w1 _) 1
   rintro e w2 ⟨v2,rfl,ho2,hb2⟩;have hB2:Below w1.heap.size w1 w2:=(below_ad w1 _).trans (hb2.mono (below_ad w1 _).size);obtain ⟨a2,c2,rfl,hrun⟩:=HRW.out w2 v2 _ hB2 ho2;have HRN:=hide hrun;have z1:=(hB2.cell (p:=⟨M.mb,1,none⟩) hml).trans c1;have zd:=(hB2.cell (p:=⟨g,s.at_*2+1,none⟩) hgl).trans d1;have z3:=(hB2.cell (p:=⟨M.mb,3,none⟩) hml).trans c3;clear ho2 hb2 hrun hHeld;refine hK.out _ _ ⟨z1,zd,z3⟩ (fun hHeld=>?_);clear hK K
   (try simp only [Act.put,qA,qB,qC,qD,qE,qF])
   refine WE.one (i:=21) (by kernel_rfl) rfl (fun K hK=>?_)
   go_simp
   refine HRN.out.mono ?_;rintro e w3 ⟨rfl,hb3⟩;have hB3:Below w1.heap.size w1 w3:=hB2.trans (hb3.mono hB2.size);have hx3:=(hB3.block M.mb hml).trans H1.out.box;have y1:=(hB3.cell (p:=⟨M.mb,1,none⟩) hml).trans c1;have yd:=(hB3.cell (p:=⟨g,s.at_*2+1,none⟩) hgl).trans d1;have y3:w3.cell? ⟨M.mb,3,none⟩=some (.int .i64 s.at_):=Lib.cell_of_heap hx3 3;have g3:w3.frozen? ⟨M.mb,3,none⟩=false:=Lib.frozen_of_heap hx3 3;have HB3:=hide hB3;have HX3:=hide hx3;clear hb3 hB3 hx3 hB2 z1 zd z3 hHeld;refine hK.out _ _ ⟨y1,yd,y3⟩ (fun hHeld=>?_);clear hK K
   (try simp only [Act.put,qA,qB,qC,qD,qE,qF])
   refine WE.one (i:=22) (by kernel_rfl) rfl (fun K hK=>?_)
   go_simp
   refine hK.out _ _ hHeld (fun hHeld=>?_);clear hK K
   (try simp only [Act.put,qA,qB,qC,qD,qE,qF])
   refine WE.one (i:=23) (by kernel_rfl) rfl (fun K hK=>?_)
   go_simp
   refine hK.out _ _ hHeld (fun hHeld=>?_);clear hK K
   (try simp only [Act.put,qA,qB,qC,qD,qE,qF])
   refine WE.last (by kernel_rfl) rfl (fun K hK=>?_)
   go_simp
   refine hK.out _ _ ?_;clear hK K
   (try simp only [Act.put,qA,qB,qC,qD,qE,qF])
   refine WE.done (by kernel_rfl) ?_ _;have hk4:Kp (fun k=>k=M.mb) w1 (w3.setCell ⟨M.mb,3,none⟩ (.int .i64 rn)):=(Kp.ofBelow HB3.out).trans (kp_set w3 M.mb 3 _) (fun k h=>.inl h);have hx4:=set_heap (o:=3) (v:=.int .i64 rn) HX3.out;have HCL:=hide (CloneI_any (w3.setCell ⟨M.mb,3,none⟩ (.int .i64 rn)) sa cs xs (HX1.out.kept hk4 (fun hp g o e h=>HNE.out hp g o e h)) (by rw [HL.out];omega));have hs4:M.mb<(w3.setCell ⟨M.mb,3,none⟩ (.int .i64 rn)).heap.size:=Nat.lt_of_lt_of_le hml hk4.size;have HK4:=hide hk4;have HX4:=hide hx4;clear hk4 hx4 y1 yd y3 g3 hHeld;go_wp2_with fail;generalize w3.setCell ⟨M.mb,3,none⟩ (.int .i64 rn)=w4 at *;refine HCL.out.mono ?_;rintro e w5 ⟨v5,rfl,hcl,hb5⟩;obtain ⟨a5,c5,rfl⟩:=hcl.shape;have HNW:Hid (∀ g,(Value.slice a5 xs.length c5).ownBlock=some g->w.heap.size<=g):=hide (fun g e=>Nat.le_trans HB1.out.size (Nat.le_trans HK4.out.size (hcl.ge e)));have hx5:=(hb5.block M.mb hs4).trans HX4.out;have u4:w5.cell? ⟨M.mb,4,none⟩=some vh:=by
    have:=Lib.cell_of_heap hx5 4;rw [this];rfl
   have q4:w5.frozen? ⟨M.mb,4,none⟩=false:=Lib.frozen_of_heap hx5 4;have hk5:Kp (fun k=>k=M.mb) w1 w5:=HK4.out.below hb5;have hk6:Kp (fun k=>k=M.mb) w1 (w5.setCell ⟨M.mb,4,none⟩ (.slice a5 xs.length c5)):=hk5.trans (kp_set w5 M.mb 4 _) (fun k h=>.inl h);have hM6:MaM (w5.setCell ⟨M.mb,4,none⟩ (.slice a5 xs.length c5)) M ⟨rn,some xs⟩ (.slice a5 xs.length c5):=by
    refine ⟨?_,H1.out.im.kept hk6 (fun g _ _ _ hg _ _ e=>by have:=H1.out.le;omega),H1.out.le,HRL.out,?_,fun l e=>?_⟩
    ·rw [set_heap (o:=4) hx5];rfl
    ·exact (hcl.ah hs4).kept (kp_set w5 M.mb 4 _)
    ·cases e;exact HL.out
   have HI6:Hid (IntB (w5.setCell ⟨M.mb,4,none⟩ (.slice a5 xs.length c5)) (.slice a5 xs.length c5)):=hide (hcl.intB.kept (kp_set w5 M.mb 4 _) (fun g e h=>by have:=hcl.ge e;omega));have HM6:=hide hM6;have HMD:=hide (Mode_any _ M ⟨rn,some xs⟩ (.slice a5 xs.length c5) hM6 (HG.out.name rn));have HK6:Hid (Kp (fun k=>k=M.mb) w (w5.setCell ⟨M.mb,4,none⟩ (.slice a5 xs.length c5))):=hide ((Kp.ofBelow HB1.out).trans hk6 (fun k h=>.inl h));clear hcl hb5 hx5 hk5 hk6 hM6 HCL;go_wp2_with fail;generalize w5.setCell ⟨M.mb,4,none⟩ (.slice a5 xs.length c5)=w6 at *;clear u4 q4;refine HMD.out.mono ?_;rintro e w7 ⟨rfl,hb7⟩;have HK7:=hide (HK6.out.below hb7);have HM7:=hide (HM6.out.kept hb7);have HI7:=hide (HI6.out.kept (Kp.ofBelow (F:=fun _=>False) hb7) (fun _ _ h=>h));clear hb7 HMD;go_wp2_with fail;refine bodyPost_ret (v:=.tuple #[.string (bstr (M.im.leaf rn).1),.int .i64 0]) (by simp [results,Tryz.results30,go_sem]) rfl ?_;refine ⟨HK7.out,?_⟩;rw [HMS.out];exact ⟨rfl,_,HM7.out,HI7.out,HNW.out⟩
 ·have HMS:Hid (Mx.mstep M.im s xs=none):=hide (by unfold Mx.mstep;rw [if_neg hs])
  have hs':Mx.isSample M.im.vars xs=false:=by simpa using hs
  rw [hs'] at HIS;clear hs hs';go_enter Tryz.func30,Tryz.ntmps30;go_wp2_with fail;refine HIS.out.mono ?_;rintro e w1 ⟨rfl,hb1⟩;have H1:=hide (H.out.kept hb1);have HB1:=hide hb1;clear HIS hb1;go_wp2_with fail;refine bodyPost_ret (v:=.tuple #[.string ⟨#[]⟩,.int .i64 8]) (by simp [results,Tryz.results30,go_sem]) rfl ?_;refine ⟨Kp.ofBelow HB1.out,?_⟩;rw [HMS.out];exact ⟨rfl,H1.out⟩
theorem Step_any (w:World) (M:MaP) (s:Mx.Mst) (vh:Value) (sa:Option Addr) (cs:Nat) (xs:List Int) (h:MaM w M s vh) (hG:M.im.Good) (hx:SlI w sa xs) (hz:sa=none->cs=0) (hne:0<xs.length->∀ g o,sa=some ⟨g,o,none⟩->g≠M.mb) :
  Calls Tryz.prog 30 #[.pointer (some ⟨M.mb,0,none⟩),.slice sa xs.length cs] w fun e w'=>StepR w M s xs e w' :=
 (Step_anyF w M s vh sa cs xs h hG hx hz hne).mono fun _ _ h=>h.weak
end
end Go.Proofs.YtdjaiolfdbamcaaGreatDoor
