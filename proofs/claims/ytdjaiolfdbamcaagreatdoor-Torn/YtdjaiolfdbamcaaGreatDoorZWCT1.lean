/- Walks of the table's Leaves. -/
import Derived.Test.YtdjaiolfdbamcaaGreatDoorZCA
import Derived.Test.YtdjaiolfdbamcaaGreatDoorZWRead1
import Derived.Deep.LoopGhost
set_option maxRecDepth 20000
set_option maxHeartbeats 400000
namespace Go.Proofs.YtdjaiolfdbamcaaGreatDoor
section
open Go.RowKit
def bl (gs:List MG) (j:Nat):Nat:=match gs[j]? with | some m=>m.blk | none=>0
theorem bl_at {gs:List MG} {j:Nat} (h:j<gs.length):bl gs j=gs[j].blk:=by simp [bl,h]
theorem inner_ix (gs:List MG) (i:Nat):(inner gs i).map (·.blk)=(Cx.innerIx (gs.map (·.a)) i).map (bl gs):=by
 have h1:(gs.map (·.a)).zipIdx=gs.zipIdx.map (fun p=>(p.1.a,p.2)):=by rw [List.zipIdx_map];rfl
 rw [Cx.innerIx,h1,List.filter_map,List.map_map,List.map_map];have h2:gs=gs.zipIdx.map (·.1):=by simp
 have h3:inner gs i=(gs.zipIdx.filter fun p=>decide (p.1.a.outer=(i:Int))).map (·.1):=by
  rw [inner];conv=>lhs;rw [h2,List.filter_map]
  rfl
 rw [h3,List.map_map];apply List.map_congr_left;intro p hp;have hm:=(List.mem_filter.1 hp).1;obtain ⟨x,k⟩:=p;have:=List.mem_zipIdx hm;simp at this;simp [bl,this]
theorem wi_ix {gs:List MG} (hl:Links gs) {i:Nat} (hi:i<gs.length):gs[i].wi=(Cx.innerIx (gs.map (·.a)) i).map (bl gs):=by
 have h1:=(hl i gs[i].key (by simp [hi])).wi;have h2:gs[i].key.wi=gs[i].wi:=rfl;rw [<- h2,h1,inside,<- inner_ix,inner,List.filter_map,List.map_map];rfl
theorem leaf_iff {gs:List MG} (hl:Links gs) {i:Nat} (hi:i<gs.length):Cx.isLeaf (gs.map (·.a)) i=decide (gs[i].wi.length=0):=by
 rw [wi_ix hl hi,Cx.isLeaf]
 cases Cx.innerIx (gs.map (·.a)) i <;> simp
theorem leavesTo_succ (ms:List Hx.MA) (n:Nat):Cx.leavesTo ms (n+1)=Cx.leavesTo ms n++(if Cx.isLeaf ms n then [n] else []):=by
 rw [Cx.leavesTo,List.range_succ,List.filter_append];congr 1;cases h:Cx.isLeaf ms n <;> simp [h]
theorem leavesTo_len (ms:List Hx.MA) (n:Nat):(Cx.leavesTo ms n).length<=n:=Nat.le_trans (List.length_filter_le _ _) (by simp)
theorem Leaves_any (w:World) (base tb:Nat) (vt vv vm:Value) (vs:List VarA) (gs:List MG) (F:Nat->Prop) (hT:PT w base tb vt vs gs F vv vm) (hL:Links gs) (hgl:gs.length<=3001) :
  Calls Tryz.prog 79 #[.pointer (some ⟨tb,0,none⟩)] w fun e w'=>∃ v,e=.returned v/\w'.ownsRow w.heap.size 164 1 v (Cx.leaves (gs.map (·.a))).length ((Cx.leaves (gs.map (·.a))).map fun j=>ptrV (bl gs j))/\Below w.heap.size w w':=by
 obtain ⟨_,_,x2,_,_,htl,_⟩:=hT.cells;obtain ⟨am,cm,hvm,_,_⟩:=row_shape (hT.mem.own 2 _ rfl);simp only at hvm;subst hvm;have HT:=hide hT;have HL:=hide hL;clear hT hL;obtain ⟨i0,hi0,hz0,hz1,hz2⟩:=info_parts Tryz.infoPtrA;generalize hms:gs.map (·.a)=ms;have HMS:=hide hms;have HML:Hid (ms.length=gs.length):=hide (by rw [<- hms];simp);clear hms;go_enter Tryz.func79,Tryz.ntmps79;go_wp2_with fail;clear x2
 go_loopg [3,11] (gs.length) (fun k v3 v11 wr=>∃ i:Nat,i+k=gs.length/\v11=.int .i64 i/\Below w.heap.size w wr/\wr.ownsRow w.heap.size 164 1 v3 (Cx.leavesTo ms i).length ((Cx.leavesTo ms i).map fun j=>ptrV (bl gs j)))
 case atStart=>exact ⟨0,by omega,rfl,Below.refl _ _,World.ownsRow_nil _ _ _ _⟩
 case round =>
  obtain ⟨i,hi,rfl,hb,ho⟩:=hrel;have HB:=hide hb;have HO:=hide ho;have hsz:=hb.size;clear hb ho
  by_cases hlt:i<gs.length
  ·have hli:(i:Int)<gs.length:=by omega
   have hi0':(0:Int)<=i:=by omega
   have HTr:=hide (HT.out.below HB.out);obtain ⟨gm,capm,_,e,hgl',hcc⟩:=HTr.out.msl.resolve_left (fun h=>by omega)
   cases e
   have c0:=(hcc i hlt).1;obtain ⟨aw,cw,hvw,_,_⟩:=row_shape (HTr.out.mem.own _ _ (pt_at2 hlt));have c8:wr.cell? ⟨gs[i].blk,8,none⟩=some (.slice aw gs[i].wi.length cw):=((HTr.out.modeCells hlt).1 8 (by omega)).trans (by have e:gs[i].vw=.slice aw gs[i].wi.length cw:=hvw;show some gs[i].vw=_;rw [e]);have hlf:=leaf_iff HL.out hlt;rw [HMS.out] at hlf;have hblk:bl gs i=gs[i].blk:=bl_at hlt;have hls:=leavesTo_succ ms i;have HLS:=hide hls;have hlen:=leavesTo_len ms i;have HBK:=hide hblk;generalize gs[i]=m at *;clear hcc hvw hls hblk
   cases hq:decide (m.wi.length=0) with
   | true =>
    have h0:m.wi.length=0:=by simpa using hq
    rw [hq] at hlf;have HLF:=hide hlf;clear hlf hq;rw [h0] at c8;obtain ⟨av,cv,rfl,_,_⟩:=row_shape HO.out;go_wp2_with (at_builtin;refine wpList_append_own_at _ rfl _ _ 85 rfl w.heap.size 164 i0 _ 1 8 Tryz.underlying85 hi0 hz0 hz1 hz2 rfl (by decide) _ (Cx.leavesTo ms i).length _ rfl (own_below HO.out ((Below.refl _ _).alloc (Nat.le_refl _) _)) ⟨wr.heap.size,0,none⟩ 1 1 [.pointer (some ⟨m.blk,0,none⟩)] rfl rfl (news_new _ _ rfl [_] _) ?c2 ?c3 ?c4 ?c5 ?_)
    case c2=>intro u hu;simp at hu;rcases hu with rfl;rfl
    case c3=>unfold maxLen;omega
    case c4=>omega
    case c5=>simp;omega
    intro v9 w9 hown hgrow _ hat;have hG:=gr_made hown hgrow (by simpa using hat);have HB9:Hid (Below w.heap.size w w9):=hide (HB.out.trans (hG.kept.toBelow (fun k e=>(HO.out.lt k e).1) hsz))
    have HO9:Hid (w9.ownsRow w.heap.size 164 1 v9 (Cx.leavesTo ms (i+1)).length ((Cx.leavesTo ms (i+1)).map fun j=>ptrV (bl gs j))):=hide (by
     rw [HLS.out,if_pos HLF.out,List.length_append,List.map_append];simp only [List.length_cons,List.length_nil,List.map_cons,List.map_nil,HBK.out]
     exact hG.own)
    clear hown hgrow hat hG;go_wp2_with fail
    go_roundg (gs.length-(i+1))
    case measure=>omega
    case rel=>exact ⟨i+1,by omega,by go_num,HB9.out,HO9.out⟩
   | false =>
    have h0:¬ m.wi.length=0:=by simpa using hq
    have h0':¬ (m.wi.length:Int)=0:=by omega
    rw [hq] at hlf
    have HO9:Hid (wr.ownsRow w.heap.size 164 1 u3 (Cx.leavesTo ms (i+1)).length ((Cx.leavesTo ms (i+1)).map fun j=>ptrV (bl gs j))):=hide (by
     rw [HLS.out,if_neg (by simp [hlf]),List.append_nil];exact HO.out)
    clear hlf hq;go_wp2_with fail
    go_roundg (gs.length-(i+1))
    case measure=>omega
    case rel=>exact ⟨i+1,by omega,by go_num,HB.out,HO9.out⟩
  ·obtain rfl:i=gs.length:=by omega
   go_wp2_with fail;go_ret;refine ⟨_,rfl,?_,HB.out⟩;rw [Cx.leaves,HML.out];exact HO.out
end
section
open Go.RowKit
def FirstIx (p:Nat->Bool) (n:Nat) (r:Int):Prop:=(∃ k:Nat,k<n/\r=k/\p k=true/\∀ j,j<k->p j=false)\/(r = -1/\∀ j,j<n->p j=false)
theorem first_step {p:Nat->Bool} {k:Nat} (h:∀ j,j<k->p j=false) (hk:p k=false):∀ j,j<k+1->p j=false:=fun j hj=>by
 by_cases e:j=k
 ·subst e;exact hk
 ·exact h j (by omega)
theorem indexM_enter (p:Nat->Bool) (bs:List Nat) (w:World) (g cap:Nat) (hg:0<bs.length->g<w.heap.size) (hc:∀ i (hi:i<bs.length),w.cell? ⟨g,i,none⟩=some (.pointer (some ⟨bs[i],0,none⟩))) (hn:bs.length<=3001)
  (hp:∀ k (hk:k<bs.length) W,Below w.heap.size w W->Calls Tryz.prog 169 #[.pointer (some ⟨bs[k],0,none⟩)] W fun e w'=>e=.returned (.bool (p k))/\Below W.heap.size W w') :
  Calls Tryz.prog 168 #[.slice (some ⟨g,0,none⟩) bs.length cap,.func (.func 169) #[] #[]] w fun e w'=>∃ r:Int,e=.returned (.int .i64 r)/\FirstIx p bs.length r/\Below w.heap.size w w':=by
 have HC:=hide hc;have HP:=hide hp;clear hc hp;go_enter Tryz.func168,Tryz.ntmps168;go_wp2_with fail
 go_loopw [8] (fun v8 wr=>∃ k:Nat,k<=bs.length/\v8=.int .i64 k/\Below w.heap.size w wr/\∀ j,j<k->p j=false) (fun v8 _=>bs.length-(intOf v8).toNat)
 case atStart=>exact ⟨0,by omega,rfl,Below.refl _ _,fun j hj=>absurd hj (by omega)⟩
 case round =>
  obtain ⟨k,hk,rfl,hb,ha⟩:=hrel;have HA:=hide ha;have HB:=hide hb;have hsz:=hb.size;clear ha
  by_cases hlt:k<bs.length
  ·have hgl:=hg (by omega)
   have hki:(k:Int)<bs.length:=by omega
   have hk0:(0:Int)<=k:=by omega
   have x0:=(hb.cell (p:=⟨g,k,none⟩) hgl).trans (HC.out k hlt);have HK:=hide (HP.out k hlt wr HB.out);clear hb;generalize bs[k]=bk at *;go_wp2_with fail;refine HK.out.mono ?_;rintro e w1 ⟨rfl,hb1⟩;have HB1:=hide (HB.out.trans (hb1.mono HB.out.size));clear hb1 HK
   cases hq:p k with
   | true =>
    have HQ:=hide hq;clear hq;go_wp2_with fail;go_ret;exact ⟨k,rfl,.inl ⟨k,hlt,rfl,HQ.out,HA.out⟩,HB1.out⟩
   | false =>
    have HQ:=hide hq;clear hq;go_wp2_with fail
    go_roundw
    case rel=>exact ⟨k+1,by omega,by go_num,HB1.out,first_step HA.out HQ.out⟩
    case measure=>simp [intOf];omega
  ·obtain rfl:k=bs.length:=by omega
   go_wp2_with fail;go_ret;exact ⟨-1,rfl,.inr ⟨rfl,HA.out⟩,HB.out⟩
theorem indexM_find (cp:Value) (p:Nat->Bool) (bs:List Nat) (w:World) (g cap:Nat) (hg:0<bs.length->g<w.heap.size) (hc:∀ i (hi:i<bs.length),w.cell? ⟨g,i,none⟩=some (.pointer (some ⟨bs[i],0,none⟩))) (hn:bs.length<=3001)
  (hp:∀ k (hk:k<bs.length) W,Below w.heap.size w W->Calls Tryz.prog 212 #[.pointer (some ⟨bs[k],0,none⟩),cp] W fun e w'=>e=.returned (.bool (p k))/\Below W.heap.size W w') :
  Calls Tryz.prog 168 #[.slice (some ⟨g,0,none⟩) bs.length cap,.func (.func 212) #[] #[cp]] w fun e w'=>∃ r:Int,e=.returned (.int .i64 r)/\FirstIx p bs.length r/\Below w.heap.size w w':=by
 have HC:=hide hc;have HP:=hide hp;clear hc hp;go_enter Tryz.func168,Tryz.ntmps168;go_wp2_with fail
 go_loopw [8] (fun v8 wr=>∃ k:Nat,k<=bs.length/\v8=.int .i64 k/\Below w.heap.size w wr/\∀ j,j<k->p j=false) (fun v8 _=>bs.length-(intOf v8).toNat)
 case atStart=>exact ⟨0,by omega,rfl,Below.refl _ _,fun j hj=>absurd hj (by omega)⟩
 case round =>
  obtain ⟨k,hk,rfl,hb,ha⟩:=hrel;have HA:=hide ha;have HB:=hide hb;have hsz:=hb.size;clear ha
  by_cases hlt:k<bs.length
  ·have hgl:=hg (by omega)
   have hki:(k:Int)<bs.length:=by omega
   have hk0:(0:Int)<=k:=by omega
   have x0:=(hb.cell (p:=⟨g,k,none⟩) hgl).trans (HC.out k hlt);have HK:=hide (HP.out k hlt wr HB.out);clear hb;generalize bs[k]=bk at *;go_wp2_with fail;refine HK.out.mono ?_;rintro e w1 ⟨rfl,hb1⟩;have HB1:=hide (HB.out.trans (hb1.mono HB.out.size));clear hb1 HK
   cases hq:p k with
   | true =>
    have HQ:=hide hq;clear hq;go_wp2_with fail;go_ret;exact ⟨k,rfl,.inl ⟨k,hlt,rfl,HQ.out,HA.out⟩,HB1.out⟩
   | false =>
    have HQ:=hide hq;clear hq;go_wp2_with fail
    go_roundw
    case rel=>exact ⟨k+1,by omega,by go_num,HB1.out,first_step HA.out HQ.out⟩
    case measure=>simp [intOf];omega
  ·obtain rfl:k=bs.length:=by omega
   go_wp2_with fail;go_ret;exact ⟨-1,rfl,.inr ⟨rfl,HA.out⟩,HB.out⟩
theorem indexV_question (cp:Value) (p:Nat->Bool) (vs:List VarA) (w:World) (g cap:Nat) (hg:0<vs.length->g<w.heap.size) (hc:∀ i (hi:i<vs.length),∀ k,k<12->w.cell? ⟨g,i*12+k,none⟩=(varC vs[i])[k]?) (hn:vs.length<=3001)
  (hp:∀ k (hk:k<vs.length) W,Below w.heap.size w W->Calls Tryz.prog 239 #[.agg (varC vs[k]).toArray,cp] W fun e w'=>e=.returned (.bool (p k))/\Below W.heap.size W w') :
  Calls Tryz.prog 224 #[.slice (some ⟨g,0,none⟩) vs.length cap,.func (.func 239) #[] #[cp]] w fun e w'=>∃ r:Int,e=.returned (.int .i64 r)/\FirstIx p vs.length r/\Below w.heap.size w w':=by
 have HC:=hide hc;have HP:=hide hp;clear hc hp;go_enter Tryz.func224,Tryz.ntmps224;go_wp2_with fail
 go_loopw [8] (fun v8 wr=>∃ k:Nat,k<=vs.length/\v8=.int .i64 k/\Below w.heap.size w wr/\∀ j,j<k->p j=false) (fun v8 _=>vs.length-(intOf v8).toNat)
 case atStart=>exact ⟨0,by omega,rfl,Below.refl _ _,fun j hj=>absurd hj (by omega)⟩
 case round =>
  obtain ⟨k,hk,rfl,hb,ha⟩:=hrel;have HA:=hide ha;have HB:=hide hb;have hsz:=hb.size;clear ha
  by_cases hlt:k<vs.length
  ·have hgl:=hg (by omega)
   have hki:(k:Int)<vs.length:=by omega
   have hk0:(0:Int)<=k:=by omega
   have hcc:=fun j hj=>(hb.cell (p:=⟨g,k*12+j,none⟩) hgl).trans (HC.out k hlt j hj)
   have HK:=hide (HP.out k hlt wr HB.out);clear hb;generalize vs[k]=va at *;obtain ⟨⟨k0,s0,n0,l0⟩,⟨k1,s1,n1,l1⟩,⟨k2,s2,n2,l2⟩⟩:=va;have z0:=hcc 0 (by omega);have z1:=hcc 1 (by omega);have z2:=hcc 2 (by omega);have z3:=hcc 3 (by omega);have z4:=hcc 4 (by omega);have z5:=hcc 5 (by omega);have z6:=hcc 6 (by omega);have z7:=hcc 7 (by omega);have z8:=hcc 8 (by omega);have z9:=hcc 9 (by omega);have z10:=hcc 10 (by omega);have z11:=hcc 11 (by omega);simp only [varC,tokV,List.cons_append,List.nil_append,List.getElem?_cons_succ,List.getElem?_cons_zero,Nat.add_zero] at z0 z1 z2 z3 z4 z5 z6 z7 z8 z9 z10 z11;simp only [varC,tokV,List.cons_append,List.nil_append] at HK;clear hcc;go_wp2_with fail;refine HK.out.mono ?_;rintro e w1 ⟨rfl,hb1⟩;have HB1:=hide (HB.out.trans (hb1.mono HB.out.size));clear hb1 HK
   cases hq:p k with
   | true =>
    have HQ:=hide hq;clear hq;go_wp2_with fail;go_ret;exact ⟨k,rfl,.inl ⟨k,hlt,rfl,HQ.out,HA.out⟩,HB1.out⟩
   | false =>
    have HQ:=hide hq;clear hq;go_wp2_with fail
    go_roundw
    case rel=>exact ⟨k+1,by omega,by go_num,HB1.out,first_step HA.out HQ.out⟩
    case measure=>simp [intOf];omega
  ·obtain rfl:k=vs.length:=by omega
   go_wp2_with fail;go_ret;exact ⟨-1,rfl,.inr ⟨rfl,HA.out⟩,HB.out⟩
end
section
open Go.RowKit
attribute [local go_sem ↓] Go.wp_at_zero Go.wp_at_succ
theorem enterEq_any (w:World) (b:Nat) (d:Bool) (h:w.cell? ⟨b,4,none⟩=some (.bool d)) :
  Calls Tryz.prog 169 #[.pointer (some ⟨b,0,none⟩)] w fun e w'=>e=.returned (.bool d)/\Below w.heap.size w w':=by
 go_enter Tryz.func169,Tryz.ntmps169;go_wp2_with fail;go_ret;exact ⟨rfl,Below.refl _ _⟩
def DefaultOk (ms:List Hx.MA):Prop:=∀ i,i<ms.length->Cx.isLeaf ms i=false->∃ j∈Cx.innerIx ms i,Cx.dfltOf ms j=true
theorem inner_mem {ms:List Hx.MA} {i j:Nat} (h:j∈Cx.innerIx ms i):∃ m,ms[j]? = some m/\m.outer=(i:Int):=by
 obtain ⟨p,hp,rfl⟩:=List.mem_map.1 h;obtain ⟨h1,h2⟩:=List.mem_filter.1 hp;obtain ⟨x,k⟩:=p;have:=List.mem_zipIdx h1;simp at this;exact ⟨x,by simp [this],by simpa using h2⟩
theorem inner_lt {gs:List MG} (hl:Links gs) {i j:Nat} (h:j∈Cx.innerIx (gs.map (·.a)) i):i<j/\j<gs.length:=by
 obtain ⟨m,hm,ho⟩:=inner_mem h;rw [List.getElem?_map,Option.map_eq_some_iff] at hm;obtain ⟨g,hg,rfl⟩:=hm;have hj:=(List.getElem?_eq_some_iff.1 hg).1;have:=(hl j g.key (by simp [hg])).lt;have e:g.key.outer=g.a.outer:=rfl;rw [e,ho] at this;exact ⟨by omega,hj⟩
theorem dfl_mem {ms:List Hx.MA} (hD:DefaultOk ms) {i:Nat} (hi:i<ms.length) (hq:Cx.isLeaf ms i=false):Cx.dfl ms i∈Cx.innerIx ms i:=by
 obtain ⟨j,hj,hd⟩:=hD i hi hq;unfold Cx.dfl
 cases hf:(Cx.innerIx ms i).find? (Cx.dfltOf ms) with
 | none=>have:=List.find?_eq_none.1 hf j hj;simp [hd] at this
 | some x=>exact List.mem_of_find?_eq_some hf
theorem enterF_fuel {gs:List MG} (hl:Links gs) (hD:DefaultOk (gs.map (·.a))):∀ (f f' i:Nat),gs.length-i<=f->gs.length-i<=f'->Cx.enterF (gs.map (·.a)) f i=Cx.enterF (gs.map (·.a)) f' i:=by
 have hout:∀ i,gs.length<=i->Cx.isLeaf (gs.map (·.a)) i=true:=fun i hi=>by
  cases hq:Cx.isLeaf (gs.map (·.a)) i with
  | true=>rfl
  | false =>
   unfold Cx.isLeaf at hq
   cases hx:Cx.innerIx (gs.map (·.a)) i with
   | nil=>rw [hx] at hq;cases hq
   | cons j r=>have:=inner_lt hl (i:=i) (j:=j) (by rw [hx];simp);omega
 intro f
 induction f with
 | zero =>
  intro f' i h1 _
  cases f' with
  | zero=>rfl
  | succ f'=>simp only [Cx.enterF,hout i (by omega),if_true]
 | succ f ih =>
  intro f' i h1 h2
  cases f' with
  | zero=>simp only [Cx.enterF,hout i (by omega),if_true]
  | succ f' =>
   simp only [Cx.enterF]
   cases hq:Cx.isLeaf (gs.map (·.a)) i with
   | true=>rfl
   | false =>
    have hi:i<gs.length:=by
     by_cases h:i<gs.length
     ·exact h
     ·have:=hout i (by omega);rw [hq] at this;cases this
    have:=inner_lt hl (dfl_mem hD (by simpa using hi) hq);exact ih f' _ (by omega) (by omega)
theorem enter_step {gs:List MG} (hl:Links gs) (hD:DefaultOk (gs.map (·.a))) {i:Nat} (hi:i<gs.length) (hq:Cx.isLeaf (gs.map (·.a)) i=false):Cx.enter (gs.map (·.a)) i=Cx.enter (gs.map (·.a)) (Cx.dfl (gs.map (·.a)) i):=by
 have:=inner_lt hl (dfl_mem hD (by simpa using hi) hq);have hlen:(gs.map (·.a)).length=gs.length:=by simp
 unfold Cx.enter;rw [hlen,show gs.length-i=(gs.length-i-1)+1 by omega,Cx.enterF,if_neg (by simp [hq])];exact enterF_fuel hl hD _ _ _ (by omega) (by omega)
theorem enter_leaf {ms:List Hx.MA} {i:Nat} (hi:i<ms.length) (hq:Cx.isLeaf ms i=true):Cx.enter ms i=i:=by
 unfold Cx.enter;rw [show ms.length-i=(ms.length-i-1)+1 by omega,Cx.enterF,if_pos hq]
theorem dfl_first {ms:List Hx.MA} (hD:DefaultOk ms) {i:Nat} (hi:i<ms.length) (hq:Cx.isLeaf ms i=false):∃ k,∃ hk:k<(Cx.innerIx ms i).length,(Cx.innerIx ms i)[k]=Cx.dfl ms i/\∀ r,FirstIx (fun k=>Cx.dfltOf ms ((Cx.innerIx ms i).getD k 0)) (Cx.innerIx ms i).length r->r=k:=by
 have hm:=dfl_mem hD hi hq;obtain ⟨j,hj,hd⟩:=hD i hi hq
 cases hf:(Cx.innerIx ms i).find? (Cx.dfltOf ms) with
 | none=>have:=List.find?_eq_none.1 hf j hj;simp [hd] at this
 | some x =>
  have hx:Cx.dfl ms i=x:=by simp [Cx.dfl,hf]
  obtain ⟨hpx,k,hk,hkx,hbefore⟩:=List.find?_eq_some_iff_getElem.1 hf;refine ⟨k,hk,by rw [hx];exact hkx,fun r hr=>?_⟩;have hpk:Cx.dfltOf ms ((Cx.innerIx ms i).getD k 0)=true:=by rw [List.getD_eq_getElem?_getD,List.getElem?_eq_getElem hk,Option.getD_some,hkx];exact hpx
  rcases hr with ⟨q,hq1,rfl,hq2,hq3⟩ | ⟨_,hno⟩
  ·rcases Nat.lt_trichotomy q k with h | h | h
   ·have h1:=hbefore q h
    simp only [List.getD_eq_getElem?_getD,List.getElem?_eq_getElem hq1,Option.getD_some] at hq2;simp [hq2] at h1
   ·rw [h]
   ·have h9:Cx.dfltOf ms ((Cx.innerIx ms i).getD k 0)=false:=hq3 k h
    rw [hpk] at h9;cases h9
  ·have h9:Cx.dfltOf ms ((Cx.innerIx ms i).getD k 0)=false:=hno k hk
   rw [hpk] at h9;cases h9
theorem dflt_cell {w:World} {base tb:Nat} {vt vv vm:Value} {vs:List VarA} {gs:List MG} {F:Nat->Prop} (hT:PT w base tb vt vs gs F vv vm) {j:Nat} (hj:j<gs.length):w.cell? ⟨bl gs j,4,none⟩=some (.bool (Cx.dfltOf (gs.map (·.a)) j)):=by
 rw [bl_at hj];refine ((hT.modeCells hj).1 4 (by omega)).trans ?_;simp [MG.box,tokV,Cx.dfltOf,hj]
theorem Enter_any (w:World) (base tb:Nat) (vt vv vm:Value) (vs:List VarA) (gs:List MG) (F:Nat->Prop) (hT:PT w base tb vt vs gs F vv vm) (hL:Links gs) (hgl:gs.length<=3001) (hD:DefaultOk (gs.map (·.a))) (i:Nat) (hi:i<gs.length) :
  Calls Tryz.prog 120 #[ptrV (bl gs i)] w fun e w'=>e=.returned (ptrV (bl gs (Cx.enter (gs.map (·.a)) i)))/\Below w.heap.size w w':=by
 have HT:=hide hT;have HL:=hide hL;have HD:=hide hD;clear hT hL hD;unfold ptrV;generalize hms:gs.map (·.a)=ms at *;have HMS:=hide hms;have hml:ms.length=gs.length:=by rw [<- hms];simp
 clear hms;go_enter Tryz.func120,Tryz.ntmps120;go_wp2_with fail
 go_loopg [0] (gs.length) (fun k v0 wr=>∃ j:Nat,j<gs.length/\gs.length-j<=k/\v0=.pointer (some ⟨bl gs j,0,none⟩)/\Below w.heap.size w wr/\Cx.enter ms j=Cx.enter ms i)
 case atStart=>exact ⟨i,hi,by omega,rfl,Below.refl _ _,rfl⟩
 case round =>
  obtain ⟨j,hj,hjk,rfl,hb,he⟩:=hrel;have HB:=hide hb;have HE:=hide he;have hsz:=hb.size;have HTr:=hide (HT.out.below hb);clear hb he;obtain ⟨aw,cw,hvw,_,_⟩:=row_shape (HTr.out.mem.own _ _ (pt_at2 hj));have hvw':gs[j].vw=.slice aw gs[j].wi.length cw:=hvw;have hwi:=wi_ix HL.out hj;have hlf:=leaf_iff HL.out hj;rw [HMS.out] at hwi hlf;have hwl:gs[j].wi.length=(Cx.innerIx ms j).length:=by rw [hwi];simp
  have c8:wr.cell? ⟨bl gs j,8,none⟩=some (.slice aw (Cx.innerIx ms j).length cw):=by
   rw [bl_at hj,<- hwl];exact ((HTr.out.modeCells hj).1 8 (by omega)).trans (by show some gs[j].vw=_;rw [hvw'])
  have hcells:∀ k (hk:k<(Cx.innerIx ms j).length),∃ gw,aw=some ⟨gw,0,none⟩/\gw<wr.heap.size/\wr.cell? ⟨gw,k,none⟩=some (.pointer (some ⟨bl gs (Cx.innerIx ms j)[k],0,none⟩)):=by
   intro k hk;have ho:wr.ownsRow base 164 1 gs[j].vw gs[j].wi.length (gs[j].wi.map ptrV):=HTr.out.mem.own _ _ (pt_at2 hj);obtain ⟨gw,cap,hv2,_,hgl2,_,_,hcc⟩:=row_open ho (by omega);rw [hvw'] at hv2
   cases hv2
   refine ⟨gw,rfl,hgl2,(hcc k (by omega)).trans ?_⟩;rw [hwi,List.map_map,List.getElem?_map,List.getElem?_eq_getElem hk];rfl
  have hinl:(Cx.innerIx ms j).length<=3001:=by
   have h1:((Cx.innerIx ms j)).length<=ms.length:=by
    unfold Cx.innerIx;rw [List.length_map];exact Nat.le_trans (List.length_filter_le _ _) (by simp)
   omega
  rw [hwl] at hlf;have HCE:=hide hcells;clear hcells hvw hvw' hwi hwl
  cases hq:Cx.isLeaf ms j with
  | true =>
   have h0:(Cx.innerIx ms j).length=0:=by rw [hq] at hlf;simpa using hlf.symm
   have HQ:=hide hq;rw [h0] at c8;clear hq hlf;go_wp2_with fail;go_ret;exact ⟨by rw [<- HE.out,enter_leaf (by omega) HQ.out];rfl,HB.out⟩
  | false =>
   have h0:¬ (Cx.innerIx ms j).length=0:=by rw [hq] at hlf;simpa using hlf.symm
   have h0i:(0:Int)<(Cx.innerIx ms j).length:=by omega
   obtain ⟨k0,hk0,hkd,hfirst⟩:=dfl_first HD.out (by omega) hq;obtain ⟨gw,rfl,hgw,hck⟩:=HCE.out k0 hk0;rw [hkd] at hck;have hdm:=inner_lt HL.out (i:=j) (j:=Cx.dfl ms j) (by rw [HMS.out];exact dfl_mem HD.out (by omega) hq)
   have HES:Hid (Cx.enter ms j=Cx.enter ms (Cx.dfl ms j)):=hide (by
    have:=enter_step HL.out (i:=j) (by rw [HMS.out];exact HD.out) hj (by rw [HMS.out];exact hq)
    rw [HMS.out] at this;exact this)
   have hki:(k0:Int)<(Cx.innerIx ms j).length:=by omega
   have hk00:(0:Int)<=k0:=by omega
   have CK:Hid (∀ Y,Below wr.heap.size wr Y->Calls Tryz.prog 168 #[.slice (some ⟨gw,0,none⟩) (Cx.innerIx ms j).length cw,.func (.func 169) #[] #[]] Y fun e w'=>e=.returned (.int .i64 k0)/\Below Y.heap.size Y w'):=hide (fun Y hY=>by
    have hlen:((Cx.innerIx ms j).map (bl gs)).length=(Cx.innerIx ms j).length:=by simp
    have:=indexM_enter (fun k=>Cx.dfltOf ms ((Cx.innerIx ms j).getD k 0)) ((Cx.innerIx ms j).map (bl gs)) Y gw cw (fun _=>Nat.lt_of_lt_of_le hgw hY.size) (fun k hk=>by
     rw [hlen] at hk;obtain ⟨gw2,e2,h2,h3⟩:=HCE.out k hk
     cases e2
     rw [List.getElem_map];exact (hY.cell hgw).trans h3) (by rw [hlen];exact hinl) (fun k hk W hW=>by
     rw [hlen] at hk;have hmem:=inner_lt HL.out (i:=j) (j:=(Cx.innerIx ms j)[k]) (by rw [HMS.out];exact List.getElem_mem hk);have:=dflt_cell ((HTr.out.below hY).below hW) hmem.2;rw [HMS.out] at this;rw [List.getElem_map,List.getD_eq_getElem?_getD,List.getElem?_eq_getElem hk,Option.getD_some]
     exact enterEq_any W _ _ this)
    rw [hlen] at this;refine this.mono ?_;rintro e w' ⟨r,rfl,hr,hb'⟩;rw [hfirst r hr]
    exact ⟨rfl,hb'⟩)
   have hbk:bl gs j<wr.heap.size:=by rw [bl_at hj];exact (HTr.out.modeCells hj).2.2.2.1
   clear hq hlf hkd hfirst HCE;generalize bl gs j=bj at *;generalize (Cx.innerIx ms j).length=nl at *;go_wp2_with fail
   go_region_held3 (fun Y=>Y.cell? ⟨bj,8,none⟩=some (.slice (some ⟨gw,0,none⟩) nl cw)/\Y.cell? ⟨gw,k0,none⟩=some (.pointer (some ⟨bl gs (Cx.dfl ms j),0,none⟩))) (first | go_keep | (exact ⟨by with_reducible assumption,by with_reducible assumption⟩))
    ((go_at_call 168;refine (CK.out _ ?_).mono ?_;exact ⟨rfl,rfl,rfl,Nat.le_refl _,fun _ _=>rfl⟩;rintro e w2 ⟨rfl,hb2⟩;have z1:=(hb2.cell (p:=⟨bj,8,none⟩) hbk).trans c8;have z2:=(hb2.cell (p:=⟨gw,k0,none⟩) hgw).trans hck))
   have HB2:Hid (Below w.heap.size w w2):=hide (HB.out.trans ((show Below wr.heap.size wr w2 from ⟨hb2.os,hb2.tape,hb2.output,hb2.size,hb2.block⟩).mono hsz));clear hb2 z1 z2 c8 hck;go_wp2_with fail
   go_roundg (gs.length-Cx.dfl ms j)
   case measure=>omega
   case rel=>exact ⟨Cx.dfl ms j,hdm.2,Nat.le_refl _,rfl,HB2.out,HES.out.symm.trans HE.out⟩
end
section
open Go.RowKit
attribute [local go_sem ↓] Go.wp_at_zero Go.wp_at_succ
theorem first_findIdx {α : Type} (l:List α) (q : α -> Bool) (p:Nat->Bool) (hp:∀ k (hk:k<l.length),p k=q l[k]) (hany:l.any q=true):l.findIdx q<l.length/\∀ r,FirstIx p l.length r->r=(l.findIdx q:Nat):=by
 have hlt:l.findIdx q<l.length:=List.findIdx_lt_length_of_exists (List.any_eq_true.1 hany);have hat:q l[l.findIdx q]=true:=List.findIdx_getElem (w:=hlt);refine ⟨hlt,fun r hr=>?_⟩;rcases hr with ⟨k,hk,rfl,h1,h2⟩ | ⟨_,hno⟩
 ·rcases Nat.lt_trichotomy k (l.findIdx q) with h | h | h
  ·have:=List.not_of_lt_findIdx h
   rw [hp k hk] at h1;exact absurd h1 (by simpa using this)
  ·rw [h]
  ·have:=h2 _ h
   rw [hp _ hlt,hat] at this;cases this
 ·have:=hno _ hlt
  rw [hp _ hlt,hat] at this;cases this
theorem findEq_any (w:World) (mb nb:Nat) (s n:ByteArray) (hs:w.cell? ⟨mb,1,none⟩=some (.string s)) (hn:w.cell? ⟨nb,0,none⟩=some (.string n)) :
  Calls Tryz.prog 212 #[.pointer (some ⟨mb,0,none⟩),.pointer (some ⟨nb,0,none⟩)] w fun e w'=>e=.returned (.bool (s.toList == n.toList))/\Below w.heap.size w w':=by
 go_enter Tryz.func212,Tryz.ntmps212;go_wp2_with fail
 go_quiet (fail)
 go_wp2_with fail;go_ret;exact ⟨rfl,⟨rfl,rfl,rfl,Nat.le_refl _,fun _ _=>rfl⟩⟩
theorem modeIx_any (gs:List MG) (n:ByteArray):(gs.map (·.a)).findIdx (fun m=>m.name.s.toList == n.toList)=gs.findIdx (sameM n):=by
 rw [List.findIdx_map];rfl
theorem Find_any (w:World) (base tb:Nat) (vt vv vm:Value) (vs:List VarA) (gs:List MG) (F:Nat->Prop) (hT:PT w base tb vt vs gs F vv vm) (hgl:gs.length<=3001) (n:ByteArray) (hany:gs.any (sameM n)=true) :
  Calls Tryz.prog 170 #[.pointer (some ⟨tb,0,none⟩),.string n] w fun e w'=>e=.returned (ptrV (bl gs (Cx.modeIx (gs.map (·.a)) n)))/\Below w.heap.size w w':=by
 have HB:Hid (Below w.heap.size w (w.alloc (.cells #[.string n] 9))):=hide ((Below.refl _ _).alloc (Nat.le_refl _) _);have HX:=hide (heap_alloc_new w (.cells #[.string n] 9));have hz:(w.alloc (.cells #[.string n] 9)).heap.size=w.heap.size+1:=by simp
 have HT:=hide (hT.below HB.out);have htl:=hT.cells.2.2.2.2.2.1;obtain ⟨am,cm,hvm,_,_⟩:=row_shape (hT.mem.own 2 _ rfl);simp only at hvm;subst hvm;obtain ⟨X,hX⟩ : ∃ X,X=w.alloc (.cells #[.string n] 9):=⟨_,rfl⟩;rw [<- hX] at HB HX hz HT;obtain ⟨_,_,x2,_,_,htX,_⟩:=HT.out.cells;obtain ⟨hk,hfirst⟩:=first_findIdx gs (sameM n) (fun k=>((gs.map (fun m:MG=>m.a.name.s)).getD k ⟨#[]⟩).toList == n.toList) (fun k hk=>by simp [hk,sameM]) hany;rw [Cx.modeIx,modeIx_any];generalize gs.findIdx (sameM n)=k0 at *;rw [bl_at hk];obtain ⟨gm,capm,_,e,hgl',hcc⟩:=HT.out.msl.resolve_left (fun h=>by omega)
 cases e
 have hgm:=hgl' (by omega);have hck:=(hcc k0 hk).1;have xn:X.cell? ⟨w.heap.size,0,none⟩=some (.string n):=Lib.cell_of_heap HX.out 0;have hki:(k0:Int)<gs.length:=by omega
 have hk00:(0:Int)<=k0:=by omega
 have CK:Hid (∀ Y,Below X.heap.size X Y->Calls Tryz.prog 168 #[.slice (some ⟨gm,0,none⟩) gs.length cm,.func (.func 212) #[] #[.pointer (some ⟨w.heap.size,0,none⟩)]] Y fun e w'=>e=.returned (.int .i64 k0)/\Below Y.heap.size Y w'):=hide (fun Y hY=>by
  have hlen:(gs.map (·.blk)).length=gs.length:=by simp
  have:=indexM_find (.pointer (some ⟨w.heap.size,0,none⟩)) (fun k=>((gs.map (fun m:MG=>m.a.name.s)).getD k ⟨#[]⟩).toList == n.toList) (gs.map (·.blk)) Y gm cm (fun _=>Nat.lt_of_lt_of_le hgm hY.size) (fun k hk=>by
   rw [hlen] at hk;rw [List.getElem_map];exact (hY.cell hgm).trans (hcc k hk).1) (by rw [hlen];exact hgl) (fun k hk W hW=>by
   rw [hlen] at hk;rw [List.getElem_map];have e2:(gs.map (fun m:MG=>m.a.name.s)).getD k ⟨#[]⟩=gs[k].a.name.s:=by simp [hk]
   rw [e2];have hXW:=hY.trans (hW.mono hY.size)
   exact findEq_any W _ _ _ _ ((hXW.cell (hcc k hk).2.2).trans (hcc k hk).2.1) ((hXW.cell (p:=⟨w.heap.size,0,none⟩) (show w.heap.size<X.heap.size by omega)).trans xn))
  rw [hlen] at this;refine this.mono ?_;rintro e w' ⟨r,rfl,hr,hb'⟩;rw [hfirst r hr]
  exact ⟨rfl,hb'⟩)
 unfold ptrV;generalize gs[k0].blk=bk at *;clear hcc hfirst hany hT HX xn;go_enter Tryz.func170,Tryz.ntmps170;go_upto_region 1 with (fail);rw [<- hX];clear hX
 go_region_held3 (fun Y=>Y.cell? ⟨tb,2,none⟩=some (.slice (some ⟨gm,0,none⟩) gs.length cm)/\Y.cell? ⟨gm,k0,none⟩=some (.pointer (some ⟨bk,0,none⟩))) (first | go_keep | (exact ⟨by with_reducible assumption,by with_reducible assumption⟩))
  ((go_at_call 168;refine (CK.out _ ?_).mono ?_;exact ⟨rfl,rfl,rfl,Nat.le_refl _,fun _ _=>rfl⟩;rintro e w2 ⟨rfl,hb2⟩;have z1:=(hb2.cell (p:=⟨tb,2,none⟩) htX).trans x2;have z2:=(hb2.cell (p:=⟨gm,k0,none⟩) hgm).trans hck))
 have HB2:Hid (Below w.heap.size w w2):=hide (HB.out.trans ((show Below X.heap.size X w2 from ⟨hb2.os,hb2.tape,hb2.output,hb2.size,hb2.block⟩).mono (by omega)));clear hb2 z1 z2 x2 hck;go_wp2_with fail;go_ret;exact ⟨rfl,HB2.out⟩
end
section
open Go.RowKit
attribute [local go_sem ↓] Go.wp_at_zero Go.wp_at_succ
theorem outer_of {gs:List MG} {i:Nat} (hi:i<gs.length):Cx.outerOf (gs.map (·.a)) i=gs[i].a.outer:=by simp [Cx.outerOf,hi]
theorem outer_lt {gs:List MG} (hl:Links gs) {i:Nat} (hi:i<gs.length):Cx.outerOf (gs.map (·.a)) i<i /\ -1<=Cx.outerOf (gs.map (·.a)) i:=by
 rw [outer_of hi];have h:=hl i gs[i].key (by simp [hi]);exact ⟨h.lt,h.low⟩
theorem pathF_fuel {gs:List MG} (hl:Links gs):∀ (i:Nat),i<gs.length->∀ f,i<=f->Cx.pathF (gs.map (·.a)) f i=Cx.path (gs.map (·.a)) i:=by
 intro i
 induction i using Nat.strongRecOn with
 | _ i ih =>
  intro hi f hf;have ho:=outer_lt hl hi;unfold Cx.path
  cases i with
  | zero =>
   have h0:Cx.outerOf (gs.map (·.a)) 0<0:=by omega
   cases f with
   | zero=>rfl
   | succ f =>
    show (if Cx.outerOf (gs.map (·.a)) 0<0 then [0] else _)=_;rw [if_pos h0];rfl
  | succ i =>
   cases f with
   | zero=>omega
   | succ f =>
    rw [Cx.pathF,Cx.pathF]
    by_cases h0:Cx.outerOf (gs.map (·.a)) (i+1)<0
    ·rw [if_pos h0,if_pos h0]
    ·rw [if_neg h0,if_neg h0,ih _ (by omega) (by omega) f (by omega),ih _ (by omega) (by omega) i (by omega)]
theorem path_step {gs:List MG} (hl:Links gs) {i:Nat} (hi:i<gs.length):Cx.path (gs.map (·.a)) i=if Cx.outerOf (gs.map (·.a)) i<0 then [i] else Cx.path (gs.map (·.a)) (Cx.outerOf (gs.map (·.a)) i).toNat++[i]:=by
 rw [<- pathF_fuel hl i hi (i+1) (by omega),Cx.pathF];have ho:=outer_lt hl hi
 by_cases h0:Cx.outerOf (gs.map (·.a)) i<0
 ·rw [if_pos h0,if_pos h0]
 ·rw [if_neg h0,if_neg h0,pathF_fuel hl _ (by omega) i (by omega)]
theorem path_len {gs:List MG} (hl:Links gs):∀ i,i<gs.length->(Cx.path (gs.map (·.a)) i).length<=i+1:=by
 intro i
 induction i using Nat.strongRecOn with
 | _ i ih =>
  intro hi;have ho:=outer_lt hl hi;rw [path_step hl hi]
  by_cases h0:Cx.outerOf (gs.map (·.a)) i<0
  ·rw [if_pos h0];simp
  ·rw [if_neg h0,List.length_append]
   have:=ih (Cx.outerOf (gs.map (·.a)) i).toNat (by omega) (by omega);simp;omega
theorem around_cell {w:World} {base tb:Nat} {vt vv vm:Value} {vs:List VarA} {gs:List MG} {F:Nat->Prop} (hT:PT w base tb vt vs gs F vv vm) (hl:Links gs) {i:Nat} (hi:i<gs.length) :
  w.cell? ⟨bl gs i,6,none⟩=some (if Cx.outerOf (gs.map (·.a)) i<0 then .pointer none else ptrV (bl gs (Cx.outerOf (gs.map (·.a)) i).toNat)):=by
 have ho:=outer_lt hl hi;rw [bl_at hi];refine ((hT.modeCells hi).1 6 (by omega)).trans ?_;have hk:=hl i gs[i].key (by simp [hi]);have har:gs[i].ar=if gs[i].a.outer<0 then none else ((gs.map MG.key)[gs[i].a.outer.toNat]?).map Key.blk:=hk.ar;rw [outer_of hi] at *;show some (arV gs[i].ar)=_;rw [har]
 by_cases h0:gs[i].a.outer<0
 ·rw [if_pos h0,if_pos h0];rfl
 ·have hl2:gs[i].a.outer.toNat<gs.length:=by omega
  rw [if_neg h0,if_neg h0,bl_at hl2];simp [hl2,arV,MG.key]
theorem Path_any (base tb:Nat) (vt vv vm:Value) (vs:List VarA) (gs:List MG) (F:Nat->Prop) (hL:Links gs) (hgl:gs.length<=3001):∀ (i:Nat) (_:i<gs.length) (w:World),PT w base tb vt vs gs F vv vm ->
  Calls Tryz.prog 112 #[ptrV (bl gs i)] w fun e w'=>∃ v,e=.returned v/\w'.ownsRow w.heap.size 164 1 v (Cx.path (gs.map (·.a)) i).length ((Cx.path (gs.map (·.a)) i).map fun j=>ptrV (bl gs j))/\Below w.heap.size w w':=by
 intro i
 induction i using Nat.strongRecOn with
 | _ i ih =>
  intro hi w hT;have ho:=outer_lt hL hi;have hst:=path_step hL hi;have har:=around_cell hT hL hi;have IH:=hide ih;obtain ⟨i0,hi0,hz0,hz1,hz2⟩:=info_parts Tryz.infoPtrA
  by_cases h0:Cx.outerOf (gs.map (·.a)) i<0
  ·rw [if_pos h0] at hst har
   rw [hst];unfold ptrV;clear ih IH hst;go_enter Tryz.func112,Tryz.ntmps112;go_wp2_with fail;go_ret;exact ⟨_,rfl,own_made w _ _ (Nat.le_refl _) rfl [_] _ 1 1 rfl (by unfold maxLen;omega),(Below.refl _ _).alloc (Nat.le_refl _) _⟩
  ·rw [if_neg h0] at hst har
   have HS:=hide hst;have hplen:=path_len hL (Cx.outerOf (gs.map (·.a)) i).toNat (by omega);have HI:=hide (IH.out (Cx.outerOf (gs.map (·.a)) i).toNat (by omega) (by omega) w hT);have hol:(Cx.outerOf (gs.map (·.a)) i).toNat<gs.length:=by omega
   clear ih IH hst;generalize (Cx.outerOf (gs.map (·.a)) i).toNat=o at *;rw [HS.out];unfold ptrV at *;go_enter Tryz.func112,Tryz.ntmps112;go_wp2_with fail;refine HI.out.mono ?_;rintro e w1 ⟨v1,rfl,ho1,hb1⟩;have HO1:=hide ho1;have HB1:=hide hb1;have hs1:=hb1.size;obtain ⟨a1,c1,rfl,_,_⟩:=row_shape ho1;clear ho1 hb1 HI har;go_wp2_with (at_builtin;refine wpList_append_own_at _ rfl _ _ 85 rfl w.heap.size 164 i0 _ 1 8 Tryz.underlying85 hi0 hz0 hz1 hz2 rfl (by decide) _ (Cx.path (gs.map (·.a)) o).length _ rfl (own_below HO1.out ((Below.refl _ _).alloc (Nat.le_refl _) _)) ⟨w1.heap.size,0,none⟩ 1 1 [.pointer (some ⟨bl gs i,0,none⟩)] rfl rfl (news_new _ _ rfl [_] _) ?c2 ?c3 ?c4 ?c5 ?_)
   case c2=>intro u hu;simp at hu;rcases hu with rfl;rfl
   case c3=>unfold maxLen;omega
   case c4=>omega
   case c5=>simp;omega
   intro v9 w9 hown hgrow _ hat;have hG:=gr_made hown hgrow (by simpa using hat);have HB9:Hid (Below w.heap.size w w9):=hide (HB1.out.trans (hG.kept.toBelow (fun k e=>(HO1.out.lt k e).1) hs1));have HO9:=hide hG.own;clear hown hgrow hat hG;go_wp2_with fail;go_ret;exact ⟨_,rfl,by rw [List.length_append,List.map_append];exact HO9.out,HB9.out⟩
end
end Go.Proofs.YtdjaiolfdbamcaaGreatDoor
