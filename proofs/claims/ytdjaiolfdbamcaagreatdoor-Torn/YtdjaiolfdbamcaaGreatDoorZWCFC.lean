/- The walk of combine. -/
import Derived.Test.YtdjaiolfdbamcaaGreatDoorZWCF9
import Derived.Test.YtdjaiolfdbamcaaGreatDoorZWCE7
import Derived.ArgAppend
import Derived.Deep.RegionLaw
set_option maxRecDepth 20000
set_option maxHeartbeats 2000000
namespace Go.Proofs.YtdjaiolfdbamcaaGreatDoor
section
open Go.RowKit
theorem Clip_any (w:World) (a:Option Addr) (n c:Nat) (hc:n<=c):Calls Tryz.prog 166 #[.slice a n c] w fun e w'=>e=.returned (.slice a n n)/\Below w.heap.size w w':=by
 have hnc:(n:Int)<=c:=by omega
 go_enter Tryz.func166,Tryz.ntmps166;go_wp2_with fail;go_ret;exact ⟨rfl,Below.refl _ _⟩
def NI (W:World) (s:Value) (l:List Int):Prop :=
 ∃ g cap cur,s=.slice (some ⟨g,0,none⟩) l.length cap/\l.length<=cap/\cap<=maxLen/\W.heap[g]? = some (.cells cur 3 (0,0))/\cur.toList.take l.length=l.map (.int .i64)
theorem ni_of {W:World} {base n:Nat} {v:Value} {l:List Int} (h:W.ownsRow base 3 1 v n (l.map (.int .i64))) (hn:n=l.length) (h0:0<n):NI W v l:=by
 subst hn;rcases h.2 with ⟨_,h1⟩ | ⟨g,cap,cur,rfl,_,hg,hc,hm,_,ht⟩
 ·omega
 ·exact ⟨g,cap,cur,rfl,hc,hm,hg,by simpa using ht⟩
theorem NI.kept {F:Nat->Prop} {W W':World} {s:Value} {l:List Int} (h:NI W s l) (hk:Kp F W W') (hF:∀ g cur,W.heap[g]? = some (.cells cur 3 (0,0))->¬ F g):NI W' s l:=by
 obtain ⟨g,cap,cur,e,h1,h2,hg,ht⟩:=h;exact ⟨g,cap,cur,e,h1,h2,(hk.block g (Array.getElem?_eq_some_iff.1 hg).1 (hF g cur hg)).trans hg,ht⟩
theorem NI.below {W W':World} {s:Value} {l:List Int} (h:NI W s l) (hb:Below W.heap.size W W'):NI W' s l:=h.kept (Kp.ofBelow (F:=fun _=>False) hb) (fun _ _ _ h=>h)
theorem take_at {cur:Array Value} {l:List Int} (h:cur.toList.take l.length=l.map (.int .i64)) {i:Nat} (hi:i<l.length):cur[i]? = some (.int .i64 l[i]):=by
 have h1:(cur.toList.take l.length)[i]? = some (.int .i64 l[i]):=by rw [h];simp [hi]
 rw [List.getElem?_take_of_lt hi] at h1;simpa using h1
theorem NI.nr {W:World} {s:Value} {l:List Int} (h:NI W s l):NR W s l:=by
 obtain ⟨g,cap,cur,e,h1,_,hg,ht⟩:=h;exact ⟨g,cap,e,h1,(Array.getElem?_eq_some_iff.1 hg).1,fun i hi=>(Lib.cell_of_heap hg i).trans (take_at ht hi)⟩
structure LR (W:World) (base:Nat) (s:Value) (ls:List (List Int)) (vals:List Value):Prop where
 len:vals.length=ls.length
 own:W.ownsRow base 32 1 s ls.length vals
 ni:∀ i (hi:i<vals.length) (hj:i<ls.length),NI W vals[i] ls[i]
theorem LR.below {W W':World} {base:Nat} {s:Value} {ls:List (List Int)} {vals:List Value} (h:LR W base s ls vals) (hb:Below W.heap.size W W'):LR W' base s ls vals:=⟨h.len,own_below h.own hb,fun i hi hj=>(h.ni i hi hj).below hb⟩
theorem LR.nil (W:World) (base:Nat):LR W base (.slice none 0 0) [] []:=⟨rfl,World.ownsRow_nil _ _ _ _,fun i hi=>by simp at hi⟩
theorem LR.snoc {W W':World} {base m:Nat} {s s' x:Value} {ls:List (List Int)} {vals:List Value} {l:List Int} (h:LR W base s ls vals) (hx:NI W x l) (hg:W.grownBy W' s.ownBlock) (ho:W'.ownsRow base 32 1 s' m (vals++[x])) (hm:m=ls.length+1):LR W' base s' (ls++[l]) (vals++[x]):=by
 have hk:Kp (fun k=>s.ownBlock=some k) W W':=⟨hg.os,hg.tape,hg.output,hg.size,fun k hk hn=>hg.block k hk (fun e=>hn e.symm)⟩;have hF:∀ g cur,W.heap[g]? = some (.cells cur 3 (0,0))->¬ s.ownBlock=some g:=fun g cur hg=>row_not_entry h.own hg (by decide)
 refine ⟨by simp [h.len],by rw [List.length_append];rw [hm] at ho;exact ho,fun i hi hj=>?_⟩
 by_cases hl:i<vals.length
 ·have hl2:i<ls.length:=by rw [<- h.len];exact hl
  rw [List.getElem_append_left hl,List.getElem_append_left hl2];exact (h.ni i hl hl2).kept hk hF
 ·have he:i=vals.length:=by simp at hi;omega
  subst he;have e1:(vals++[x])[vals.length]=x:=by simp
  have e2:(ls++[l])[vals.length]'hj=l:=by simp [h.len]
  rw [e1,e2];exact hx.kept hk hF
namespace Cx
theorem longer_snoc (ls:List (List Int)) (j:Nat) (c:List Int) (h:j<ls.length):longer (ls.take (j+1)) c=longer (ls.take j) c++c.map (fun n=>ls[j]++[n]):=by
 unfold longer;rw [List.take_add_one,List.getElem?_eq_getElem h,List.flatMap_append];simp
theorem map_snoc (l c:List Int) (q:Nat) (h:q<c.length):(c.take (q+1)).map (fun n=>l++[n])=(c.take q).map (fun n=>l++[n])++[l++[c[q]]]:=by
 rw [List.take_add_one,List.getElem?_eq_getElem h,List.map_append];simp
end Cx
theorem Tryz.infoSl:(Tryz.prog.info? 32).map (fun i=>(i.zero,i.size,i.bytes))=some (some (.slice none 0 0),1,24):=by kernel_rfl
theorem combine_any (w:World) (g cap:Nat) (cs:List (List Int)) (vals:List Value) (hlv:vals.length=cs.length) (hg:0<cs.length->g<w.heap.size) (hc:∀ i (hi:i<vals.length),w.cell? ⟨g,i,none⟩=some vals[i]) (hn:∀ i (hi:i<vals.length) (hj:i<cs.length),NR w vals[i] cs[i])
  (hl:cs.length<=1000) (hcl:∀ c∈cs,c.length<=1000) (hb:∀ i,(Cx.combine (cs.take i)).length<=100000000) :
  Calls Tryz.prog 115 #[.slice (some ⟨g,0,none⟩) cs.length cap] w fun e w'=>∃ s us,e=.returned s/\LR w' w.heap.size s (Cx.combine cs) us/\Below w.heap.size w w':=by
 have HC:=hide hc;have HN:=hide hn;have HB:=hide hb;have HL:=hide hcl;have HV:=hide hlv;clear hc hn hb hcl;obtain ⟨i0,hi0,hz0,hz1,hz2⟩:=info_parts Tryz.infoIntT;obtain ⟨j0,hj0,hw0,hw1,hw2⟩:=info_parts Tryz.infoSl;go_enter Tryz.func115,Tryz.ntmps115;go_wp2_with fail
 go_loopg [3,15] (cs.length) (fun k v3 v15 wr=>∃ (i:Nat) (us:List Value),i+k=cs.length/\v15=.int .i64 i/\Below w.heap.size w wr/\LR wr w.heap.size v3 (Cx.combine (cs.take i)) us)
 case atStart =>
  refine ⟨0,[.slice (some ⟨w.heap.size,0,none⟩) 0 0],by omega,rfl,below_two _ _ _,rfl,?_,fun i hi hj=>?_⟩
  ·have:=World.ownsRow_lit (size:=1) (base:=w.heap.size) (e:=32) (w.alloc (.cells #[] 3)) #[.slice (some ⟨w.heap.size,0,none⟩) 0 0] 1 (size_one w _) (by decide) rfl
   rw [size_one'] at this;exact this
  ·have he:i=0:=by simp at hi;omega
   subst he;exact ⟨w.heap.size,0,#[],rfl,Nat.le_refl _,by unfold maxLen;omega,((below_a (w.alloc _) _).block w.heap.size (by simp)).trans (heap_alloc_new _ _),rfl⟩
 case round =>
  obtain ⟨i,us,hi,rfl,hbo,hR⟩:=hrel;obtain ⟨wo,rfl⟩ : ∃ wo,wo=wr:=⟨wr,rfl⟩;have HBO:=hide hbo;have HR:=hide hR;have hsz:=hbo.size;obtain ⟨aL,cL,rfl,_,_⟩:=row_shape hR.own;clear hR
  by_cases hlt:i<cs.length
  ·have hli:(i:Int)<cs.length:=by omega
   have hi0':(0:Int)<=i:=by omega
   have hgw:=hg (by omega);have hvi:i<vals.length:=by omega
   have x0:=(hbo.cell (p:=⟨g,i,none⟩) hgw).trans (HC.out i hvi);obtain ⟨gc,cc,ev,_,hgc,hcc⟩:=HN.out i hvi hlt;rw [ev] at x0;have HCC:=hide (fun q hq=>(hbo.cell (p:=⟨gc,q,none⟩) hgc).trans (hcc q hq));have hgo:gc<wo.heap.size:=by omega
   have hcl:=HL.out cs[i] (List.getElem_mem hlt)
   have HS:Hid (Cx.combine (cs.take (i+1))=Cx.longer (Cx.combine (cs.take i)) cs[i]):=hide (by
    rw [List.take_add_one,List.getElem?_eq_getElem hlt];exact Cx.combine_snoc _ _)
   have hbn:=HB.out i;have hbn1:=HB.out (i+1);rw [HS.out,Cx.longer_count] at hbn1;have hll:=Cx.combine_lens cs i (by omega);have HLL:=hide hll;clear hbo ev hcc hll;generalize cs[i]=c at *;generalize Cx.combine (cs.take i)=ls at *;go_wp2_with fail;clear x0
   go_loopg [6,21] (ls.length) (fun k v6 v21 wm=>∃ (j:Nat) (ws:List Value),j+k=ls.length/\v21=.int .i64 j/\Below wo.heap.size wo wm/\LR wm wo.heap.size v6 (Cx.longer (ls.take j) c) ws)
   case atStart=>exact ⟨0,[],by omega,rfl,Below.refl _ _,LR.nil _ _⟩
   case round =>
    obtain ⟨j,ws,hj,rfl,hbm,hM⟩:=hrel;obtain ⟨wm,rfl⟩ : ∃ wm,wm=wr:=⟨wr,rfl⟩;have HBM:=hide hbm;have HM:=hide hM;have hsm:=hbm.size;obtain ⟨aM,cM,rfl,_,_⟩:=row_shape hM.own;clear hM
    by_cases hltj:j<ls.length
    ·have hlj:(j:Int)<ls.length:=by omega
     have hj0':(0:Int)<=j:=by omega
     have huj:j<us.length:=by rw [HR.out.len];exact hltj
     obtain ⟨gL,capL,hL,_,hgL,_,_,hLc⟩:=row_open HR.out.own (by omega)
     cases hL
     have hne:=HR.out.ni j huj hltj;have x0:=(hbm.cell (p:=⟨gL,j,none⟩) hgL).trans ((hLc j (by omega)).trans (List.getElem?_eq_getElem huj));have HNE:=hide hne;obtain ⟨gl,cl,curl,evl,hlc,hlm,hgl,_⟩:=hne;rw [evl] at x0 HNE;have hll:ls[j].length<=1000:=by have:=HLL.out ls[j] (List.getElem_mem hltj);omega
     have HSN:=hide (Cx.longer_snoc ls j c hltj);have hM0:(Cx.longer (ls.take j) c).length+c.length<=100000000:=by
      rw [Cx.longer_count,List.length_take];have h1:(j+1)*c.length<=ls.length*c.length:=Nat.mul_le_mul_right _ hltj;rw [Nat.succ_mul] at h1;rw [show min j ls.length=j by omega];omega
     generalize ls[j]=l at *;obtain ⟨bs,hbs⟩ : ∃ bs,bs=Cx.longer (ls.take j) c:=⟨_,rfl⟩;rw [<- hbs] at HM hM0 HSN |-;clear hbs evl hLc;go_wp2_with fail;clear x0
     go_loopg [6,27] (c.length) (fun k v6 v27 wi=>∃ (q:Nat) (ws:List Value),q+k=c.length/\v27=.int .i64 q/\Below wo.heap.size wo wi/\LR wi wo.heap.size v6 (bs++(c.take q).map (fun n=>l++[n])) ws)
     case atStart=>exact ⟨0,ws,by omega,rfl,HBM.out,by simpa using HM.out⟩
     case round =>
      obtain ⟨q,vs,hq,rfl,hbi,hI⟩:=hrel;have HBI:=hide hbi;have HI:=hide hI;have hsi:=hbi.size;obtain ⟨aI,cI,rfl,_,_⟩:=row_shape hI.own;clear hI
      by_cases hltq:q<c.length
      ·have hlq:(q:Int)<c.length:=by omega
       have hq0':(0:Int)<=q:=by omega
       have x0:=(hbi.cell (p:=⟨gc,q,none⟩) hgo).trans (HCC.out q hltq);have HQ:=hide (Cx.map_snoc l c q hltq);have HNI:=hide (HNE.out.below hbi);have hlen:(bs++(c.take q).map (fun n=>l++[n])).length=bs.length+q:=by simp;omega
       have HCL:=hide (fun Y=>Clip_any Y (some ⟨gl,0,none⟩) l.length cl hlc);generalize c[q]=x at *;obtain ⟨es,hes⟩ : ∃ es,es=bs++(c.take q).map (fun n=>l++[n]):=⟨_,rfl⟩;rw [<- hes] at HI hlen |-;have HES:=hide hes;clear hes hbi;rw [hlen];go_wp2_with fail;refine (HCL.out _).mono ?_;rintro e w1 ⟨rfl,hb1⟩;have HB1:=hide hb1;have hs1:=hb1.size;obtain ⟨gx,cx,ex,_,hgx,hcx⟩:=(HNI.out.below hb1).nr
       cases ex
       have hcx':∀ i (hi:i<l.length),w1.cell? ⟨gl,0+i,none⟩=some (.int .i64 l[i]):=fun i hi=>by rw [Nat.zero_add];exact hcx i hi
       clear hb1 x0 hcx;go_wp2_with (at_builtin;refine wpList_append_grows _ rfl _ _ 32 rfl 3 i0 _ 1 8 Tryz.underlying32 hi0 hz0 hz1 hz2 rfl (by decide) (some ⟨gl,0,none⟩) l.length l.length (l.map (.int .i64)) rfl ?d1 ?d2 ?d3 ⟨w1.heap.size,0,none⟩ 1 1 [.int .i64 x] rfl rfl (news_new _ _ rfl [_] _) (ones1 rfl) ?c3 ?c4 ?c5 ?_)
       case d1=>intro h;cases h
       case d2=>simp
       case d3=>intro b hb;cases hb;exact ints_at hcx' hgx (below_a _ _)
       case c3=>omega
       case c4=>unfold maxLen;omega
       case c5=>omega
       intro v2 w2 hown2 hg2;obtain ⟨a2,c2,rfl,_,_⟩:=row_shape hown2;have hb2:Below w1.heap.size w1 w2:=⟨hg2.os,hg2.tape,hg2.output,by have:=hg2.size;simp at this;omega,fun k hk=>(hg2.block k (by simp;omega) (by simp)).trans ((below_a w1 _).block k hk)⟩;have HB2:=hide hb2;have hs2:=hb2.size;have HN2:Hid (NI w2 (.slice a2 (l.length+1) c2) (l++[x])):=hide (ni_of (by rw [List.map_append];exact hown2) (by simp) (by omega));have HI2:Hid (LR w2 wo.heap.size (.slice aI es.length cI) es vs):=hide ((HI.out.below HB1.out).below hb2);rw [hlen] at HI2;have HIO:Hid (w2.ownsRow wo.heap.size 32 1 (.slice aI (bs.length+q) cI) (bs.length+q) vs):=hide (by have:=HI2.out.own;rw [hlen] at this;exact this);clear hown2 hg2 hb2 hcx';go_wp2_with (at_builtin;refine wpList_append_own_at _ rfl _ _ 24 rfl wo.heap.size 32 j0 _ 1 24 Tryz.underlying24 hj0 hw0 hw1 hw2 rfl (by decide) _ (bs.length+q) _ rfl (own_below HIO.out (below_a _ _)) ⟨w2.heap.size,0,none⟩ 1 1 [.slice a2 (l.length+1) c2] rfl rfl (news_new _ _ rfl [_] _) (ones1 rfl) ?e3 ?e4 ?e5 ?_)
       case e3=>unfold maxLen;omega
       case e4=>omega
       case e5=>simp;omega
       intro v9 w9 hown hgrow _ hat
       have HL9:Hid (LR w9 wo.heap.size v9 (bs++(c.take (q+1)).map (fun n=>l++[n])) (vs++[.slice a2 (l.length+1) c2])):=hide (by
        rw [HQ.out,<- List.append_assoc,<- HES.out]
        exact (HI2.out.below (below_a _ _)).snoc (HN2.out.below (below_a _ _)) hgrow hown (by rw [hlen]))
       have HB9:Hid (Below wo.heap.size wo w9):=hide (by
        have hG:=gr_made hown hgrow (by simpa using hat)
        exact (((HBI.out.trans (HB1.out.mono hsi)).trans (HB2.out.mono (by omega)))).trans (hG.kept.toBelow (fun k e=>(HIO.out.lt k e).1) (by omega)))
       clear hown hgrow hat;go_wp2_with fail
       go_roundg (c.length-(q+1))
       case measure=>omega
       case rel=>exact ⟨q+1,_,by omega,by go_num,HB9.out,HL9.out⟩
      ·obtain rfl:q=c.length:=by omega
       have he:bs++(c.take c.length).map (fun n=>l++[n])=Cx.longer (ls.take (j+1)) c:=by rw [List.take_length,HSN.out]
       rw [he] at HI;rw [he];go_wp2_with fail
       go_roundg (ls.length-(j+1))
       case measure=>omega
       case rel=>exact ⟨j+1,vs,by omega,by go_num,HBI.out,HI.out⟩
    ·obtain rfl:j=ls.length:=by omega
     have he:Cx.longer (ls.take ls.length) c=Cx.combine (cs.take (i+1)):=by rw [List.take_length,HS.out]
     rw [he] at HM;rw [he];have HB9:Hid (Below w.heap.size w wm):=hide (HBO.out.trans (hbm.mono hsz));have HM9:Hid (LR wm w.heap.size (.slice aM (Cx.combine (cs.take (i+1))).length cM) (Cx.combine (cs.take (i+1))) ws):=hide ⟨HM.out.len,own_mono HM.out.own hsz,HM.out.ni⟩;go_wp2_with fail
     go_roundg (cs.length-(i+1))
     case measure=>omega
     case rel=>exact ⟨i+1,ws,by omega,by go_num,HB9.out,HM9.out⟩
  ·obtain rfl:i=cs.length:=by omega
   have he:Cx.combine (cs.take cs.length)=Cx.combine cs:=by rw [List.take_length]
   rw [he] at HR;rw [he];go_wp2_with fail;go_ret;exact ⟨_,us,rfl,HR.out,HBO.out⟩
end
section
open Go.RowKit Go.Maps
attribute [local go_sem ↓] Go.wp_at_zero Go.wp_at_succ
def SI (W:World) (s:Value) (l:List Int):Prop :=
 ∃ g cap cur,s=.slice (some ⟨g,0,none⟩) l.length cap/\W.heap[g]? = some (.cells cur 214 (0,0))/\cur.toList.take l.length=l.map (.int .u32)
theorem si_of {W:World} {base n:Nat} {v:Value} {l:List Int} (h:W.ownsRow base 214 1 v n (l.map (.int .u32))) (hn:n=l.length) (h0:0<n):SI W v l:=by
 subst hn;rcases h.2 with ⟨_,h1⟩ | ⟨g,cap,cur,rfl,_,hg,_,_,_,ht⟩
 ·omega
 ·exact ⟨g,cap,cur,rfl,hg,by simpa using ht⟩
theorem SI.kept {F:Nat->Prop} {W W':World} {s:Value} {l:List Int} (h:SI W s l) (hk:Kp F W W') (hF:∀ g cur,W.heap[g]? = some (.cells cur 214 (0,0))->¬ F g):SI W' s l:=by
 obtain ⟨g,cap,cur,e,hg,ht⟩:=h;exact ⟨g,cap,cur,e,(hk.block g (Array.getElem?_eq_some_iff.1 hg).1 (hF g cur hg)).trans hg,ht⟩
theorem SI.below {W W':World} {s:Value} {l:List Int} (h:SI W s l) (hb:Below W.heap.size W W'):SI W' s l:=h.kept (Kp.ofBelow (F:=fun _=>False) hb) (fun _ _ _ h=>h)
theorem SI.sr {W:World} {s:Value} {l:List Int} (h:SI W s l):SR W s l:=by
 obtain ⟨g,cap,cur,e,hg,ht⟩:=h;refine ⟨g,cap,e,(Array.getElem?_eq_some_iff.1 hg).1,fun i hi=>(Lib.cell_of_heap hg i).trans ?_⟩;have h1:(cur.toList.take l.length)[i]? = some (.int .u32 l[i]):=by rw [ht];simp [hi]
 rw [List.getElem?_take_of_lt hi] at h1;simpa using h1
def plC (p:ByteArray×Value):List Value:=[.string p.1,p.2]
structure PR (W:World) (base:Nat) (s:Value) (ps:List (ByteArray×List Int)) (pv:List (ByteArray×Value)):Prop where
 len:pv.length=ps.length
 own:W.ownsRow base 213 2 s ps.length (pv.flatMap plC)
 nm:∀ i (hi:i<pv.length) (hj:i<ps.length),pv[i].1=ps[i].1
 si:∀ i (hi:i<pv.length) (hj:i<ps.length),SI W pv[i].2 ps[i].2
theorem PR.below {W W':World} {base:Nat} {s:Value} {ps:List (ByteArray×List Int)} {pv:List (ByteArray×Value)} (h:PR W base s ps pv) (hb:Below W.heap.size W W'):PR W' base s ps pv:=⟨h.len,own_below h.own hb,h.nm,fun i hi hj=>(h.si i hi hj).below hb⟩
theorem PR.nil (W:World) (base:Nat):PR W base (.slice none 0 0) [] []:=⟨rfl,World.ownsRow_nil _ _ _ _,fun i hi=>by simp at hi,fun i hi=>by simp at hi⟩
theorem PR.snoc {W W':World} {base m:Nat} {s s' x:Value} {ps:List (ByteArray×List Int)} {pv:List (ByteArray×Value)} {n:ByteArray} {l:List Int} (h:PR W base s ps pv) (hx:SI W x l) (hg:W.grownBy W' s.ownBlock) (ho:W'.ownsRow base 213 2 s' m (pv.flatMap plC++[.string n,x])) (hm:m=ps.length+1):PR W' base s' (ps++[(n,l)]) (pv++[(n,x)]):=by
 have hk:Kp (fun k=>s.ownBlock=some k) W W':=⟨hg.os,hg.tape,hg.output,hg.size,fun k hk hn=>hg.block k hk (fun e=>hn e.symm)⟩;have hF:∀ g cur,W.heap[g]? = some (.cells cur 214 (0,0))->¬ s.ownBlock=some g:=fun g cur hg=>row_not_entry h.own hg (by decide)
 have e0:∀ (hi:pv.length<(pv++[(n,x)]).length),(pv++[(n,x)])[pv.length]=(n,x):=fun _=>by simp
 have e2:∀ (hj:pv.length<(ps++[(n,l)]).length),(ps++[(n,l)])[pv.length]=(n,l):=fun _=>by simp [h.len]
 refine ⟨by simp [h.len],by rw [List.length_append,List.flatMap_append];rw [hm] at ho;exact ho,fun i hi hj=>?_,fun i hi hj=>?_⟩
 ·by_cases hl:i<pv.length
  ·have hl2:i<ps.length:=by rw [<- h.len];exact hl
   rw [List.getElem_append_left hl,List.getElem_append_left hl2];exact h.nm i hl hl2
  ·have he:i=pv.length:=by simp at hi;omega
   subst he;rw [e0,e2]
 ·by_cases hl:i<pv.length
  ·have hl2:i<ps.length:=by rw [<- h.len];exact hl
   rw [List.getElem_append_left hl,List.getElem_append_left hl2];exact (h.si i hl hl2).kept hk hF
  ·have he:i=pv.length:=by simp at hi;omega
   subst he;rw [e0,e2];exact hx.kept hk hF
theorem flat2 (pv:List (ByteArray×Value)):∀ i (hi:i<pv.length),(pv.flatMap plC)[i*2]? = some (.string pv[i].1)/\(pv.flatMap plC)[i*2+1]? = some pv[i].2:=by
 intro i hi;have h:=fun j hj=>flatC plC 2 pv (fun _=>rfl) i j hi hj
 exact ⟨h 0 (by omega),h 1 (by omega)⟩
theorem PR.plm {W:World} {base:Nat} {s:Value} {ps:List (ByteArray×List Int)} {pv:List (ByteArray×Value)} (h:PR W base s ps pv) (h0:0<ps.length):PlM W s ps:=by
 obtain ⟨g,cap,hv,_,hg,_,_,hc⟩:=row_open h.own h0;refine ⟨g,cap,hv,hg,fun i hi=>?_⟩;have hi2:i<pv.length:=by rw [h.len];exact hi
 obtain ⟨f1,f2⟩:=flat2 pv i hi2;refine ⟨(hc (i*2) (by omega)).trans (f1.trans (by rw [h.nm i hi2 hi])),_,(hc (i*2+1) (by omega)).trans f2,(h.si i hi2 hi).sr⟩
theorem name_of {gs:List MG} {j:Nat} (hj:j<gs.length):Cx.nameOf (gs.map (·.a)) j=gs[j].a.name.s:=by simp [Cx.nameOf,hj]
theorem name_cell {w:World} {base tb:Nat} {vt vv vm:Value} {vs:List VarA} {gs:List MG} {F:Nat->Prop} (hT:PT w base tb vt vs gs F vv vm) {j:Nat} (hj:j<gs.length):w.cell? ⟨bl gs j,1,none⟩=some (.string (Cx.nameOf (gs.map (·.a)) j))/\bl gs j<w.heap.size:=by
 rw [name_of hj,bl_at hj];exact ⟨((hT.modeCells hj).1 1 (by omega)).trans rfl,(hT.modeCells hj).2.2.2.1⟩
theorem Tryz.infoRowSet:(Tryz.prog.info? 214).map (fun i=>(i.zero,i.size,i.bytes))=some (some (.int .u32 0),1,4):=by kernel_rfl
theorem Tryz.infoPlace:(Tryz.prog.info? 213).map (fun i=>(i.zero,i.size,i.bytes))=some (some (.agg #[.string ⟨#[]⟩,.slice none 0 0]),2,40):=by kernel_rfl
theorem map_kp {H:Type} {P:Program} {k:TypeId} {R:Value->Option (DataW H×List MemPlace)} {w w':World} {b n:Nat} {D:DataW H} {F:Nat->Prop} (h:w.ownsMap P k R b n D) (hk:Kp F w w') (hF:¬ F b):w'.ownsMap P k R b n D:=by
 have hlt:=h.lt;obtain ⟨es,clock,hb,f,hs,hD⟩:=h;exact ⟨es,clock,(hk.block b hlt hF).trans hb,f,hs,hD⟩
theorem leaves_lt (ms:List Hx.MA):∀ j∈Cx.leaves ms,j<ms.length:=by
 intro j hj;have:=(List.mem_filter.1 hj).1;simpa using this
theorem placesOf_any (w:World) (base tb:Nat) (vt vv vm:Value) (vs:List VarA) (gs:List MG) (F:Nat->Prop) (hT:PT w base tb vt vs gs F vv vm) (hL:Links gs) (hgl:gs.length<=1000) (hrl:(Cx.rowNames (gs.map (·.a))).length<=100000) (hnm:∀ m∈gs,m.a.name.s.size<=1000) :
  Calls Tryz.prog 76 #[.pointer (some ⟨tb,0,none⟩)] w fun e w'=>∃ s pv,e=.returned s/\PR w' w.heap.size s (Cx.places (gs.map (·.a))) pv/\Below w.heap.size w w':=by
 have HRO:=hide (rowsOf_any w base tb vt vv vm vs gs F hT (by omega) hrl hnm);have HT:=hide hT;have HLK:=hide hL;have HNM:=hide hnm;clear hT hL hnm;obtain ⟨i0,hi0,hz0,hz1,hz2⟩:=info_parts Tryz.infoRowSet;obtain ⟨j0,hj0,hw0,hw1,hw2⟩:=info_parts Tryz.infoPlace;go_enter Tryz.func76,Tryz.ntmps76;go_wp2_with fail;refine HRO.out.mono ?_;rintro e w1 ⟨D,rfl,ho1,hD,hb1⟩;have HLV:=hide (Leaves_any w1 base tb vt vv vm vs gs F (HT.out.below hb1) HLK.out (by omega));have HB1:=hide hb1;have HO1:=hide ho1;have HD:=hide hD;have hs1:=hb1.size;have hm1:=ho1.lt;clear hb1 ho1 hD HRO;go_wp2_with fail;refine HLV.out.mono ?_;rintro e w2 ⟨v2,rfl,ho2,hb2⟩;obtain ⟨aL,cL,rfl,_,_⟩:=row_shape ho2;have HB2:=hide hb2;have HL2:=hide ho2;have hs2:=hb2.size;have HO2:Hid (w2.ownsMap Tryz.prog 9 (plainElem Tryz.prog 214) w.heap.size 100000 D):=hide (map_kp HO1.out (Kp.ofBelow (F:=fun _=>False) hb2) (fun h=>h));have HT2:=hide ((HT.out.below HB1.out).below hb2);have HLT:=hide (leaves_lt (gs.map (·.a)));have hlen:=leavesTo_len (gs.map (·.a)) (gs.map (·.a)).length;have hlen2:(Cx.leaves (gs.map (·.a))).length<=1000:=by
  have:(gs.map (·.a)).length=gs.length:=by simp
  unfold Cx.leaves;omega
 have HPL:Hid (Cx.places (gs.map (·.a))=(Cx.leaves (gs.map (·.a))).map (Cx.placeOf (gs.map (·.a)))):=hide rfl;clear hb2 ho2 HLV HO1 hlen;generalize hlv:Cx.leaves (gs.map (·.a))=lv at *;have HLV:=hide hlv;clear hlv;go_wp2_with fail
 go_loopg [4,15] (lv.length) (fun k v4 v15 wr=>∃ (i:Nat) (pv:List (ByteArray×Value)),i+k=lv.length/\v15=.int .i64 i/\Below w2.heap.size w2 wr/\PR wr w2.heap.size v4 ((lv.take i).map (Cx.placeOf (gs.map (·.a)))) pv)
 case atStart=>exact ⟨0,[],by omega,rfl,Below.refl _ _,PR.nil _ _⟩
 case round =>
  obtain ⟨i,pv,hi,rfl,hbo,hP⟩:=hrel;obtain ⟨wo,rfl⟩ : ∃ wo,wo=wr:=⟨wr,rfl⟩;have HBO:=hide hbo;have HP:=hide hP;have hso:=hbo.size;obtain ⟨aP,cP,rfl,_,_⟩:=row_shape hP.own;clear hP
  by_cases hlt:i<lv.length
  ·have hli:(i:Int)<lv.length:=by omega
   have hi0':(0:Int)<=i:=by omega
   obtain ⟨gL,capL,hL,_,hgL,_,_,hLc⟩:=row_open HL2.out (by omega)
   cases hL
   have x0:=(hbo.cell (p:=⟨gL,i,none⟩) hgL).trans ((hLc i (by omega)).trans (by rw [List.getElem?_map,List.getElem?_eq_getElem hlt]));have hli2:lv[i]<gs.length:=by have:=HLT.out lv[i] (List.getElem_mem hlt);simpa using this
   obtain ⟨hnc,hbl⟩:=name_cell HT2.out hli2;have c1:=(hbo.cell (p:=⟨bl gs lv[i],1,none⟩) hbl).trans hnc;have HSN:Hid ((lv.take (i+1)).map (Cx.placeOf (gs.map (·.a)))=(lv.take i).map (Cx.placeOf (gs.map (·.a)))++[Cx.placeOf (gs.map (·.a)) lv[i]]):=hide (by rw [List.take_add_one,List.getElem?_eq_getElem hlt,List.map_append];rfl);have hlt0:((lv.take i).map (Cx.placeOf (gs.map (·.a)))).length=i:=by simp;omega
   simp only [Option.map_some] at x0;obtain ⟨ps,hps⟩ : ∃ ps,ps=(lv.take i).map (Cx.placeOf (gs.map (·.a))):=⟨_,rfl⟩;rw [<- hps] at HP HSN hlt0 |-;clear hbo hLc hnc hps;rw [hlt0];generalize lv[i]=li at *;have HPO:Hid (Cx.placeOf (gs.map (·.a)) li=(Cx.nameOf (gs.map (·.a)) li,(Cx.path (gs.map (·.a)) li).map fun j=>Cx.setOf (gs.map (·.a)) (Cx.nameOf (gs.map (·.a)) j))):=hide rfl;have hpl:=path_len HLK.out li hli2;have HPT:=hide (path_lt HLK.out li hli2);have hp0:0<(Cx.path (gs.map (·.a)) li).length:=by
    rw [path_step HLK.out hli2];split <;> simp
   generalize Cx.nameOf (gs.map (·.a)) li=nl at *;unfold ptrV at x0;have HPA:=hide (fun (Y:World) (hY:Below wo.heap.size wo Y)=>Path_any base tb vt vv vm vs gs F HLK.out (by omega) li hli2 Y (((HT2.out.below HBO.out)).below hY));unfold ptrV at HPA;go_wp2_with fail;refine (HPA.out _ (below_a _ _)).mono ?_;rintro e w3 ⟨v3,rfl,ho3,hb3⟩;have hsa:(wo.alloc (.cells #[.string nl,.slice none 0 0] 213)).heap.size=wo.heap.size+1:=by simp
   have hx3:w3.heap[wo.heap.size]? = some (.cells #[.string nl,.slice none 0 0] 213 (0,0)):=(hb3.block wo.heap.size (by rw [hsa];omega)).trans (heap_alloc_new _ _);have hb3':Below wo.heap.size wo w3:=(below_a wo _).trans (hb3.mono (below_a _ _).size);have HB3:=hide hb3';have hs3:=hb3.size;rw [hsa] at hs3;have HX3:=hide hx3;obtain ⟨gP,capP,hP,hgPb,hgP,_,_,hPc⟩:=row_open ho3 hp0;rw [hsa] at hgPb;subst hP;have HPC:=hide hPc;have HT3:=hide ((HT2.out.below HBO.out).below hb3');have HM3:Hid (w3.ownsMap Tryz.prog 9 (plainElem Tryz.prog 214) w.heap.size 100000 D):=hide (map_kp (map_kp HO2.out (Kp.ofBelow (F:=fun _=>False) HBO.out) (fun h=>h)) (Kp.ofBelow (F:=fun _=>False) hb3') (fun h=>h));have hmlt:w.heap.size<wo.heap.size:=by omega
   clear ho3 hb3 hb3' hPc hx3 HPA x0 c1;generalize hpe:Cx.path (gs.map (·.a)) li=pth at *;clear hpe;go_wp2_with fail
   go_loopg [28] (pth.length) (fun k v28 wr=>∃ (j:Nat) (pv:Value),j+k=pth.length/\v28=.int .i64 j/\Kp (fun k=>k=wo.heap.size) w3 wr/\wr.heap[wo.heap.size]? = some (.cells #[.string nl,pv] 213 (0,0))/\wr.ownsRow w3.heap.size 214 1 pv j (((pth.take j).map fun j=>Cx.setOf (gs.map (·.a)) (Cx.nameOf (gs.map (·.a)) j)).map (.int .u32)))
   case atStart=>exact ⟨0,.slice none 0 0,by omega,rfl,Kp.refl _ _,HX3.out,World.ownsRow_nil _ _ _ _⟩
   case round =>
    obtain ⟨j,qv,hj,rfl,hk,hx,hq⟩:=hrel;have HK:=hide hk;have HX:=hide hx;have HQ:=hide hq;have hsk:=hk.size;obtain ⟨aQ,cQ,rfl,_,_⟩:=row_shape hq
    by_cases hltj:j<pth.length
    ·have hlj:(j:Int)<pth.length:=by omega
     have hj0':(0:Int)<=j:=by omega
     have hjg:pth[j]<gs.length:=HPT.out pth[j] (List.getElem_mem hltj);have x0:=(hk.cell (b:=gP) (o:=j) hgP (by omega)).trans ((HPC.out j (by omega)).trans (by rw [List.getElem?_map,List.getElem?_eq_getElem hltj]));simp only [Option.map_some] at x0;obtain ⟨hnc,hbl3⟩:=name_cell HT3.out hjg;have hblo:bl gs pth[j]<wo.heap.size:=by have:=(name_cell (HT2.out) hjg).2;omega
     have n1:=(hk.cell (b:=bl gs pth[j]) (o:=1) hbl3 (by omega)).trans hnc;have hns:(Cx.nameOf (gs.map (·.a)) pth[j]).size<=1000:=by rw [name_of hjg];exact HNM.out _ (List.getElem_mem hjg)
     have p1:wr.cell? ⟨wo.heap.size,1,none⟩=some (.slice aQ j cQ):=Lib.cell_of_heap hx 1;have HMR:=map_kp HM3.out hk (show ¬ w.heap.size=wo.heap.size by omega);obtain ⟨cv,hrun,hat,hwc⟩:=(World.ownsMap.drew HMR).lookup_int Tryz.keyStr Tryz.underlying209 Tryz.underlying214 (Tryz.zeroRowSet _) (Go.WideMaps.keyOf_string_mk (P:=Tryz.prog) Tryz.underlying9 (s:=Cx.nameOf (gs.map (·.a)) pth[j]) (by unfold maxLen;omega));have hcv:cv=Cx.setOf (gs.map (·.a)) (Cx.nameOf (gs.map (·.a)) pth[j]):=by
      have:=(HD.out.2 (Cx.nameOf (gs.map (·.a)) pth[j])).symm.trans hat;simpa using this.symm
     have HTK:Hid (((pth.take (j+1)).map fun j=>Cx.setOf (gs.map (·.a)) (Cx.nameOf (gs.map (·.a)) j)).map (Value.int .u32)=((pth.take j).map fun j=>Cx.setOf (gs.map (·.a)) (Cx.nameOf (gs.map (·.a)) j)).map (Value.int .u32)++[.int .u32 cv]):=hide (by
      rw [List.take_add_one,List.getElem?_eq_getElem hltj,List.map_append,List.map_append,hcv];rfl)
     clear hnc hat hcv hwc hx hq hk HMR;generalize bl gs pth[j]=bk at *;generalize Cx.nameOf (gs.map (·.a)) pth[j]=nj at *;generalize ((pth.take j).map fun j=>Cx.setOf (gs.map (·.a)) (Cx.nameOf (gs.map (·.a)) j)).map (Value.int .u32)=xs at *;have hjl:j<=1000:=by omega
     have hml:j+1<=maxLen:=by unfold maxLen;omega
     have hmb:(j+1)*4<=140737488355328:=by omega
     have hbo3:wo.heap.size<w3.heap.size:=by omega
     have hor:wo.heap.size<wr.heap.size:=by omega
     have HQO:=hide HQ.out;have hqb:∀ k,(Value.slice aQ j cQ).ownBlock=some k->w3.heap.size<=k:=fun k hk=>(HQ.out.lt k hk).1
     go_upto_region 10 with (fail)
     go_region_law (refine step_append_own_at rfl _ _ 211 rfl w3.heap.size 214 i0 _ 1 4 Tryz.underlying211 hi0 hz0 hz1 hz2 rfl (by decide) _ j xs rfl (own_below HQO.out (below_ad _ _)) ⟨_,0,none⟩ 1 1 [.int .u32 cv] rfl rfl (news_ad _ _ rfl [.int .u32 cv] _) (ones1 rfl) hml hmb (Nat.le_trans hsk (below_ad _ _).size) ?_;intro v5 w5 hown hgrow hat;obtain ⟨a5,c5,rfl,_,_⟩:=row_shape hown;have hx5:=(hgrow.block wo.heap.size (Nat.lt_of_lt_of_le hor (below_ad _ _).size) (fun e=>by have:=hqb _ e.symm;omega)).trans (((below_ad wr _).block wo.heap.size hor).trans HX.out);have y5:w5.cell? ⟨wo.heap.size,1,none⟩=some (.slice aQ j cQ):=Lib.cell_of_heap hx5 1;have f5:w5.frozen? ⟨wo.heap.size,1,none⟩=false:=Lib.frozen_of_heap hx5 1)
     all_goals
      have hk5:Kp (fun k=>k=wo.heap.size) w3 w5:=((HK.out.alloc _).drew.grown hgrow (fun k e=>.inr (hqb k e)));have HK9:Hid (Kp (fun k=>k=wo.heap.size) w3 (w5.setCell ⟨wo.heap.size,1,none⟩ (.slice a5 (j+1) c5))):=hide (hk5.setCell (p:=⟨wo.heap.size,1,none⟩) (.inl rfl) _);have HX9:Hid ((w5.setCell ⟨wo.heap.size,1,none⟩ (.slice a5 (j+1) c5)).heap[wo.heap.size]? = some (.cells #[.string nl,.slice a5 (j+1) c5] 213 (0,0))):=hide (set_heap (o:=1) hx5);have HQ9:Hid ((w5.setCell ⟨wo.heap.size,1,none⟩ (.slice a5 (j+1) c5)).ownsRow w3.heap.size 214 1 (.slice a5 (j+1) c5) (j+1) (xs++[.int .u32 cv])):=hide (((Kp.refl (fun k=>k=wo.heap.size) w5).setCell (p:=⟨wo.heap.size,1,none⟩) (.inl rfl) _).own hown (fun k hk e=>by have:=(hown.lt k hk).1;omega));rw [<- HTK.out] at HQ9;clear hown hgrow hat hk5 hx5 hrun x0 n1 p1;go_wp2_with fail
      go_roundg (pth.length-(j+1))
      case measure=>omega
      case rel=>exact ⟨j+1,_,by omega,by go_num,HK9.out,HX9.out,HQ9.out⟩
    ·obtain rfl:j=pth.length:=by omega
     have HSI:Hid (SI wr (.slice aQ pth.length cQ) (pth.map fun j=>Cx.setOf (gs.map (·.a)) (Cx.nameOf (gs.map (·.a)) j))):=hide (si_of (by rw [List.take_length] at hq;exact hq) (by simp) hp0);have p0:wr.cell? ⟨wo.heap.size,0,none⟩=some (.string nl):=Lib.cell_of_heap hx 0;have p1:wr.cell? ⟨wo.heap.size,1,none⟩=some (.slice aQ pth.length cQ):=Lib.cell_of_heap hx 1;have hbr:Below wo.heap.size wo wr:=HB3.out.trans (hk.toBelow (fun k e=>by omega) (by omega));have HBR:=hide hbr;have HPR:=hide (HP.out.below hbr);rw [hlt0] at HPR;have HPO':=hide HPR.out.own;rw [hlt0] at HPO';have hwr:w2.heap.size<=wr.heap.size:=by omega
     have hil:i<=1000:=by omega
     clear hk hx hq hbr;go_wp2_with (at_builtin;refine wpList_append_own_at _ rfl _ _ 155 rfl w2.heap.size 213 j0 _ 2 40 Tryz.underlying155 hj0 hw0 hw1 hw2 rfl (by decide) _ i _ rfl (own_below HPO'.out (below_a _ _)) ⟨wr.heap.size,0,none⟩ 1 1 [.string nl,.slice aQ pth.length cQ] rfl rfl (news_new _ _ rfl [.string nl,.slice aQ pth.length cQ] _) (ones2 rfl rfl) ?e3 ?e4 ?e5 ?_)
     case e3=>unfold maxLen;omega
     case e4=>omega
     case e5=>first | omega | (simp;omega)
     intro v9 w9 hown hgrow _ hat;have HP9:=hide ((HPR.out.below (below_a wr _)).snoc (HSI.out.below (below_a wr _)) hgrow hown (by rw [hlt0]));rw [<- HPO.out,<- HSN.out] at HP9
     have HB9:Hid (Below w2.heap.size w2 w9):=hide (by
      have hG:=gr_made hown hgrow (by simpa using hat)
      exact (HBO.out.trans (HBR.out.mono hso)).trans (hG.kept.toBelow (fun k e=>(HPO'.out.lt k e).1) hwr))
     clear hown hgrow hat;go_wp2_with fail
     go_roundg (lv.length-(i+1))
     case measure=>omega
     case rel=>exact ⟨i+1,_,by omega,by go_num,HB9.out,HP9.out⟩
  ·obtain rfl:i=lv.length:=by omega
   have he:(lv.take lv.length).map (Cx.placeOf (gs.map (·.a)))=Cx.places (gs.map (·.a)):=by rw [List.take_length,HPL.out]
   rw [he] at HP;rw [he];have HB9:Hid (Below w.heap.size w wo):=hide ((HB1.out.trans (HB2.out.mono hs1)).trans (HBO.out.mono (by omega)));have HP9:=hide (own_mono HP.out.own (show w.heap.size<=w2.heap.size by omega));have HQ9:Hid (PR wo w.heap.size (.slice aP (Cx.places (gs.map (·.a))).length cP) (Cx.places (gs.map (·.a))) pv):=hide ⟨HP.out.len,HP9.out,HP.out.nm,HP.out.si⟩;go_wp2_with fail;go_ret;exact ⟨_,rfl,⟨pv,HQ9.out⟩,HB9.out⟩
end
end Go.Proofs.YtdjaiolfdbamcaaGreatDoor
