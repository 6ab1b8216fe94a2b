/- The walk of sure (of the statements' own). -/
import Derived.Test.YtdjaiolfdbamcaaGreatDoorZWCG2
import Derived.Test.YtdjaiolfdbamcaaGreatDoorZKWa
set_option maxRecDepth 20000
set_option maxHeartbeats 4000000
namespace Go.Proofs.YtdjaiolfdbamcaaGreatDoor
section
open Go.RowKit
theorem right_imageT:((⟨(Cx.imageOf rightP.1 rightP.2).toArray⟩ : ByteArray).toList.isEmpty)=false:=by
 obtain ⟨l,hl⟩ : ∃ l,Cx.imageOf rightP.1 rightP.2=72::l:=⟨_,rfl⟩;rw [hl,Lib.toList_data];rfl
theorem sure_anyT (w:World) (hsg:SignsIs w) (htab:∀ W,Below w.heap.size w W->Lib.TabIs Tryz.prog W "internal/strconv.uint64pow10" .u64 Lib.pow10Tab) :
  Calls Tryz.prog 16 #[] w fun e w'=>e=.returned (.bool true)/\Below w.heap.size w w':=by
 have HC:=hide (compile_s ⟨rightL.toArray⟩ w (by unfold maxLen;decide +kernel) hsg htab);clear hsg htab;go_enter Tryz.func16,Tryz.ntmps16;go_wp2_with fail;refine HC.out.mono ?_;rintro e w1 ⟨img,code,line,nm,av,au,nv,cv,nu,cu,rfl,hc,hb⟩;obtain ⟨rfl,rfl,hi⟩:=comp_right hc;have he:img.toList.isEmpty=false:=by rw [hi];exact right_imageT
 have hX1:=heap_alloc_new w1 (.cells #[.int .i64 0,.int .i64 ((0:Nat):Int),.string nm,.slice av nv cv,.slice au nu cu] 34);have HB:=hide (hb.alloc hb.size (.cells #[.int .i64 0,.int .i64 ((0:Nat):Int),.string nm,.slice av nv cv,.slice au nu cu] 34));have a0:=Lib.cell_of_heap hX1 0;clear hc hi hb HC;go_wp2_with fail;go_ret;exact ⟨rfl,HB.out⟩
end
section
open Hx
theorem lx_blank:Lx [32] []:=⟨1,by decide,fun f r acc=>by
 have h:lexF (f+1) ([32]++32::r) 1 acc=lexF f (32::r) 1 acc:=by kernel_rfl
 rw [h,List.append_nil]⟩
theorem lex_of {p:List UInt8} {ts:List Hx.Tok} (h:Lx p ts):lex (p++[32,125])=.inr (ts++[sT [125]]++[endTok 1]):=by
 obtain ⟨n,hn,hx⟩:=h;unfold lex;obtain ⟨k,hk⟩ : ∃ k,(p++[32,125]).length+1=(k+3)+n:=⟨p.length-n,by simp only [List.length_append,List.length_cons,List.length_nil];omega⟩;rw [hk];have e:=hx (k+3) [125] [];have e2:p++32::[125]=p++[32,125]:=rfl;rw [<- e2,e];have e3:∀ acc,lexF (k+3) [32,125] 1 acc=.inr ((acc++[sT [125]])++[endTok 1]):=fun acc=>by kernel_rfl
 rw [e3];rfl
def modeHeadT (k:Nat):List UInt8:=(if k=0 then [32,100,101,102,97,117,108,116] else [])++([32,109,111,100,101,32]++nmB k++[32,123])
def modeHeadK (k:Nat):List Hx.Tok:=(if k=0 then [wT [100,101,102,97,117,108,116]] else [])++[wT [109,111,100,101],nT (nmB k),sT [123]]
theorem lx_mhead (k:Nat) (hk:k<5):Lx (modeHeadT k) (modeHeadK k):=by
 unfold modeHeadT modeHeadK
 by_cases hz:k=0
 ·rw [if_pos hz,if_pos hz];exact lx_default.app (lx_mode k hk)
 ·rw [if_neg hz,if_neg hz];exact lx_mode k hk
theorem bl_mhead (k:Nat):Bl (modeHeadT k):=by
 unfold modeHeadT;split <;> exact .inr ⟨_,rfl⟩
theorem modes_app:∀ (l1 l2:List (List WRo)) (k:Nat),modesText k (l1++l2)=modesText k l1++modesText (k+l1.length) l2
 | [],l2,k=>by simp [modesText]
 | m::l1,l2,k=>by
  have ih:=modes_app l1 l2 (k+1);have e:k+1+l1.length=k+(m::l1).length:=by simp;omega
  rw [e] at ih;simp only [List.cons_append,modesText,ih];simp
theorem modesK_app:∀ (l1 l2:List (List WRo)) (k:Nat),modesToks k (l1++l2)=modesToks k l1++modesToks (k+l1.length) l2
 | [],l2,k=>by simp [modesToks]
 | m::l1,l2,k=>by
  have ih:=modesK_app l1 l2 (k+1);have e:k+1+l1.length=k+(m::l1).length:=by simp;omega
  rw [e] at ih;simp only [List.cons_append,modesToks,ih];simp
def wHead:List UInt8:=[118,97,114,32,120,32,48,32,46,46,32,57,57,59,32,109,111,100,101,32,97,108,108,32,123]
def tA (l1:List (List WRo)) (m1:List WRo):List UInt8:=wHead++modesText 0 l1++modeHeadT l1.length++rowsText m1
def tB (j:Nat) (m2:List WRo) (l2:List (List WRo)):List UInt8:=rowsText m2++[32,125]++modesText (j+1) l2
theorem text_parts (l1 l2:List (List WRo)) (m1 x m2:List WRo):wheelText (l1++[m1++x++m2]++l2)=tA l1 m1++rowsText x++tB l1.length m2 l2++[32,125]:=by
 unfold wheelText tA tB;rw [modes_app,modes_app];simp [modesText,modeHeadT,rowsText,wHead]
theorem toks_parts (l1 l2:List (List WRo)) (m1 x m2:List WRo):wheelToks (l1++[m1++x++m2]++l2)=(headToks++modesToks 0 l1++modeHeadK l1.length++rowsToks m1)++rowsToks x++(rowsToks m2++[sT [125]]++modesToks (l1.length+1) l2)++[sT [125]]++[endTok 1]:=by
 unfold wheelToks;rw [modesK_app,modesK_app];simp [modesToks,modeHeadK,rowsToks]
theorem lx_tA (l1:List (List WRo)) (m1:List WRo) (h1:∀ m∈l1,∀ r∈m,r.Ok) (h2:∀ r∈m1,r.Ok) (hl:l1.length<5):Lx (tA l1 m1) (headToks++modesToks 0 l1++modeHeadK l1.length++rowsToks m1):=by
 unfold tA
 have a1:=lx_head.cat (lx_modes l1 0 (by omega) h1) (bl_modes 0 l1) (fun e=>by
  cases l1 with
  | nil=>rfl
  | cons q l=>cases e)
 have a2:=a1.cat (lx_mhead l1.length hl) (bl_mhead _) (fun e=>by
  exfalso;revert e;unfold modeHeadT;split <;> (intro e;cases e))
 exact a2.cat (lx_rows m1 h2) (bl_rows m1) (fun e=>by
  cases m1 with
  | nil=>rfl
  | cons q l=>cases e)
theorem bl_tB (j:Nat) (m2:List WRo) (l2:List (List WRo)):∃ q,tB j m2 l2=32::q:=by
 unfold tB
 cases m2 with
 | nil=>exact ⟨_,rfl⟩
 | cons r m=>exact ⟨_,rfl⟩
theorem lx_tB (j:Nat) (m2:List WRo) (l2:List (List WRo)) (h1:∀ m∈l2,∀ r∈m,r.Ok) (h2:∀ r∈m2,r.Ok) (hl:j+1+l2.length<=5):Lx (tB j m2 l2) (rowsToks m2++[sT [125]]++modesToks (j+1) l2):=by
 unfold tB;have a1:=(lx_rows m2 h2).app lx_shut;refine a1.cat (lx_modes l2 (j+1) (by omega) h1) (bl_modes _ l2) (fun e=>?_)
 cases l2 with
 | nil=>rfl
 | cons q l=>exfalso;revert e;unfold modesText;rw [if_neg (by omega)];intro e;cases e
theorem lex_out (l1 l2:List (List WRo)) (m1 m2:List WRo) (h1:∀ m∈l1,∀ r∈m,r.Ok) (h2:∀ r∈m1,r.Ok) (h3:∀ r∈m2,r.Ok) (h4:∀ m∈l2,∀ r∈m,r.Ok) (hl:l1.length+1+l2.length<=5):lex (tA l1 m1++[32]++tB l1.length m2 l2++[32,125])=.inr (wheelToks (l1++[m1++m2]++l2)):=by
 obtain ⟨q,hq⟩:=bl_tB l1.length m2 l2;have a1:=(lx_tA l1 m1 h1 h2 (by omega)).app (q:=[]) lx_blank;have a2:=lx_tB l1.length m2 l2 h4 h3 hl;rw [hq] at a2 |-;have a3:=lex_of (a1.app a2);have e:=toks_parts l1 l2 m1 [] m2;rw [List.append_nil] at e;rw [e];simpa [rowsToks] using a3
theorem table_of {P:List (List Hx.Tok)} (hP:P.length<=7) (s:List UInt8) (l:List (List WRo)) (h:∀ m∈l,∀ r∈m,r.Ok) (hp:∀ m∈l,∀ r∈m,InP P r) (hn:l.flatten.length<=24) (hl:l.length<=5) (h0:l≠[]) (ht:∀ m∈l,∀ r∈m,∀ k,r.to_=some k->k<l.length) (hs:s.length<=3000) (hx:lex s=.inr (wheelToks l)):TableOf ⟨s.toArray⟩ (wheelToks l):=by
 obtain ⟨n,hn'⟩:=wheel_sen l h;refine ⟨by show s.toArray.size<=3000;simpa using hs,by show lex s.toArray.toList=_;simpa using hx,wheel_run l,n,wheelZ l h,hn',?_⟩;rw [wheel_link l h h0 ht];exact (wheel_wi hP l h hp hn hl).code
theorem some_one {α β : Type} {f : α -> Option β} {l:List α} {x : β} (h1:∃ a∈l,f a=some x) (h2:∀ a∈l,∀ y,f a=some y->y=x):l.findSome? f=some x:=by
 cases hf:l.findSome? f with
 | none =>
  rw [List.findSome?_eq_none_iff] at hf;obtain ⟨a,ha,e⟩:=h1;rw [hf a ha] at e;cases e
 | some y =>
  obtain ⟨a,ha,e⟩:=List.exists_of_findSome?_eq_some hf;rw [h2 a ha y e]
section
variable (l:List (List WRo)) (h:∀ m∈l,∀ r∈m,r.Ok)
theorem wheel_one (hl:l≠[]) (cuts:List Nat) (hc1:cuts.Pairwise (· < ·)) (hc2:∀ c,c∈cuts↔c=0\/(c<100/\∃ m∈l,∃ r∈m,c∈r.nums)) (code:Int) (j c:Nat) (hj:j<l.length) (hc:c∈cuts)
  (hcode:code=6\/code=7) (hh:Cx.judgeP (Cx.placeOf (wheelA l h) (j+1)).2 (Cx.rowsTo (Cx.guards [vX] (wheelA l h)) [0,(c:Int)] (Cx.guards [vX] (wheelA l h)).length)=code)
  (ho:∀ j',j'<l.length->∀ c'∈cuts,¬ (j'=j/\c'=c)->Cx.judgeP (Cx.placeOf (wheelA l h) (j'+1)).2 (Cx.rowsTo (Cx.guards [vX] (wheelA l h)) [0,(c':Int)] (Cx.guards [vX] (wheelA l h)).length)=0) :
  Cx.find [vX] (wheelA l h)=some (code,(nT (nmB j)).s,[0,(c:Int)]):=by
 have hpl:=wheel_places l h hl;have hsc:=wheel_scenes l h cuts hc1 hc2;have hnm:(Cx.placeOf (wheelA l h) (j+1)).1=(nT (nmB j)).s:=wheel_name l h j hj;have hit:Cx.findOne code (Cx.places (wheelA l h)) (Cx.scenes [vX] (wheelA l h))=some ((nT (nmB j)).s,[0,(c:Int)]):=by
  have inner:∀ j',j'<l.length->∀ c'∈cuts,∀ y,Cx.isCase code (Cx.placeOf (wheelA l h) (j'+1)) ([0,(c':Int)],Cx.rowsTo (Cx.guards [vX] (wheelA l h)) [0,(c':Int)] (Cx.guards [vX] (wheelA l h)).length)=some y->y=((nT (nmB j)).s,[0,(c:Int)]):=by
   intro j' hj' c' hc' y hy;unfold Cx.isCase at hy
   by_cases e:j'=j/\c'=c
   ·obtain ⟨rfl,rfl⟩:=e
    rw [if_pos hh] at hy
    cases hy
    rw [hnm]
   ·rw [ho j' hj' c' hc' e,if_neg (by omega)] at hy
    cases hy
  unfold Cx.findOne;rw [hpl,hsc];refine some_one ⟨_,List.mem_map.2 ⟨j,List.mem_range.2 hj,rfl⟩,?_⟩ ?_
  ·refine some_one ⟨_,List.mem_map.2 ⟨c,hc,rfl⟩,?_⟩ ?_
   ·unfold Cx.isCase
    rw [if_pos hh,hnm]
   ·intro s hs y hy
    obtain ⟨c',hc',rfl⟩:=List.mem_map.1 hs;exact inner j hj c' hc' y hy
  ·intro p hp y hy
   obtain ⟨j',hj',rfl⟩:=List.mem_map.1 hp;obtain ⟨s,hs,e⟩:=List.exists_of_findSome?_eq_some hy;obtain ⟨c',hc',rfl⟩:=List.mem_map.1 hs;exact inner j' (List.mem_range.1 hj') c' hc' y e
 unfold Cx.find;rcases hcode with rfl | rfl
 ·rw [hit]
 ·have no6:Cx.findOne 6 (Cx.places (wheelA l h)) (Cx.scenes [vX] (wheelA l h))=none:=by
   unfold Cx.findOne;rw [hpl,hsc,List.findSome?_eq_none_iff];intro p hp;obtain ⟨j',hj',rfl⟩:=List.mem_map.1 hp;rw [List.findSome?_eq_none_iff];intro s hs;obtain ⟨c',hc',rfl⟩:=List.mem_map.1 hs;unfold Cx.isCase
   by_cases e:j'=j/\c'=c
   ·obtain ⟨rfl,rfl⟩:=e
    rw [hh,if_neg (by omega)]
   ·rw [ho j' (List.mem_range.1 hj') c' hc' e,if_neg (by omega)]
  rw [no6,hit];rfl
end
end
section
open Hx
theorem split_at {α : Type} (l:List α) (j:Nat) (hj:j<l.length):l=l.take j++[l[j]]++l.drop (j+1):=by
 conv=>lhs;rw [<- List.take_append_drop j l,List.drop_eq_getElem_cons hj]
 simp
section
variable (cuts:List Nat) (goals:List Int) (n j i:Nat)
def tL1:List (List WRo):=(wL cuts goals n).take j
def tL2:List (List WRo):=(wL cuts goals n).drop (j+1)
def tM1:List WRo:=(wRows cuts goals n j).take i
def tM2:List WRo:=(wRows cuts goals n j).drop (i+1)
def tX (twice:Bool):List WRo:=if twice then [wRow cuts goals n j i,wRow cuts goals n j i] else []
def tL (twice:Bool):List (List WRo):=tL1 cuts goals n j++[tM1 cuts goals n j i++tX cuts goals n j i twice++tM2 cuts goals n j i]++tL2 cuts goals n j
theorem rows_split (hi:i<cuts.length):wRows cuts goals n j=tM1 cuts goals n j i++[wRow cuts goals n j i]++tM2 cuts goals n j i:=by
 have hl:i<(wRows cuts goals n j).length:=by simp [wRows,hi]
 have:=split_at (wRows cuts goals n j) i hl;have e:(wRows cuts goals n j)[i]=wRow cuts goals n j i:=by simp [wRows]
 rw [e] at this;exact this
theorem wL_split (hj:j<n) (hi:i<cuts.length):wL cuts goals n=tL1 cuts goals n j++[tM1 cuts goals n j i++[wRow cuts goals n j i]++tM2 cuts goals n j i]++tL2 cuts goals n j:=by
 have hl:j<(wL cuts goals n).length:=by simp [wL,hj]
 have:=split_at (wL cuts goals n) j hl;have e:(wL cuts goals n)[j]=wRows cuts goals n j:=by simp [wL]
 rw [e,rows_split cuts goals n j i hi] at this;exact this
theorem tL1_len (hj:j<n):(tL1 cuts goals n j).length=j:=by simp [tL1,wL];omega
theorem tL_len (hj:j<n) (twice:Bool):(tL cuts goals n j i twice).length=n:=by
 simp [tL,tL1,tL2,wL];omega
theorem tL_mem (hj:j<n) (hi:i<cuts.length) {twice:Bool} {m:List WRo} (hm:m∈tL cuts goals n j i twice) {r:WRo} (hr:r∈m):∃ m'∈wL cuts goals n,r∈m':=by
 unfold tL at hm;rcases List.mem_append.1 hm with hm | hm
 ·rcases List.mem_append.1 hm with hm | hm
  ·exact ⟨m,List.mem_of_mem_take hm,hr⟩
  ·rw [List.mem_singleton] at hm
   subst hm;refine ⟨wRows cuts goals n j,List.mem_map.2 ⟨j,List.mem_range.2 hj,rfl⟩,?_⟩;rcases List.mem_append.1 hr with hr | hr
   ·rcases List.mem_append.1 hr with hr | hr
    ·exact List.mem_of_mem_take hr
    ·have:r=wRow cuts goals n j i:=by
      unfold tX at hr;split at hr <;> simp at hr
      exact hr
     rw [this];exact List.mem_map.2 ⟨i,List.mem_range.2 hi,rfl⟩
   ·exact List.mem_of_mem_drop hr
 ·exact ⟨m,List.mem_of_mem_drop hm,hr⟩
theorem tL_few (hj:j<n) (hi:i<cuts.length) (twice:Bool):(tL cuts goals n j i twice).flatten.length<=(wL cuts goals n).flatten.length+1:=by
 rw [wL_split cuts goals n j i hj hi];unfold tL tX;simp only [List.flatten_append,List.length_append,List.flatten_cons,List.flatten_nil,List.length_nil,List.length_cons];split <;> simp <;> omega
theorem tL_get (hj:j<n) (twice:Bool) (k:Nat):(tL cuts goals n j i twice).getD k []=if k=j then tM1 cuts goals n j i++tX cuts goals n j i twice++tM2 cuts goals n j i else (wL cuts goals n).getD k []:=by
 have h1:=tL1_len cuts goals n j hj;unfold tL;rw [List.getD_eq_getElem?_getD,List.append_assoc]
 by_cases e:k=j
 ·rw [if_pos e,List.getElem?_append_right (by omega),h1,e,Nat.sub_self]
  rfl
 ·rw [if_neg e,List.getD_eq_getElem?_getD]
  by_cases hk:k<j
  ·rw [List.getElem?_append_left (by omega)]
   unfold tL1;rw [List.getElem?_take_of_lt hk]
  ·rw [List.getElem?_append_right (by omega),h1]
   obtain ⟨d,hd⟩ : ∃ d,k-j=d+1:=⟨k-j-1,by omega⟩;rw [hd];show ((tL2 cuts goals n j)[d]?).getD []=_;unfold tL2;rw [List.getElem?_drop];congr 2;omega
theorem row_iff {cuts:List Nat} (h:CutOk cuts) (t:Nat) (ht:t<cuts.length):part cuts (cuts.getD t 0)=t:=by
 have h1:=row_at h [] 1 0 (cuts.getD t 0) t ht;have h2:(wRow cuts [] 1 0 t).at (cuts.getD t 0)=true:=by
  unfold WRo.at wRow;simp only [Nat.le_refl,decide_true,Bool.true_and]
  by_cases hn:t+1<cuts.length
  ·rw [List.getElem?_eq_getElem hn]
   have:=cut_lt h (show t<t+1 by omega) hn;have e:cuts.getD (t+1) 0=cuts[t+1]:=by simp [List.getD_eq_getElem?_getD,hn]
   rw [e] at this;exact decide_eq_true this
  ·rw [List.getElem?_eq_none (by omega)]
 rw [h2] at h1;exact (of_decide_eq_true h1.symm).symm
theorem torn_cnt {cuts:List Nat} (h:CutOk cuts) (goals:List Int) (n j i:Nat) (hi:i<cuts.length) (twice:Bool) (x:Nat):((tM1 cuts goals n j i++tX cuts goals n j i twice++tM2 cuts goals n j i).filter (·.at x)).length=if i=part cuts x then (if twice then 2 else 0) else 1:=by
 have h1:=congrArg List.length (rows_one h goals n j x);rw [rows_split cuts goals n j i hi,List.filter_append,List.filter_append,List.length_append,List.length_append] at h1;have h2:=row_at h goals n j x i hi;rw [List.filter_append,List.filter_append,List.length_append,List.length_append];have h3:([wRow cuts goals n j i].filter (·.at x)).length=if i=part cuts x then 1 else 0:=by
  rw [List.filter_cons,h2]
  by_cases e:i=part cuts x
  ·rw [decide_eq_true e,if_pos rfl,if_pos e];rfl
  ·rw [decide_eq_false e,if_neg (by simp),if_neg e];rfl
 have h4:((tX cuts goals n j i twice).filter (·.at x)).length=if i=part cuts x then (if twice then 2 else 0) else 0:=by
  unfold tX
  cases twice with
  | false=>by_cases e:i=part cuts x <;> simp [e]
  | true =>
   rw [if_pos rfl,List.filter_cons,List.filter_cons,h2]
   by_cases e:i=part cuts x
   ·rw [decide_eq_true e,if_pos rfl,if_pos rfl,if_pos e];rfl
   ·rw [decide_eq_false e,if_neg (by simp),if_neg (by simp),if_neg e];rfl
 rw [h4];rw [h3] at h1;simp only [List.length_cons,List.length_nil] at h1
 by_cases e:i=part cuts x
 ·rw [if_pos e] at h1 |-
  rw [if_pos e]
  cases twice
  ·simp only [Bool.false_eq_true,if_false];omega
  ·simp only [if_true];omega
 ·rw [if_neg e] at h1 |-
  rw [if_neg e];omega
end
def tornText (cuts:List Nat) (goals:List Int) (n j i:Nat) (twice:Bool):List UInt8:=tA (tL1 cuts goals n j) (tM1 cuts goals n j i)++(if twice then (wRow cuts goals n j i).text++(wRow cuts goals n j i).text else [32])++tB (tL1 cuts goals n j).length (tM2 cuts goals n j i) (tL2 cuts goals n j)++[32,125]
def TornT (s:ByteArray) (code:Int) (nm:ByteArray) (c:Nat):Prop:=∃ ts,TableOf s ts/\∀ vs ms,TabD ts vs ms->Cx.find vs ms=some (code,nm,[0,(c:Int)])
theorem torn_taken {cuts:List Nat} (hc:CutOk cuts) (goals:List Int) (n j i:Nat) (h5:n<=5) (hj:j<n) (hi:i<cuts.length) (twice:Bool) :
  TornT ⟨(tornText cuts goals n j i twice).toArray⟩ (if twice then 6 else 7) (nT (nmB j)).s (cuts.getD i 0):=by
 have hok0:=wL_ok hc goals n h5;have hok:∀ m∈tL cuts goals n j i twice,∀ r∈m,r.Ok:=fun m hm r hr=>by
  obtain ⟨m',hm',hr'⟩:=tL_mem cuts goals n j i hj hi hm hr;exact hok0 m' hm' r hr'
 have hlen:=tL_len cuts goals n j i hj twice;have hto:∀ m∈tL cuts goals n j i twice,∀ r∈m,∀ k,r.to_=some k->k<(tL cuts goals n j i twice).length:=fun m hm r hr k hk=>by
  obtain ⟨m',hm',hr'⟩:=tL_mem cuts goals n j i hj hi hm hr;rw [hlen];exact wL_to m' hm' r hr' k hk
 have hin:∀ m∈tL cuts goals n j i twice,∀ r∈m,InP (wP cuts) r:=fun m hm r hr=>by
  obtain ⟨m',hm',hr'⟩:=tL_mem cuts goals n j i hj hi hm hr;exact wL_in goals n m' hm' r hr'
 have hfew:(tL cuts goals n j i twice).flatten.length<=21:=by
  have:=tL_few cuts goals n j i hj hi twice;have:=wL_few hc goals n h5;omega
 have hne:tL cuts goals n j i twice≠[]:=fun e=>by rw [e] at hlen;simp at hlen;omega
 have hx:lex (tornText cuts goals n j i twice)=.inr (wheelToks (tL cuts goals n j i twice)):=by
  cases twice with
  | true =>
   have e:tornText cuts goals n j i true=wheelText (tL cuts goals n j i true):=by
    unfold tL;rw [text_parts];simp [tornText,tX,rowsText]
   rw [e];exact wheel_lex _ (by omega) hok
  | false =>
   have h1:∀ m∈tL1 cuts goals n j,∀ r∈m,r.Ok:=fun m hm=>hok0 m (List.mem_of_mem_take hm)
   have h4:∀ m∈tL2 cuts goals n j,∀ r∈m,r.Ok:=fun m hm=>hok0 m (List.mem_of_mem_drop hm)
   have hrow:∀ r∈wRows cuts goals n j,r.Ok:=hok0 _ (List.mem_map.2 ⟨j,List.mem_range.2 hj,rfl⟩);have hl2:(tL1 cuts goals n j).length+1+(tL2 cuts goals n j).length<=5:=by
    have:=hlen;simp only [tL,List.length_append,List.length_cons,List.length_nil] at this;omega
   have:=lex_out (tL1 cuts goals n j) (tL2 cuts goals n j) (tM1 cuts goals n j i) (tM2 cuts goals n j i) h1 (fun r hr=>hrow r (List.mem_of_mem_take hr)) (fun r hr=>hrow r (List.mem_of_mem_drop hr)) h4 hl2;have e:tL cuts goals n j i false=tL1 cuts goals n j++[tM1 cuts goals n j i++tM2 cuts goals n j i]++tL2 cuts goals n j:=by simp [tL,tX]
   rw [e];exact this
 have hsz:(tornText cuts goals n j i twice).length<=3000:=by
  have h0:=wheel_size hc goals n h5;have hr:=text_row (wRow cuts goals n j i);rw [wL_split cuts goals n j i hj hi,text_parts] at h0;simp only [List.length_append] at h0;unfold tornText
  cases twice <;> simp only [List.length_append,if_true,if_false,Bool.false_eq_true,List.length_cons,List.length_nil] at h0 |- <;> omega
 refine ⟨_,table_of (wP_len hc) _ _ hok hin (by omega) (by omega) hne hto hsz hx,fun vs ms hD=>?_⟩;obtain ⟨rfl,rfl⟩:=tab_oneW hD (wheel_D _ hne hok);have hci:cuts.getD i 0∈cuts:=getD_mem hi;have hc2:∀ c,c∈cuts↔c=0\/(c<100/\∃ m∈tL cuts goals n j i twice,∃ r∈m,c∈r.nums):=by
  intro c;constructor
  ·intro hcm
   obtain ⟨t,ht,rfl⟩:=List.getElem_of_mem hcm;have hlt:=hc.lt _ hcm
   by_cases h0:cuts[t]=0
   ·exact .inl h0
   ·refine .inr ⟨hlt,tM1 cuts goals n j i++tX cuts goals n j i twice++tM2 cuts goals n j i,by unfold tL;simp,?_⟩
    have ht0:0<t:=by
     rcases Nat.eq_zero_or_pos t with rfl | q
     ·exfalso
      have:=hc.zero
      cases cuts with
      | nil=>simp at ht
      | cons a l=>simp at this h0;omega
     ·exact q
    have hmem:∀ u,u<cuts.length->u≠i->wRow cuts goals n j u∈tM1 cuts goals n j i++tX cuts goals n j i twice++tM2 cuts goals n j i:=by
     intro u hu hui;have hm:wRow cuts goals n j u∈wRows cuts goals n j:=List.mem_map.2 ⟨u,List.mem_range.2 hu,rfl⟩;rcases Nat.lt_or_gt_of_ne hui with q | q
     ·refine List.mem_append_left _ (List.mem_append_left _ ?_)
      unfold tM1 wRows;rw [<- List.map_take,List.take_range];exact List.mem_map.2 ⟨u,List.mem_range.2 (by omega),rfl⟩
     ·refine List.mem_append_right _ ?_
      unfold tM2 wRows;rw [<- List.map_drop];refine List.mem_map.2 ⟨u,?_,rfl⟩;rw [List.mem_iff_getElem?];exact ⟨u-(i+1),by rw [List.getElem?_drop,List.getElem?_range (by omega)];congr 1;omega⟩
    by_cases hti:t=i
    ·refine ⟨wRow cuts goals n j (t-1),hmem (t-1) (by omega) (by omega),?_⟩
     have e:t-1+1=t:=by omega
     simp [WRo.nums,wRow,e,ht]
    ·refine ⟨wRow cuts goals n j t,hmem t ht hti,?_⟩
     simp [WRo.nums,wRow,List.getD_eq_getElem?_getD,ht]
  ·rintro (rfl | ⟨h0,m,hm,r,hr,hx⟩)
   ·exact (wL_cuts hc goals n (by omega) 0).2 (.inl rfl)
   ·obtain ⟨m',hm',hr'⟩:=tL_mem cuts goals n j i hj hi hm hr
    exact (wL_cuts hc goals n (by omega) c).2 (.inr ⟨h0,m',hm',r,hr',hx⟩)
 have hjg:∀ j',j'<n->∀ c:Nat,Cx.judgeP (Cx.placeOf (wheelA (tL cuts goals n j i twice) hok) (j'+1)).2 (Cx.rowsTo (Cx.guards [vX] (wheelA (tL cuts goals n j i twice) hok)) [0,(c:Int)] (Cx.guards [vX] (wheelA (tL cuts goals n j i twice) hok)).length)=if j'=j/\i=part cuts c then (if twice then 6 else 7) else 0:=by
  intro j' hj' c;rw [wheel_judge _ hok (by omega) (by omega) j' (by omega),tL_get cuts goals n j i hj twice j']
  by_cases e:j'=j
  ·rw [if_pos e,torn_cnt hc goals n j i hi twice c]
   by_cases e2:i=part cuts c
   ·rw [if_pos e2,if_pos (c:=j'=j/\i=part cuts c) ⟨e,e2⟩]
    cases twice <;> rfl
   ·rw [if_neg e2,if_neg (c:=j'=j/\i=part cuts c) (fun q=>e2 q.2)]
    rfl
  ·rw [if_neg e,wL_get cuts goals n j' hj',rows_one hc,if_neg (c:=j'=j/\i=part cuts c) (fun q=>e q.1)]
   rfl
 refine wheel_one _ hok hne cuts hc.up hc2 _ j (cuts.getD i 0) (by omega) hci (by cases twice <;> simp) ?_ (fun j' hj' c' hc' hno=>?_)
 ·rw [hjg j hj,if_pos ⟨rfl,(row_iff hc i hi).symm⟩]
 ·rw [hjg j' (by omega),if_neg]
  rintro ⟨e1,e2⟩;refine hno ⟨e1,?_⟩;obtain ⟨t,ht,rfl⟩:=List.getElem_of_mem hc';have h3:=row_iff hc t ht;have e3:cuts.getD t 0=cuts[t]:=by simp [List.getD_eq_getElem?_getD,ht]
  rw [e3] at h3;rw [h3] at e2;rw [e2,e3]
end
section
open Hx
def Wh (l:List UInt8):Prop:=∀ a b,l=a++119::b->∃ c,b=[104,101,110,32]++c
theorem Wh.app {l m:List UInt8} (h:Wh l) (k:Wh m):Wh (l++m):=by
 intro a b e;rcases List.append_eq_append_iff.1 e with ⟨x,rfl,e2⟩ | ⟨x,e1,e2⟩
 ·obtain ⟨c,rfl⟩:=k x b e2
  exact ⟨c,rfl⟩
 ·cases x with
  | nil =>
   simp only [List.nil_append] at e2;obtain ⟨c,rfl⟩:=k [] b e2.symm;exact ⟨c,rfl⟩
  | cons y x =>
   simp only [List.cons_append,List.cons.injEq] at e2;obtain ⟨rfl,rfl⟩:=e2;obtain ⟨c,rfl⟩:=h a x e1;exact ⟨c++m,by simp⟩
theorem Wh.no {l:List UInt8} (h:119 ∉ l):Wh l:=fun a b e=>by
 exfalso;apply h;rw [e];simp
theorem wh_when:Wh [32,119,104,101,110,32,120,32,62,61]:=by
 have h1:Wh [32]:=Wh.no (by decide);have h2:Wh [119,104,101,110,32,120,32,62,61]:=by
  intro a b e
  cases a with
  | nil=>simp only [List.nil_append,List.cons.injEq,true_and] at e;exact ⟨[120,32,62,61],e.symm⟩
  | cons y a =>
   exfalso;simp only [List.cons_append,List.cons.injEq] at e;have:(119:UInt8)∈[104,101,110,32,120,32,62,(61:UInt8)]:=by rw [e.2];simp
   revert this;decide
 exact h1.app h2
theorem dec_no (c:Nat) (hc:c<100):∀ b∈decB c,b≠119/\b≠59:=by
 intro b hb;have key:∀ d,d<10->UInt8.ofNat (48+d)≠119/\UInt8.ofNat (48+d)≠59:=by
  intro d hd;have e:(UInt8.ofNat (48+d)).toNat=48+d:=by rw [UInt8.toNat_ofNat',Nat.mod_eq_of_lt (by omega)]
  constructor <;> intro q <;> (have:=congrArg UInt8.toNat q;rw [e] at this;simp at this;omega)
 unfold decB at hb;split at hb
 ·rename_i h;simp only [List.mem_singleton] at hb;rw [hb];exact key c h
 ·simp only [List.mem_cons,List.not_mem_nil,or_false] at hb
  rcases hb with rfl | rfl
  ·exact key (c/10) (by omega)
  ·exact key (c % 10) (by omega)
theorem nm_no (k:Nat) (hk:k<5):∀ b∈nmB k,b≠119/\b≠59:=by
 rcases (show k=0\/k=1\/k=2\/k=3\/k=4 by omega) with rfl | rfl | rfl | rfl | rfl <;> decide
def rowR (r:WRo):List UInt8:=[104,101,110,32,120,32,62,61]++(32::decB r.lo)++(match r.hi with | none=>[] | some d=>[32,97,110,100,32,120,32,60]++(32::decB d))++(match r.to_ with | none=>[32,115,116,97,121] | some k=>[32,116,111,32]++nmB k)
theorem row_text (r:WRo):r.text=32::119::(rowR r++[59]):=by
 obtain ⟨lo,hi,to_⟩:=r
 cases hi <;> cases to_ <;> simp [WRo.text,rowR]
theorem rowR_no (r:WRo) (h:r.Ok):∀ b∈rowR r,b≠119/\b≠59:=by
 intro b hb;obtain ⟨lo,hi,to_⟩:=r;have k1:∀ b∈[104,101,110,32,120,32,62,(61:UInt8)],b≠119/\b≠59:=by decide
 have k2:∀ b∈[32,97,110,100,32,120,32,(60:UInt8)],b≠119/\b≠59:=by decide
 have k3:∀ b∈[32,115,116,97,(121:UInt8)],b≠119/\b≠59:=by decide
 have k4:∀ b∈[32,116,111,(32:UInt8)],b≠119/\b≠59:=by decide
 have k5:∀ (c:Nat),c<100->∀ b∈32::decB c,b≠119/\b≠59:=fun c hc b hb=>by
  rcases List.mem_cons.1 hb with rfl | hb
  ·decide
  ·exact dec_no c hc b hb
 unfold rowR at hb;rcases List.mem_append.1 hb with hb | hb
 ·rcases List.mem_append.1 hb with hb | hb
  ·rcases List.mem_append.1 hb with hb | hb
   ·exact k1 b hb
   ·exact k5 lo h.lo b hb
  ·cases hi with
   | none=>simp at hb
   | some d =>
    rcases List.mem_append.1 hb with hb | hb
    ·exact k2 b hb
    ·exact k5 d (h.hi d rfl) b hb
 ·cases to_ with
  | none=>exact k3 b hb
  | some k =>
   rcases List.mem_append.1 hb with hb | hb
   ·exact k4 b hb
   ·exact nm_no k (h.to_ k rfl) b hb
theorem row_wh (r:WRo) (h:r.Ok):Wh r.text:=by
 have e:r.text=[32,119,104,101,110,32,120,32,62,61]++(rowR r++[59]).drop 8:=by
  rw [row_text];simp [rowR]
 rw [e];refine wh_when.app (Wh.no (fun hm=>?_));have hm:=List.mem_of_mem_drop hm;rcases List.mem_append.1 hm with hm | hm
 ·exact (rowR_no r h _ hm).1 rfl
 ·simp at hm
theorem row_count (r:WRo) (h:r.Ok):r.text.count 119=1:=by
 rw [row_text];have e:(rowR r++[59]).count 119=0:=by
  rw [List.count_eq_zero];intro hm;rcases List.mem_append.1 hm with hm | hm
  ·exact (rowR_no r h _ hm).1 rfl
  ·simp at hm
 rw [List.count_cons,List.count_cons,e];decide
theorem rows_scan:∀ l:List WRo,(∀ r∈l,r.Ok)->Wh (rowsText l)/\(rowsText l).count 119=l.length
 | [],_=>⟨Wh.no (by simp [rowsText]),by simp [rowsText]⟩
 | r::l,h=>by
  obtain ⟨a,b⟩:=rows_scan l (fun q hq=>h q (by simp [hq]));have e:rowsText (r::l)=r.text++rowsText l:=by simp [rowsText]
  rw [e];exact ⟨(row_wh r (h r (by simp))).app a,by rw [List.count_append,row_count r (h r (by simp)),b];simp;omega⟩
theorem mhead_no (k:Nat) (hk:k<5):119 ∉ modeHeadT k:=by
 rcases (show k=0\/k=1\/k=2\/k=3\/k=4 by omega) with rfl | rfl | rfl | rfl | rfl <;> decide
theorem modes_scan:∀ (l:List (List WRo)) (k:Nat),(∀ m∈l,∀ r∈m,r.Ok)->k+l.length<=5->Wh (modesText k l)/\(modesText k l).count 119=l.flatten.length
 | [],_,_,_=>⟨Wh.no (by simp [modesText]),by simp [modesText]⟩
 | m::l,k,h,hk=>by
  simp only [List.length_cons] at hk;obtain ⟨a,b⟩:=modes_scan l (k+1) (fun q hq=>h q (by simp [hq])) (by omega);obtain ⟨c,d⟩:=rows_scan m (h m (by simp));have e:modesText k (m::l)=modeHeadT k++rowsText m++[32,125]++modesText (k+1) l:=by simp [modesText,modeHeadT]
  have hn:=mhead_no k (by omega);rw [e];refine ⟨(((Wh.no hn).app c).app (Wh.no (by decide))).app a,?_⟩;rw [List.count_append,List.count_append,List.count_append,List.count_eq_zero.2 hn,d,b,List.flatten_cons,List.length_append];simp
section
variable {cuts:List Nat} (hc:CutOk cuts) (goals:List Int) (n j i:Nat) (h5:n<=5) (hj:j<n) (hi:i<cuts.length)
include hc h5 in
theorem wheel_wh:Wh (wheelText (wL cuts goals n)):=by
 have h:=(modes_scan (wL cuts goals n) 0 (wL_ok hc goals n h5) (by simp [wL];omega)).1;unfold wheelText;exact ((Wh.no (by decide)).app h).app (Wh.no (by decide))
include hc h5 hj hi in
theorem tA_count:(tA (tL1 cuts goals n j) (tM1 cuts goals n j i)).count 119=j*cuts.length+i:=by
 have hok0:=wL_ok hc goals n h5;have hlen:=tL1_len cuts goals n j hj;have h1:=(modes_scan (tL1 cuts goals n j) 0 (fun m hm=>hok0 m (List.mem_of_mem_take hm)) (by omega)).2;have h2:=(rows_scan (tM1 cuts goals n j i) (fun r hr=>hok0 _ (List.mem_map.2 ⟨j,List.mem_range.2 hj,rfl⟩) r (List.mem_of_mem_take hr))).2;have e1:(tL1 cuts goals n j).flatten.length=j*cuts.length:=by
  have:=wL_rows cuts goals n j;unfold tL1 wL;rw [<- List.map_take,List.take_range,Nat.min_eq_left (by omega)];exact this
 have e2:(tM1 cuts goals n j i).length=i:=by simp [tM1,wRows];omega
 unfold tA;rw [List.count_append,List.count_append,List.count_append,h1,h2,hlen,List.count_eq_zero.2 (mhead_no j (by omega)),e1,e2];have e3:wHead.count 119=0:=by decide
 rw [e3];omega
end
theorem hit_is {A C:List UInt8} {q k:Nat} (hA:A.count 119=k) (h1:((A++119::C).take q).count 119=k) (h2:(A++119::C)[q]? = some 119):q=A.length:=by
 rcases Nat.lt_trichotomy q A.length with h | h | h
 ·exfalso
  rw [List.getElem?_append_left h] at h2;rw [List.take_append_of_le_length (by omega)] at h1;have h3:(A.take (q+1)).count 119=k+1:=by
   rw [List.take_add_one,h2,List.count_append,h1];rfl
  have h4:(A.take (q+1)).count 119<=A.count 119:=(List.take_sublist _ _).count_le _;omega
 ·exact h
 ·exfalso
  have h3:((A++119::C).take (A.length+1)).count 119=k+1:=by
   rw [List.take_append,List.count_append,List.take_of_length_le (by omega),hA];simp
  have h4:((A++119::C).take (A.length+1)).count 119<=((A++119::C).take q).count 119:=by
   have e:(A++119::C).take (A.length+1)=((A++119::C).take q).take (A.length+1):=by rw [List.take_take,Nat.min_eq_left (by omega)]
   rw [e];exact (List.take_sublist _ _).count_le _
  omega
end
end Go.Proofs.YtdjaiolfdbamcaaGreatDoor
