/- The reader of guards in memory: its box, the row of its cuts, the cuts; what it leaves alone. -/
import Derived.Test.YtdjaiolfdbamcaaGreatDoorZWCFC
import Derived.Test.YtdjaiolfdbamcaaGreatDoorZWCE3
set_option maxRecDepth 20000
set_option maxHeartbeats 4000000
namespace Go.Proofs.YtdjaiolfdbamcaaGreatDoor
section
open Go.RowKit
def cutB (c:Nat) (w:World) (k:Nat):Prop:=c<=k/\∃ cur T,w.heap[k]? = some (.cells cur T (0,0))/\(T=3\/T=32)
def KR (c:Nat) (w w':World):Prop:=Kp (cutB c w) w w'
theorem KR.refl (c:Nat) (w:World):KR c w w:=Kp.refl _ _
theorem KR.ofBelow {c:Nat} {w w':World} (h:Below w.heap.size w w'):KR c w w':=Kp.ofBelow h
theorem KR.trans {c:Nat} {w w1 w2:World} (h:KR c w w1) (k:KR c w1 w2):KR c w w2:=by
  refine Kp.trans h k (fun b hb=>?_)
  by_cases hl:b<w.heap.size
  · by_cases hF:cutB c w b
    · exact .inl hF
    · obtain ⟨h1,cur,T,h2,h3⟩:=hb
      exact .inl ⟨h1,cur,T,(h.block b hl hF).symm.trans h2,h3⟩
  · exact .inr (by omega)
theorem KR.toBelow {c:Nat} {w w':World} (h:KR c w w') (hc:c<=w.heap.size):Below c w w':=Kp.toBelow h (fun _ hk=>hk.1) hc
theorem KR.box {c b T:Nat} {w w':World} {cs:Array Value} (h:KR c w w') (hb:w.heap[b]? = some (.cells cs T (0,0))) (hT:T≠3/\T≠32):w'.heap[b]? = some (.cells cs T (0,0)):=by
  refine (Kp.block h b (Array.getElem?_eq_some_iff.1 hb).1 (fun hF=>?_)).trans hb;obtain ⟨_,cur,T',h2,h3⟩:=hF;rw [hb] at h2;simp only [Option.some.injEq,Obj.cells.injEq] at h2;rcases h3 with e | e
  · exact hT.1 (h2.2.1.trans e)
  · exact hT.2 (h2.2.1.trans e)
def cutRow (l:List Int) (v:Value):Rw:=⟨3,1,l.length,v,l.map (.int .i64)⟩
def cutRows (cs:List (List Int)) (sv:List Value):List Rw:=List.zipWith cutRow cs sv
theorem cutRows_int {cs:List (List Int)} {sv:List Value}:∀ r∈cutRows cs sv,r.e=3:=by
  unfold cutRows
  induction cs generalizing sv with
  | nil=>simp
  | cons a t ih =>
    cases sv with
    | nil=>simp
    | cons b u =>
      intro r hr;rw [List.zipWith_cons_cons,List.mem_cons] at hr;rcases hr with rfl | hr
      · rfl
      · exact ih r hr
theorem cutRows_at {cs:List (List Int)} {sv:List Value} {i:Nat} (h1:i<cs.length) (h2:i<sv.length):(cutRows cs sv)[i]? = some (cutRow cs[i] sv[i]):=by
  unfold cutRows;rw [List.getElem?_zipWith,List.getElem?_eq_getElem h1,List.getElem?_eq_getElem h2]
theorem cutRows_set {cs:List (List Int)} {sv:List Value} {i:Nat} (l:List Int) (v:Value):cutRows (cs.set i l) (sv.set i v)=(cutRows cs sv).set i (cutRow l v):=by
  unfold cutRows
  induction cs generalizing sv i with
  | nil=>simp
  | cons a t ih =>
    cases sv with
    | nil=>simp
    | cons b u =>
      cases i with
      | zero=>simp
      | succ i=>simp [ih]
structure RdM (W:World) (c rb tb gc:Nat) (cs:List (List Int)) (sv:List Value):Prop where
  box:W.heap[rb]? = some (.cells #[.pointer (some ⟨tb,0,none⟩),.slice (some ⟨gc,0,none⟩) cs.length cs.length] 216 (0,0))
  row:W.heap[gc]? = some (.cells sv.toArray 32 (0,0))
  low:c<=gc
  len:sv.length=cs.length
  mem:MemIs W c (cutRows cs sv)
theorem RdM.below {W W':World} {c rb tb gc:Nat} {cs:List (List Int)} {sv:List Value} (h:RdM W c rb tb gc cs sv) (hb:Below W.heap.size W W'):RdM W' c rb tb gc cs sv :=
  ⟨(hb.block rb (Array.getElem?_eq_some_iff.1 h.box).1).trans h.box,(hb.block gc (Array.getElem?_eq_some_iff.1 h.row).1).trans h.row,h.low,h.len,h.mem.below hb⟩
theorem RdM.put {W W':World} {c rb tb gc m:Nat} {cs:List (List Int)} {sv:List Value} {i:Nat} {xs:List Int} {v':Value} (h:RdM W c rb tb gc cs sv) (hi:i<cs.length) (hs:i<sv.length) (hg:W.grownBy W' sv[i].ownBlock) (ho:W'.ownsRow c 3 1 v' m (cs[i].map (.int .i64)++xs.map (.int .i64))) (hm:m=cs[i].length+xs.length) (hat:v'.ownBlock=sv[i].ownBlock\/v'.ownBlock=some W.heap.size) :
    RdM (W'.setCell ⟨gc,i,none⟩ v') c rb tb gc (cs.set i (cs[i]++xs)) (sv.set i v')/\KR c W (W'.setCell ⟨gc,i,none⟩ v'):=by
  have hri:=cutRows_at hi hs;have hown:W.ownsRow c 3 1 sv[i] cs[i].length (cs[i].map (.int .i64)):=h.mem.own i _ hri;have hkg:Kp (fun k=>sv[i].ownBlock=some k) W W':=⟨hg.os,hg.tape,hg.output,hg.size,fun k hk hn=>hg.block k hk (fun e=>hn e.symm)⟩;have hbox:=row_not_entry hown h.box (by decide);have hrow:=row_not_entry hown h.row (by decide);have hb1:=(hkg.block rb (Array.getElem?_eq_some_iff.1 h.box).1 hbox).trans h.box;have hr1:=(hkg.block gc (Array.getElem?_eq_some_iff.1 h.row).1 hrow).trans h.row;have hrg:rb≠gc:=by
    intro e;have:=h.box;rw [e,h.row] at this;simp at this
  have hks:Kp (fun k=>k=gc) W' (W'.setCell ⟨gc,i,none⟩ v'):=(Kp.refl (fun k=>k=gc) W').setCell (p:=⟨gc,i,none⟩) (.inl rfl) _
  have hmem:MemIs W' c ((cutRows cs sv).set i (cutRow (cs[i]++xs) v')):=h.mem.grown hri hg (by
    show W'.ownsRow c 3 1 v' (cs[i]++xs).length ((cs[i]++xs).map (.int .i64))
    rw [List.length_append,List.map_append,<- hm];exact ho) hat
  have hint:∀ (L:List Rw),MemIs W' c L->(∀ r∈L,r.e=3)->∀ k,foot L k->¬ k=gc:=by
    intro L hL hE k hf e;obtain ⟨j,r,hr,hk⟩:=hf;have ho2:=hL.own j r hr;have he:=hE r (List.mem_of_getElem? hr);rw [e] at hk;exact row_not_entry ho2 hr1 (by rw [he];decide) hk
  refine ⟨⟨?_,?_,h.low,by simp [h.len],?_⟩,?_⟩
  · rw [List.length_set]
    exact (hks.block rb (Array.getElem?_eq_some_iff.1 hb1).1 hrg).trans hb1
  · rw [set_heap hr1];simp
  · rw [cutRows_set]
    refine hmem.kept hks (hint _ hmem (fun r hr=>?_));rcases List.mem_or_eq_of_mem_set hr with h1 | h1
    · exact cutRows_int r h1
    · rw [h1];rfl
  · refine Kp.trans (hkg.mono (fun k hk e=>?_)) hks (fun k e=>?_)
    · refine ⟨(hown.lt k e).1,?_⟩
      rcases hown.2 with ⟨hn,_⟩ | ⟨g,cap,cur,hv,_,hgc,_⟩
      · rw [hn] at e;cases e
      · rw [hv] at e
        simp [Value.ownBlock] at e;subst e;exact ⟨cur,_,hgc,.inl rfl⟩
    · rw [e]
      exact .inl ⟨h.low,_,_,h.row,.inr rfl⟩
end
section
open Go.RowKit
attribute [local go_sem ↓] Go.wp_at_zero Go.wp_at_succ
theorem cuts_at {w:World} {B g n:Nat} {l:List Int} (h:w.ownsRow B 3 1 (.slice (some ⟨g,0,none⟩) n n) n (l.map (.int .i64))) (hn:n=l.length):∀ j u,(l.map (Value.int .i64))[j]? = some u->w.cell? ((⟨g,0,none⟩ : Addr).add j)=some u:=by
  subst hn
  by_cases h0:0<l.length
  · obtain ⟨g',cap,e,_,hg,_,_,hc⟩:=row_open h h0
    cases e
    refine ints_at (o:=0) (fun i hi=>?_) hg (Below.refl _ _);rw [Nat.zero_add,hc i (by omega)];simp [hi]
  · intro j u hu
    have:l=[]:=by cases l with
      | nil=>rfl
      | cons a b=>simp at h0
    subst this;simp at hu
theorem sc4 {W:World} {g k o:Nat} {a b c d:Value} (h:k≠g):((((W.setCell ⟨g,0,none⟩ a).setCell ⟨g,1,none⟩ b).setCell ⟨g,2,none⟩ c).setCell ⟨g,3,none⟩ d).cell? ⟨k,o,none⟩=W.cell? ⟨k,o,none⟩:=by
  have hn:∀ j,(⟨k,o,none⟩ : Addr)≠⟨g,j,none⟩:=fun j e=>h (by injection e)
  rw [set_other _ _ _ _ (hn 3).symm,set_other _ _ _ _ (hn 2).symm,set_other _ _ _ _ (hn 1).symm,set_other _ _ _ _ (hn 0).symm]
theorem readAtom_any (w:World) (c rb tb gc:Nat) (cs:List (List Int)) (sv:List Value) (ws:Bool) (nz oz iz:Hx.Tok) (q:Cx.Q) (h:RdM w c rb tb gc cs sv) (hcw:c<=w.heap.size) (hwc:q.which<cs.length) (hcl:cs[q.which].length<=100000) (hqn : -100000<=q.num/\q.num<=100000)
    (HQ:Hid (∀ Y,Below w.heap.size w Y->Calls Tryz.prog 214 #[.pointer (some ⟨tb,0,none⟩),.agg (atomB ws nz oz iz).toArray] Y fun e w'=>e=.returned (qV q.which q.same q.num q.turned)/\Below Y.heap.size Y w')) :
    Calls Tryz.prog 208 #[.pointer (some ⟨rb,0,none⟩),.agg (atomB ws nz oz iz).toArray] w fun e w'=>∃ sv',e=.returned (.func (.func 227) #[qV q.which q.same q.num q.turned] #[])/\RdM w' c rb tb gc (cs.set q.which (cs[q.which]++q.cuts)) sv'/\KR c w w':=by
  have hb:=h.box;have hrb:rb<w.heap.size:=(Array.getElem?_eq_some_iff.1 hb).1;have HH:=hide h;have hws:q.which<sv.length:=by rw [h.len];exact hwc
  have hgw:gc<w.heap.size:=(Array.getElem?_eq_some_iff.1 h.row).1;have hrg:rb≠gc:=by
    intro e;have:=h.box;rw [e,h.row] at this;simp at this
  obtain ⟨n,hn⟩ : ∃ n,n=cs.length:=⟨_,rfl⟩;rw [<- hn] at hb;have HN:=hide hn;have hwn:(q.which:Int)<n:=by omega
  have hw0:(0:Int)<=q.which:=by omega
  clear h;have HB:Hid (Below w.heap.size w (w.alloc (.cells (atomB ws nz oz iz).toArray 307))):=hide (below_a _ _);have hz:(w.alloc (.cells (atomB ws nz oz iz).toArray 307)).heap.size=w.heap.size+1:=by simp
  have HXB:=hide (heap_alloc_new w (.cells (atomB ws nz oz iz).toArray 307));obtain ⟨X,hX⟩ : ∃ X,X=w.alloc (.cells (atomB ws nz oz iz).toArray 307):=⟨_,rfl⟩;rw [<- hX] at HB hz HXB;have CK1:Hid (∀ Y,Below X.heap.size X Y->Calls Tryz.prog 214 #[.pointer (some ⟨tb,0,none⟩),.agg (atomB ws nz oz iz).toArray] Y fun e w'=>e=.returned (qV q.which q.same q.num q.turned)/\Below Y.heap.size Y w'):=hide (fun Y hY=>HQ.out Y (HB.out.trans (hY.mono (by omega))));have hbX:w.heap.size<X.heap.size:=by omega
  have hwX:rb<X.heap.size:=by omega
  have xw:X.cell? ⟨rb,0,none⟩=some (.pointer (some ⟨tb,0,none⟩)):=(HB.out.cell (p:=⟨rb,0,none⟩) hrb).trans (Lib.cell_of_heap hb 0);have HRB:=hide ((HB.out.block rb hrb).trans hb);obtain ⟨y0,y1,y2,y3,y4,y5,y6,y7,y8,y9,y10,y11,y12⟩:=cells13 (w:=X) (A:=w.heap.size) HXB.out;rw [show (atomB ws nz oz iz).toArray=#[.bool ws,.int .i64 (kindA nz.k),.string nz.s,.int .i64 nz.n,.int .i64 nz.line,.int .i64 (kindA oz.k),.string oz.s,.int .i64 oz.n,.int .i64 oz.line,.int .i64 (kindA iz.k),.string iz.s,.int .i64 iz.n,.int .i64 iz.line] from rfl] at *;go_enter Tryz.func208,Tryz.ntmps208;go_upto_region 1 with (fail);rw [<- hX];clear hX;unfold qV at CK1;have HZ:=hide hz;have hrbX:rb≠X.heap.size:=by omega
  have hwsX:w.heap.size≠X.heap.size:=by omega
  clear hz
  go_cut [5] from 6 to 31 (fun v5 wx=>∃ qb,v5=.pointer (some ⟨qb,0,none⟩)/\Below X.heap.size X wx/\X.heap.size<=qb/\wx.heap[qb]? = some (.cells #[.int .i64 q.which,.bool q.same,.int .i64 q.num,.bool q.turned] 314 (0,0)))
  case first =>
    go_region_held3 (fun Y=>Y.cell? ⟨rb,0,none⟩=some (.pointer (some ⟨tb,0,none⟩))/\Y.cell? ⟨w.heap.size,0,none⟩=some (.bool ws)/\Y.cell? ⟨w.heap.size,1,none⟩=some (.int .i64 (kindA nz.k))/\Y.cell? ⟨w.heap.size,2,none⟩=some (.string nz.s)/\Y.cell? ⟨w.heap.size,3,none⟩=some (.int .i64 nz.n)/\Y.cell? ⟨w.heap.size,4,none⟩=some (.int .i64 nz.line)/\Y.cell? ⟨w.heap.size,5,none⟩=some (.int .i64 (kindA oz.k))/\Y.cell? ⟨w.heap.size,6,none⟩=some (.string oz.s)/\Y.cell? ⟨w.heap.size,7,none⟩=some (.int .i64 oz.n)/\Y.cell? ⟨w.heap.size,8,none⟩=some (.int .i64 oz.line)/\Y.cell? ⟨w.heap.size,9,none⟩=some (.int .i64 (kindA iz.k))/\Y.cell? ⟨w.heap.size,10,none⟩=some (.string iz.s)/\Y.cell? ⟨w.heap.size,11,none⟩=some (.int .i64 iz.n)/\Y.cell? ⟨w.heap.size,12,none⟩=some (.int .i64 iz.line))
      (first | go_keep | (with_reducible exact ⟨(sc4 hrbX).trans (hw1.trans xw),(sc4 hwsX).trans ((hx1 0).trans y0),(sc4 hwsX).trans ((hx1 1).trans y1),(sc4 hwsX).trans ((hx1 2).trans y2),(sc4 hwsX).trans ((hx1 3).trans y3),(sc4 hwsX).trans ((hx1 4).trans y4),(sc4 hwsX).trans ((hx1 5).trans y5),(sc4 hwsX).trans ((hx1 6).trans y6),(sc4 hwsX).trans ((hx1 7).trans y7),(sc4 hwsX).trans ((hx1 8).trans y8),(sc4 hwsX).trans ((hx1 9).trans y9),(sc4 hwsX).trans ((hx1 10).trans y10),(sc4 hwsX).trans ((hx1 11).trans y11),(sc4 hwsX).trans ((hx1 12).trans y12)⟩) | (with_reducible exact ⟨hw1.trans xw,(hx1 0).trans y0,(hx1 1).trans y1,(hx1 2).trans y2,(hx1 3).trans y3,(hx1 4).trans y4,(hx1 5).trans y5,(hx1 6).trans y6,(hx1 7).trans y7,(hx1 8).trans y8,(hx1 9).trans y9,(hx1 10).trans y10,(hx1 11).trans y11,(hx1 12).trans y12⟩))
      (first | (go_at_call 214;refine (CK1.out _ ?_).mono ?_;(with_reducible exact below_ad _ _);rintro e w1 ⟨rfl,hb1⟩;have hB1:Below X.heap.size X w1:=Below.trans (below_ad X (.cells #[.int .i64 0,.bool false,.int .i64 0,.bool false] 314)) (hb1.mono (below_ad X (.cells #[.int .i64 0,.bool false,.int .i64 0,.bool false] 314)).size);have hx1:=fun o=>hB1.cell (p:=⟨w.heap.size,o,none⟩) hbX;have hw1:=hB1.cell (p:=⟨rb,0,none⟩) hwX;have hq1:w1.heap[X.heap.size]? = some (.cells #[.int .i64 0,.bool false,.int .i64 0,.bool false] 314 (0,0)):=(hb1.block X.heap.size (by simp)).trans (heap_alloc_new X _);have r0:w1.cell? ⟨X.heap.size,0,none⟩=some (.int .i64 0):=Lib.cell_of_heap hq1 0;have t0:w1.frozen? ⟨X.heap.size,0,none⟩=false:=Lib.frozen_of_heap hq1 0;have r1:w1.cell? ⟨X.heap.size,1,none⟩=some (.bool false):=Lib.cell_of_heap hq1 1;have t1:w1.frozen? ⟨X.heap.size,1,none⟩=false:=Lib.frozen_of_heap hq1 1;have r2:w1.cell? ⟨X.heap.size,2,none⟩=some (.int .i64 0):=Lib.cell_of_heap hq1 2;have t2:w1.frozen? ⟨X.heap.size,2,none⟩=false:=Lib.frozen_of_heap hq1 2;have r3:w1.cell? ⟨X.heap.size,3,none⟩=some (.bool false):=Lib.cell_of_heap hq1 3;have t3:w1.frozen? ⟨X.heap.size,3,none⟩=false:=Lib.frozen_of_heap hq1 3) | (go_at_call 214;refine (CK1.out _ ?_).mono ?_;(with_reducible exact below_d _);rintro e w1 ⟨rfl,hb1⟩;have hB1:Below X.heap.size X w1:=Below.trans (below_d X) (hb1.mono (below_d X).size);have hx1:=fun o=>hB1.cell (p:=⟨w.heap.size,o,none⟩) hbX;have hw1:=hB1.cell (p:=⟨rb,0,none⟩) hwX))
    all_goals first
      | (have hQ:=fq_heap (a:=.int .i64 q.which) (b:=.bool q.same) (c:=.int .i64 q.num) (d:=.bool q.turned) hq1
         have hZ:Below X.heap.size X (fq w1 X.heap.size (.int .i64 q.which) (.bool q.same) (.int .i64 q.num) (.bool q.turned)):=hB1.trans ((fq_kp (F:=fun k=>k=X.heap.size) (Kp.refl _ _) (.inl rfl) _ _ _ _).toBelow (fun k e=>by omega) hB1.size);go_wp2_with fail;go_meet
         case rel=>exact ⟨X.heap.size,rfl,hZ,Nat.le_refl _,hQ⟩)
      | (have hQ:=heap_alloc_new w1 (.cells #[.int .i64 q.which,.bool q.same,.int .i64 q.num,.bool q.turned] 314)
         have hZ:Below X.heap.size X (w1.alloc (.cells #[.int .i64 q.which,.bool q.same,.int .i64 q.num,.bool q.turned] 314)):=hB1.alloc hB1.size _;go_wp2_with fail;go_meet
         case rel=>exact ⟨w1.heap.size,rfl,hZ,hB1.size,hQ⟩)
  case rest =>
    obtain ⟨qb,rfl,hZ,hqb,hQ⟩:=hcut;obtain ⟨Z,rfl⟩ : ∃ Z,Z=wc:=⟨wc,rfl⟩;have hbz:Below w.heap.size w Z:=HB.out.trans (hZ.mono (by omega));have HBZ:=hide hbz;have hsz:=hbz.size;have hqZ:qb<Z.heap.size:=(Array.getElem?_eq_some_iff.1 hQ).1;have HMZ:=hide (HH.out.below hbz);have HQZ:=hide hQ;have hrZ:rb<Z.heap.size:=by omega
    have hgZ:gc<Z.heap.size:=by omega
    have hqg:qb≠gc:=by omega
    have z1:Z.cell? ⟨rb,1,none⟩=some (.slice (some ⟨gc,0,none⟩) n n):=by rw [HN.out];exact Lib.cell_of_heap HMZ.out.box 1
    have hsv0:Z.cell? ⟨gc,q.which,none⟩=some sv[q.which]:=(Lib.cell_of_heap HMZ.out.row q.which).trans (by simp [hws]);have hown0:Z.ownsRow c 3 1 sv[q.which] cs[q.which].length (cs[q.which].map (.int .i64)):=HMZ.out.mem.own q.which _ (cutRows_at hwc hws);obtain ⟨aw,cw,hsv,_,_⟩:=row_shape hown0;obtain ⟨nl,hnl⟩ : ∃ nl,nl=cs[q.which].length:=⟨_,rfl⟩;obtain ⟨xs,hxs⟩ : ∃ xs,xs=cs[q.which]:=⟨_,rfl⟩;rw [<- hnl] at hsv hown0;rw [<- hxs] at hown0;rw [hsv] at hsv0 hown0;have s0:=hsv0;have HSV:=hide hsv;have HXS:=hide hxs.symm;have HNL:Hid (nl=xs.length):=hide (by rw [hxs,hnl]);have HOW:=hide hown0;have q0:Z.cell? ⟨qb,0,none⟩=some (.int .i64 q.which):=Lib.cell_of_heap hQ 0;have q1:Z.cell? ⟨qb,1,none⟩=some (.bool q.same):=Lib.cell_of_heap hQ 1;have q2:Z.cell? ⟨qb,2,none⟩=some (.int .i64 q.num):=Lib.cell_of_heap hQ 2;have q3:Z.cell? ⟨qb,3,none⟩=some (.bool q.turned):=Lib.cell_of_heap hQ 3;obtain ⟨m,hm⟩ : ∃ m,m=q.cuts.length:=⟨_,rfl⟩;have hm2:m<=2:=by rw [hm];unfold Cx.Q.cuts;split <;> simp
    have HMC:=hide hm;have CU:Hid (∀ Y,Calls Tryz.prog 226 #[.agg #[.int .i64 q.which,.bool q.same,.int .i64 q.num,.bool q.turned]] Y fun e w'=>∃ g,e=.returned (.slice (some ⟨g,0,none⟩) m m)/\w'.ownsRow Y.heap.size 3 1 (.slice (some ⟨g,0,none⟩) m m) m (q.cuts.map (.int .i64))/\Below Y.heap.size Y w'):=hide (fun Y=>by rw [hm];exact Cuts_any Y q hqn);obtain ⟨i0,hi0,hz0,hz1,hz2⟩:=info_parts Tryz.infoIntT;have hml:nl+m<=maxLen:=by unfold maxLen;omega
    have hmb:(nl+m)*8<=140737488355328:=by omega
    clear hbz hZ hQ hsv0 hown0 hsv hnl hxs hm y0 y1 y2 y3 y4 y5 y6 y7 y8 y9 y10 y11 y12 xw hb CK1;go_upto_region 2 with (fail);refine wp_region_held_drew (S:=fun Y=>Y.cell? ⟨rb,1,none⟩=some (.slice (some ⟨gc,0,none⟩) n n)/\Y.cell? ⟨qb,0,none⟩=some (.int .i64 q.which)/\Y.cell? ⟨qb,1,none⟩=some (.bool q.same)/\Y.cell? ⟨qb,2,none⟩=some (.int .i64 q.num)/\Y.cell? ⟨qb,3,none⟩=some (.bool q.turned)) (by kernel_rfl) ⟨z1,q0,q1,q2,q3⟩ (fun hHeld=>?_);refine tkR 0 rfl ?_ ?_ hHeld ?_;rotate_left
    · intro w hSw;(try dsimp only at hSw);go_simp;(try with_reducible rfl)
    (try simp only [Act.put,qA,qB,qC,qD,qE])
    refine tkR 1 rfl ?_ ?_ hHeld ?_;rotate_left
    · intro w hSw;(try dsimp only at hSw);go_simp;(try with_reducible rfl)
    (try simp only [Act.put,qA,qB,qC,qD,qE,qF])
    refine tkR 2 rfl ?_ ?_ hHeld ?_;rotate_left
    · intro w hSw;(try dsimp only at hSw);go_simp;(try with_reducible rfl)
    (try simp only [Act.put,qA,qB,qC,qD,qE,qF])
    refine tkR 3 rfl ?_ ?_ hHeld ?_;rotate_left
    · intro w hSw;(try dsimp only at hSw);go_simp;(try with_reducible rfl)
    (try simp only [Act.put,qA,qB,qC,qD,qE,qF])
    refine tkR 4 rfl ?_ ?_ hHeld ?_;rotate_left
    · intro w hSw;(try dsimp only at hSw);go_simp;(try with_reducible rfl)
    (try simp only [Act.put,qA,qB,qC,qD,qE,qF])
    refine tkR 5 rfl ?_ ?_ hHeld ?_;rotate_left
    · intro w hSw;(try dsimp only at hSw);go_simp;(try with_reducible rfl)
    (try simp only [Act.put,qA,qB,qC,qD,qE,qF])
    refine tkR 6 rfl ?_ ?_ hHeld ?_;rotate_left
    · intro w hSw;(try dsimp only at hSw);go_simp;(try with_reducible rfl)
    (try simp only [Act.put,qA,qB,qC,qD,qE,qF])
    refine tkR 7 rfl ?_ ?_ hHeld ?_;rotate_left
    · intro w hSw;(try dsimp only at hSw);go_simp;(try with_reducible rfl)
    (try simp only [Act.put,qA,qB,qC,qD,qE,qF])
    refine tkR 8 rfl ?_ ?_ hHeld ?_;rotate_left
    · intro w hSw;(try dsimp only at hSw);go_simp;(try with_reducible rfl)
    (try simp only [Act.put,qA,qB,qC,qD,qE,qF])
    refine tkR 9 rfl ?_ ?_ hHeld ?_;rotate_left
    · intro w hSw;(try dsimp only at hSw);go_simp;(try with_reducible rfl)
    (try simp only [Act.put,qA,qB,qC,qD,qE,qF])
    refine tkR 10 rfl ?_ ?_ hHeld ?_;rotate_left
    · intro w hSw;(try dsimp only at hSw);go_simp;(try with_reducible rfl)
    (try simp only [Act.put,qA,qB,qC,qD,qE,qF])
    refine tkR 11 rfl ?_ ?_ hHeld ?_;rotate_left
    · intro w hSw;(try dsimp only at hSw);go_simp;(try with_reducible rfl)
    (try simp only [Act.put,qA,qB,qC,qD,qE,qF])
    refine tkR 12 rfl ?_ ?_ hHeld ?_;rotate_left
    · intro w hSw;(try dsimp only at hSw);go_simp;(try with_reducible rfl)
    (try simp only [Act.put,qA,qB,qC,qD,qE,qF])
    refine tkR 14 rfl ?_ ?_ hHeld ?_;rotate_left
    · intro w hSw;(try dsimp only at hSw);go_simp;(try with_reducible rfl)
    (try simp only [Act.put,qA,qB,qC,qD,qE,qF])
    refine wpAnyH_ready (rs:=[13,15]) (by kernel_rfl) (by simp) ?_;refine AllReadyH.cons rfl (fun K hK=>?_) (AllReadyH.cons rfl (fun K hK=>?_) AllReadyH.nil)
    · go_simp
      refine hK.out _ _ hHeld (fun hHeld=>?_)
      (try simp only [Act.put,qA,qB,qC,qD,qE,qF])
      refine wpAnyH_ready (rs:=[15]) (by kernel_rfl) (by simp) ?_;refine AllReadyH.cons rfl (fun K hK=>?_) AllReadyH.nil
      go_simp
      refine (CU.out _).mono ?_;rintro e w1 ⟨gq,rfl,hoq,hb1⟩;have hB1:Below Z.heap.size Z w1:=(below_d Z).trans (hb1.mono (below_d Z).size);have a1:=(hB1.cell (p:=⟨rb,1,none⟩) hrZ).trans z1;have s1:=(hB1.cell (p:=⟨gc,q.which,none⟩) hgZ).trans s0;have k0:=(hB1.cell (p:=⟨qb,0,none⟩) hqZ).trans q0;have k1:=(hB1.cell (p:=⟨qb,1,none⟩) hqZ).trans q1;have k2:=(hB1.cell (p:=⟨qb,2,none⟩) hqZ).trans q2;have k3:=(hB1.cell (p:=⟨qb,3,none⟩) hqZ).trans q3;have HM1:=hide (HMZ.out.below hB1);have HB1:=hide hB1;have hs1:=hB1.size;refine hK.out _ _ ⟨a1,k0,k1,k2,k3⟩ (fun hHeld=>?_)
      (try simp only [Act.put,qA,qB,qC,qD,qE,qF])
      refine wpAnyH_ready (rs:=[16]) (by kernel_rfl) (by simp) ?_;refine AllReadyH.cons rfl (fun K hK=>?_) AllReadyH.nil;refine step_append_own_at rfl _ _ 32 rfl c 3 i0 _ 1 8 Tryz.underlying32 hi0 hz0 hz1 hz2 rfl (by decide) _ nl (xs.map (.int .i64)) rfl (own_below HOW.out HB1.out) ⟨gq,0,none⟩ m m (q.cuts.map (.int .i64)) rfl (by simp [HMC.out]) (cuts_at hoq HMC.out) (ints_one _) hml hmb (by omega) ?_;intro v5 w5 hown hgrow hat;obtain ⟨a5,c5,rfl,_,_⟩:=row_shape hown;obtain ⟨hR,hKR⟩:=HM1.out.put (v':=.slice a5 (nl+m) c5) hwc hws (by rw [HSV.out];exact hgrow) (by rw [HXS.out];exact hown) (by rw [HXS.out,HNL.out,HMC.out]) (by rw [HSV.out];exact hat);have hk5:Kp (fun k=>(Value.slice aw nl cw).ownBlock=some k) w1 w5:=⟨hgrow.os,hgrow.tape,hgrow.output,hgrow.size,fun k hk hn=>hgrow.block k hk (fun e=>hn e.symm)⟩;have hbq:=row_not_entry (own_below HOW.out HB1.out) ((HB1.out.block qb hqZ).trans HQZ.out) (by decide);have hbr:=row_not_entry (own_below HOW.out HB1.out) HM1.out.box (by decide);have hbg:=row_not_entry (own_below HOW.out HB1.out) HM1.out.row (by decide);have a5':=(hk5.cell (b:=rb) (o:=1) (by omega) hbr).trans a1;have s5:=(hk5.cell (b:=gc) (o:=q.which) (by omega) hbg).trans s1;have l0:=(hk5.cell (b:=qb) (o:=0) (by omega) hbq).trans k0;have l1:=(hk5.cell (b:=qb) (o:=1) (by omega) hbq).trans k1;have l2:=(hk5.cell (b:=qb) (o:=2) (by omega) hbq).trans k2;have l3:=(hk5.cell (b:=qb) (o:=3) (by omega) hbq).trans k3;have f5:w5.frozen? ⟨gc,q.which,none⟩=false:=(hk5.frozen (b:=gc) (o:=q.which) (by omega) hbg).trans (Lib.frozen_of_heap HM1.out.row q.which);refine hK.out _ _ ⟨a5',l0,l1,l2,l3⟩ (fun hHeld=>?_)
      (try simp only [Act.put,qA,qB,qC,qD,qE,qF])
      refine wpAnyH_ready (rs:=[17]) (by kernel_rfl) (by simp) ?_;refine AllReadyH.cons rfl (fun K hK=>?_) AllReadyH.nil
      go_simp
      refine hK.out _ _ hHeld (fun hHeld=>?_)
      (try simp only [Act.put,qA,qB,qC,qD,qE,qF])
      refine wpAnyH_ready (rs:=[18]) (by kernel_rfl) (by simp) ?_;refine AllReadyH.cons rfl (fun K hK=>?_) AllReadyH.nil
      go_simp
      have hks:Kp (fun k=>k=gc) w5 (w5.setCell ⟨gc,q.which,none⟩ (.slice a5 (nl+m) c5)):=(Kp.refl (fun k=>k=gc) w5).setCell (p:=⟨gc,q.which,none⟩) (.inl rfl) _;have h5:=hk5.size;have o1:=(hks.cell (b:=rb) (o:=1) (by omega) hrg).trans a5';have o0:=(hks.cell (b:=qb) (o:=0) (by omega) hqg).trans l0;have o2:=(hks.cell (b:=qb) (o:=1) (by omega) hqg).trans l1;have o3:=(hks.cell (b:=qb) (o:=2) (by omega) hqg).trans l2;have o4:=(hks.cell (b:=qb) (o:=3) (by omega) hqg).trans l3;refine hK.out _ _ ⟨o1,o0,o2,o3,o4⟩ (fun hHeld=>?_)
      (try simp only [Act.put,qA,qB,qC,qD,qE,qF])
      refine wpAnyH_done (by kernel_rfl) ?_ _;have HR:=hide hR;have HKR:=hide (KR.trans (KR.ofBelow (HBZ.out.trans (HB1.out.mono hsz))) hKR);generalize w5.setCell ⟨gc,q.which,none⟩ (.slice a5 (nl+m) c5)=Y at *;clear hR hKR hown hgrow hat hk5 hks hoq hb1 hHeld s1 s5 a1 a5' k0 k1 k2 k3 l0 l1 l2 l3 f5 z1 s0 q0 q1 q2 q3;go_wp2_with fail;go_ret;exact ⟨_,rfl,HR.out,HKR.out⟩
    · go_simp
      refine (CU.out _).mono ?_;rintro e w1 ⟨gq,rfl,hoq,hb1⟩;have hB1:Below Z.heap.size Z w1:=(below_d Z).trans (hb1.mono (below_d Z).size);have a1:=(hB1.cell (p:=⟨rb,1,none⟩) hrZ).trans z1;have s1:=(hB1.cell (p:=⟨gc,q.which,none⟩) hgZ).trans s0;have k0:=(hB1.cell (p:=⟨qb,0,none⟩) hqZ).trans q0;have k1:=(hB1.cell (p:=⟨qb,1,none⟩) hqZ).trans q1;have k2:=(hB1.cell (p:=⟨qb,2,none⟩) hqZ).trans q2;have k3:=(hB1.cell (p:=⟨qb,3,none⟩) hqZ).trans q3;have HM1:=hide (HMZ.out.below hB1);have HB1:=hide hB1;have hs1:=hB1.size;refine hK.out _ _ ⟨a1,k0,k1,k2,k3⟩ (fun hHeld=>?_)
      (try simp only [Act.put,qA,qB,qC,qD,qE,qF])
      refine wpAnyH_ready (rs:=[13]) (by kernel_rfl) (by simp) ?_;refine AllReadyH.cons rfl (fun K hK=>?_) AllReadyH.nil
      go_simp
      refine hK.out _ _ hHeld (fun hHeld=>?_)
      (try simp only [Act.put,qA,qB,qC,qD,qE,qF])
      refine wpAnyH_ready (rs:=[16]) (by kernel_rfl) (by simp) ?_;refine AllReadyH.cons rfl (fun K hK=>?_) AllReadyH.nil;refine step_append_own_at rfl _ _ 32 rfl c 3 i0 _ 1 8 Tryz.underlying32 hi0 hz0 hz1 hz2 rfl (by decide) _ nl (xs.map (.int .i64)) rfl (own_below HOW.out HB1.out) ⟨gq,0,none⟩ m m (q.cuts.map (.int .i64)) rfl (by simp [HMC.out]) (cuts_at hoq HMC.out) (ints_one _) hml hmb (by omega) ?_;intro v5 w5 hown hgrow hat;obtain ⟨a5,c5,rfl,_,_⟩:=row_shape hown;obtain ⟨hR,hKR⟩:=HM1.out.put (v':=.slice a5 (nl+m) c5) hwc hws (by rw [HSV.out];exact hgrow) (by rw [HXS.out];exact hown) (by rw [HXS.out,HNL.out,HMC.out]) (by rw [HSV.out];exact hat);have hk5:Kp (fun k=>(Value.slice aw nl cw).ownBlock=some k) w1 w5:=⟨hgrow.os,hgrow.tape,hgrow.output,hgrow.size,fun k hk hn=>hgrow.block k hk (fun e=>hn e.symm)⟩;have hbq:=row_not_entry (own_below HOW.out HB1.out) ((HB1.out.block qb hqZ).trans HQZ.out) (by decide);have hbr:=row_not_entry (own_below HOW.out HB1.out) HM1.out.box (by decide);have hbg:=row_not_entry (own_below HOW.out HB1.out) HM1.out.row (by decide);have a5':=(hk5.cell (b:=rb) (o:=1) (by omega) hbr).trans a1;have s5:=(hk5.cell (b:=gc) (o:=q.which) (by omega) hbg).trans s1;have l0:=(hk5.cell (b:=qb) (o:=0) (by omega) hbq).trans k0;have l1:=(hk5.cell (b:=qb) (o:=1) (by omega) hbq).trans k1;have l2:=(hk5.cell (b:=qb) (o:=2) (by omega) hbq).trans k2;have l3:=(hk5.cell (b:=qb) (o:=3) (by omega) hbq).trans k3;have f5:w5.frozen? ⟨gc,q.which,none⟩=false:=(hk5.frozen (b:=gc) (o:=q.which) (by omega) hbg).trans (Lib.frozen_of_heap HM1.out.row q.which);refine hK.out _ _ ⟨a5',l0,l1,l2,l3⟩ (fun hHeld=>?_)
      (try simp only [Act.put,qA,qB,qC,qD,qE,qF])
      refine wpAnyH_ready (rs:=[17]) (by kernel_rfl) (by simp) ?_;refine AllReadyH.cons rfl (fun K hK=>?_) AllReadyH.nil
      go_simp
      refine hK.out _ _ hHeld (fun hHeld=>?_)
      (try simp only [Act.put,qA,qB,qC,qD,qE,qF])
      refine wpAnyH_ready (rs:=[18]) (by kernel_rfl) (by simp) ?_;refine AllReadyH.cons rfl (fun K hK=>?_) AllReadyH.nil
      go_simp
      have hks:Kp (fun k=>k=gc) w5 (w5.setCell ⟨gc,q.which,none⟩ (.slice a5 (nl+m) c5)):=(Kp.refl (fun k=>k=gc) w5).setCell (p:=⟨gc,q.which,none⟩) (.inl rfl) _;have h5:=hk5.size;have o1:=(hks.cell (b:=rb) (o:=1) (by omega) hrg).trans a5';have o0:=(hks.cell (b:=qb) (o:=0) (by omega) hqg).trans l0;have o2:=(hks.cell (b:=qb) (o:=1) (by omega) hqg).trans l1;have o3:=(hks.cell (b:=qb) (o:=2) (by omega) hqg).trans l2;have o4:=(hks.cell (b:=qb) (o:=3) (by omega) hqg).trans l3;refine hK.out _ _ ⟨o1,o0,o2,o3,o4⟩ (fun hHeld=>?_)
      (try simp only [Act.put,qA,qB,qC,qD,qE,qF])
      refine wpAnyH_done (by kernel_rfl) ?_ _;have HR:=hide hR;have HKR:=hide (KR.trans (KR.ofBelow (HBZ.out.trans (HB1.out.mono hsz))) hKR);generalize w5.setCell ⟨gc,q.which,none⟩ (.slice a5 (nl+m) c5)=Y at *;clear hR hKR hown hgrow hat hk5 hks hoq hb1 hHeld s1 s5 a1 a5' k0 k1 k2 k3 l0 l1 l2 l3 f5 z1 s0 q0 q1 q2 q3;go_wp2_with fail;go_ret;exact ⟨_,rfl,HR.out,HKR.out⟩
end
end Go.Proofs.YtdjaiolfdbamcaaGreatDoor
