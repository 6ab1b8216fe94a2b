/- The walk of scenesOf. -/
import Derived.Test.YtdjaiolfdbamcaaGreatDoorZWCFJ
import Derived.Deep.OwnRows
set_option maxRecDepth 20000
set_option maxHeartbeats 1500000
namespace Go.Proofs.YtdjaiolfdbamcaaGreatDoor
open Go.RowKit
attribute [local go_sem ↓] Go.wp_at_zero Go.wp_at_succ
namespace Cx
theorem addCuts_at (qs:List Q):∀ (cs:List (List Int)) (i:Nat),(addCuts qs cs)[i]? = cs[i]?.map (· ++ cutsAt qs i):=by
 induction qs with
 | nil=>intro cs i;simp [addCuts,cutsAt]
 | cons q t ih =>
  intro cs i;have h1:addCuts (q::t) cs=addCuts t (addCut cs q):=rfl;rw [h1,ih];unfold addCut cutsAt
  by_cases h:q.which=i
  ·subst h
   by_cases hl:q.which<cs.length
   ·simp [List.getElem?_set_self hl,List.getElem?_eq_getElem hl]
   ·rw [List.getElem?_eq_none (by simpa using hl),List.getElem?_eq_none (by omega)];rfl
  ·rw [List.getElem?_set_ne h]
   have:(q.which == i)=false:=by simpa using h
   simp [this]
theorem cuts_from (qs:List Q) (m i:Nat) (h:i<m):(addCuts qs (List.replicate m []))[i]? = some (cutsAt qs i):=by
 rw [addCuts_at];simp [h]
theorem fits_zero (m:Nat):fits (List.replicate m []) 0:=by
 intro l hl;rw [(List.mem_replicate.1 hl).2];simp
end Cx
theorem GuV.keepBox {m:Nat} {A:Nat->Prop} {F:Nat->Prop} {W W':World} {v:Value} {p:List Int->Bool} (h:GuV m A W v p) (hk:Kp F W W') (hF:∀ {c:Nat} {x:Value},W.heap[c]? = some (.cells #[x] 272 (0,0))->¬ F c):GuV m A W' v p:=by
 have key:∀ {c:Nat} {x:Value},W.heap[c]? = some (.cells #[x] 272 (0,0))->W'.heap[c]? = some (.cells #[x] 272 (0,0)):=fun hx=>(hk.block _ (Array.getElem?_eq_some_iff.1 hx).1 (hF hx)).trans hx
 induction h with
 | tru=>exact .tru
 | atom q h=>exact .atom q h
 | not hc hx _ ih=>exact .not hc (key hx) ih
 | or hc hd hx hy _ _ ih ih'=>exact .or hc hd (key hx) (key hy) ih ih'
 | and hc hd hx hy _ _ ih ih'=>exact .and hc hd (key hx) (key hy) ih ih'
theorem rdm_made {W:World} {c rb tb gc m:Nat} (hb:W.heap[rb]? = some (.cells #[.pointer (some ⟨tb,0,none⟩),.slice (some ⟨gc,0,none⟩) m m] 216 (0,0))) (hr:W.heap[gc]? = some (.cells (List.replicate m (Value.slice none 0 0)).toArray 32 (0,0))) (hc:c<=gc):RdM W c rb tb gc (List.replicate m []) (List.replicate m (.slice none 0 0)):=by
 have hz:cutRows (List.replicate m []) (List.replicate m (Value.slice none 0 0))=List.replicate m (cutRow [] (.slice none 0 0)):=by unfold cutRows;simp
 refine ⟨by rw [List.length_replicate];exact hb,hr,hc,by simp,?_⟩;rw [hz];refine ⟨fun i r hr=>?_,fun i j a b _ ha _=>?_⟩
 ·rw [(List.mem_replicate.1 (List.mem_of_getElem? hr)).2]
  exact World.ownsRow_nil _ _ _ _
 ·rw [(List.mem_replicate.1 (List.mem_of_getElem? ha)).2]
  exact .inl rfl
theorem made_nil (m:Nat):Go.madeCells #[Value.slice none 0 0] m=(List.replicate m (Value.slice none 0 0)).toArray:=by
 apply Array.ext
 ·simp [Go.size_madeCells]
 ·intro i h1 h2
  simp [Go.madeCells,Nat.mod_one]
theorem ni_some {W:World} {base g n cap:Nat} {l:List Int} (h:W.ownsRow base 3 1 (.slice (some ⟨g,0,none⟩) n cap) n (l.map (.int .i64))) (hn:n=l.length):NI W (.slice (some ⟨g,0,none⟩) n cap) l:=by
 subst hn;rcases h.2 with ⟨e,_⟩ | ⟨g',cap',cur,e,_,hg,hc,hm,_,ht⟩
 ·cases e
 ·cases e
  exact ⟨g,cap,cur,rfl,hc,hm,hg,by simpa using ht⟩
theorem cuts_cells {W:World} {c:Nat} {v:Value} {l:List Int} (h:W.ownsRow c 3 1 v l.length (l.map (.int .i64))):∃ av cap g,v=.slice av l.length cap/\(0<l.length->av=some ⟨g,0,none⟩/\g<W.heap.size)/\∀ i (hi:i<l.length),W.cell? ⟨g,i,none⟩=some (.int .i64 l[i]):=by
 by_cases h0:0<l.length
 ·obtain ⟨g,cap,e,_,hg,_,_,hc⟩:=row_open h h0
  exact ⟨_,cap,g,e,fun _=>⟨rfl,hg⟩,fun i hi=>(hc i (by omega)).trans (by simp [hi])⟩
 ·obtain ⟨a,cap,e,_,_⟩:=row_shape h
  exact ⟨a,cap,0,e,fun h=>absurd h h0,fun i hi=>absurd (Nat.lt_of_le_of_lt (Nat.zero_le _) hi) h0⟩
theorem var_cells {w:World} {base tb:Nat} {vt vv vm:Value} {vs:List VarA} {gs:List MG} {F:Nat->Prop} (h:PT w base tb vt vs gs F vv vm) {i:Nat} (hi:i<vs.length):∃ gv cap,vv=.slice (some ⟨gv,0,none⟩) vs.length cap/\gv<w.heap.size/\∀ k,k<12->w.cell? ⟨gv,i*12+k,none⟩=(varC vs[i])[k]? := by
 have ho:w.ownsRow base 166 12 vv vs.length (vs.flatMap varC):=h.mem.own 1 _ rfl;obtain ⟨g,cap,e,_,hg,_,_,hc⟩:=row_open ho (by omega);refine ⟨g,cap,e,hg,fun k hk=>(hc (i*12+k) (by omega)).trans ?_⟩;exact flatC varC 12 vs (fun _=>rfl) i k hi hk
theorem choices_len (vs:List VarA) (ms:List Hx.MA):(Cx.choices vs ms).length=2*vs.length:=by unfold Cx.choices;rw [List.length_map,List.length_range]
theorem choices_at (vs:List VarA) (ms:List Hx.MA) (j:Nat) (hj:j<(Cx.choices vs ms).length):(Cx.choices vs ms)[j]=Cx.choice vs (Cx.allAtoms vs ms) j:=by
 simp [Cx.choices]
theorem choices_small {vs:List VarA} {ms:List Hx.MA} {qs:List Cx.Q} {cs:List (List Int)} (he:cs=Cx.choices vs ms) (hq:qs=Cx.allAtoms vs ms) (h:∀ i,(Cx.choice vs qs i).length<=1000):∀ c∈cs,c.length<=1000:=by
 subst hq;subst he;intro c hc;obtain ⟨j,_,e⟩:=List.mem_map.1 hc;rw [<- e];exact h j
theorem choice_nr {W:World} {v:Value} {vs:List VarA} {ms:List Hx.MA} {qs:List Cx.Q} {cs:List (List Int)} {j:Nat} (he:cs=Cx.choices vs ms) (hq:qs=Cx.allAtoms vs ms) (h:NR W v (Cx.choice vs qs j)) (hj:j<cs.length):NR W v cs[j]:=by
 subst hq;subst he;rw [choices_at];exact h
theorem low_of {vs:List VarA} {i:Nat} (h:i<vs.length):Cx.lowOf vs i=vs[i].first.n/\Cx.highOf vs i=vs[i].last.n:=by simp [Cx.lowOf,Cx.highOf,h]
def scC (p:Value×Int):List Value:=[p.1,.int .u32 p.2]
theorem Tryz.infoScene:(Tryz.prog.info? 223).map (fun i=>(i.zero,i.size,i.bytes))=some (some (.agg #[.slice none 0 0,.int .u32 0]),2,32):=by kernel_rfl
theorem sc_take {us:List Value} {rs:List Int} {i:Nat} (h1:i<us.length) (h2:i<rs.length):((us.zip rs).take (i+1)).flatMap scC=((us.zip rs).take i).flatMap scC++[us[i],.int .u32 rs[i]]:=by
 have h3:i<(us.zip rs).length:=by rw [List.length_zip];omega
 rw [List.take_add_one,List.getElem?_eq_getElem h3,List.flatMap_append];simp [scC]
theorem scm_of {W:World} {base:Nat} {s:Value} {ls:List (List Int)} {us:List Value} {R:List Int->Int} (hlen:us.length=ls.length) (ho:W.ownsRow base 223 2 s ls.length ((us.zip (ls.map R)).flatMap scC)) (hn:∀ i (hi:i<us.length) (hj:i<ls.length),NR W us[i] ls[i]) (h0:0<ls.length):ScM W s (ls.map fun l=>(l,R l)):=by
 obtain ⟨g,cap,e,_,hg,_,_,hc⟩:=row_open ho h0;refine ⟨g,cap,by rw [e];simp,hg,fun i hi=>?_⟩;have hi2:i<ls.length:=by simpa using hi
 have hi3:i<us.length:=by rw [hlen];exact hi2
 have hz:i<(us.zip (ls.map R)).length:=by rw [List.length_zip];simp;omega
 have hf:=fun j hj=>flatC scC 2 (us.zip (ls.map R)) (fun _=>rfl) i j hz hj
 have hp:(us.zip (ls.map R))[i]=(us[i],R ls[i]):=by simp
 refine ⟨(hc (i*2+1) (by omega)).trans ((hf 1 (by omega)).trans (by rw [hp];simp [scC])),us[i],(hc (i*2) (by omega)).trans ((hf 0 (by omega)).trans (by rw [hp];rfl)),?_⟩;simp only [List.getElem_map];exact hn i hi3 hi2
theorem scenesOf_any (w:World) (base tb:Nat) (vt vv vm:Value) (vs:List VarA) (gs:List MG) (hT:PT w base tb vt vs gs (fun k=>k<w.heap.size) vv vm) (hvl:vs.length<=400) (hgl:gs.length<=1000) (hg:∀ m∈gs,m.a.rows.length<=10000/\∀ r∈m.a.rows,gOk vs r.g)
  (hn:2*(atomsOf vs (Cx.rowsAll (gs.map (·.a)))).length<=100000) (hrl:(Cx.rowsAll (gs.map (·.a))).length<=100) (hcl:∀ i,(Cx.choice vs (Cx.allAtoms vs (gs.map (·.a))) i).length<=1000) (hcb:∀ i,(Cx.combine ((Cx.choices vs (gs.map (·.a))).take i)).length<=100000000) (h0:0<(Cx.combine (Cx.choices vs (gs.map (·.a)))).length) :
  Calls Tryz.prog 77 #[.pointer (some ⟨tb,0,none⟩)] w fun e w'=>∃ s,e=.returned s/\ScM w' s (Cx.scenes vs (gs.map (·.a)))/\Below w.heap.size w w':=by
 obtain ⟨_,x1,_,_,_,htl,_⟩:=hT.cells;obtain ⟨av,cv,hvv,_,_⟩:=row_shape (hT.mem.own 1 _ rfl);simp only at hvv;subst hvv;have HT:=hide hT;have HG:=hide hg;have HCL:=hide hcl;have HCB:=hide hcb;have H0:=hide h0;clear hT hg hcl hcb h0;obtain ⟨m,hm⟩ : ∃ m,m=2*vs.length:=⟨_,rfl⟩;have HSC:Hid (Cx.scenes vs (gs.map (·.a))=(Cx.combine (Cx.choices vs (gs.map (·.a)))).map fun l=>(l,Cx.rowsTo (Cx.guards vs (gs.map (·.a))) l (Cx.guards vs (gs.map (·.a))).length)):=hide rfl;have hlc0:=choices_len vs (gs.map (·.a));obtain ⟨cs,hcsE⟩ : ∃ cs,cs=Cx.choices vs (gs.map (·.a)):=⟨_,rfl⟩;rw [<- hcsE] at HCB H0 HSC hlc0;have HCSE:=hide hcsE;have hlc:cs.length=m:=hlc0.trans hm.symm;clear hcsE hlc0;have hmi:(2:Int)*(vs.length:Int)=(m:Int):=by omega
 have HM:=hide hm;have hm8:m<=800:=by omega
 have hmk:∀ W,(Instr.makeSlice 24 (.int .i64 (m:Int)) (.int .i64 (m:Int))).run Tryz.prog W=.ok (.slice (some ⟨W.heap.size,0,none⟩) m m) (W.alloc (.cells (List.replicate m (Value.slice none 0 0)).toArray 32)):=fun W=>by
  rw [<- made_nil];exact run_make_row' (P:=Tryz.prog) 24 32 (.slice none 0 0) 24 Tryz.underlying24 Tryz.infoSl rfl .i64 .i64 m (by omega) (by omega) W
 obtain ⟨W1,hW1⟩ : ∃ W1,W1=(w.alloc (.cells (Array.replicate m (Value.slice none 0 0)) 32)).alloc (.cells #[.pointer (some ⟨tb,0,none⟩),.slice (some ⟨w.heap.size,0,none⟩) m m] 216):=⟨_,rfl⟩;have hb1:Below w.heap.size w W1:=by rw [hW1];exact below_two _ _ _
 have hs1:W1.heap.size=w.heap.size+2:=by rw [hW1];simp
 have hrd:RdM W1 w.heap.size (w.heap.size+1) tb w.heap.size (List.replicate m []) (List.replicate m (.slice none 0 0)):=by
  refine rdm_made ?_ ?_ (Nat.le_refl _)
  ·rw [hW1];exact hp_new (by simp)
  ·rw [hW1,List.toArray_replicate];exact hp_old (hp_new rfl)
 have HRR:=hide (readRows_any W1 w.heap.size (w.heap.size+1) tb w.heap.size base vt _ vm vs gs (by omega) hgl (List.replicate m []) _ hrd (HT.out.below hb1) (by omega) HG.out (by simp [hm]) (Cx.fits_zero m) hn (by omega));have HB1:=hide hb1;clear hm hb1 hrd;simp only [List.toArray_replicate] at hmk;go_enter Tryz.func77,Tryz.ntmps77;go_wp2_with fail;rw [<- hW1];clear hW1 x1;refine HRR.out.mono ?_;rintro e w2 ⟨gsv,rfl,⟨gvals,hG⟩,⟨sv,hR⟩,hK⟩;have HGD:=hide hG;have HRD:=hide hR;have HK:=hide hK;have hs2:=Kp.size hK;obtain ⟨aG,cG,rfl,_,_⟩:=row_shape hG.own;have HQS:Hid (atomsOf vs (Cx.rowsAll (gs.map (·.a)))=Cx.allAtoms vs (gs.map (·.a))):=hide rfl;rw [HQS.out] at HRD;have HBW:Hid (Below w.heap.size w w2):=hide (HB1.out.trans (hK.toBelow (by omega)));have hlm:(Cx.addCuts (Cx.allAtoms vs (gs.map (·.a))) (List.replicate m [])).length=m:=by rw [Cx.addCuts_len];simp
 have y1:w2.cell? ⟨w.heap.size+1,1,none⟩=some (.slice (some ⟨w.heap.size,0,none⟩) m m):=by have:=Lib.cell_of_heap HRD.out.box 1;rw [hlm] at this;exact this
 have hrb2:w.heap.size+1<w2.heap.size:=by omega
 have HX3:Hid (Below w2.heap.size w2 (w2.alloc (.cells (Array.replicate m (Value.slice none 0 0)) 32))):=hide (below_a _ _);have HC3:=hide (heap_alloc_new w2 (.cells (Array.replicate m (Value.slice none 0 0)) 32));have hs3:(w2.alloc (.cells (Array.replicate m (Value.slice none 0 0)) 32)).heap.size=w2.heap.size+1:=by simp
 obtain ⟨W3,hW3⟩ : ∃ W3,W3=w2.alloc (.cells (Array.replicate m (Value.slice none 0 0)) 32):=⟨_,rfl⟩;rw [<- hW3] at HX3 HC3 hs3;clear hG hR hK HRR hlm;go_wp2_with fail;rw [<- hW3];clear hW3 y1;obtain ⟨qs,hqs⟩ : ∃ qs,qs=Cx.allAtoms vs (gs.map (·.a)):=⟨_,rfl⟩;rw [<- hqs] at HRD HCL;have HQE:=hide hqs;clear hqs
 go_loopg [29] m (fun k v29 wr=>∃ (i:Nat) (ch:List Value),i+k=m/\v29=.int .i64 i/\Kp (fun k=>k=w2.heap.size) W3 wr/\ch.length=m/\wr.heap[w2.heap.size]? = some (.cells ch.toArray 32 (0,0))/\∀ j (hj:j<ch.length),j<i->NI wr ch[j] (Cx.choice vs qs j))
 case atStart=>exact ⟨0,List.replicate m (.slice none 0 0),by omega,rfl,Kp.refl _ _,by simp,by rw [List.toArray_replicate];exact HC3.out,fun j hj h=>by omega⟩
 case round =>
  obtain ⟨i,ch,hi,rfl,hk,hchl,hx,hni⟩:=hrel;have HKr:=hide hk;have HX:=hide hx;have HNI:=hide hni;have hsr:=Kp.size hk;clear hni
  by_cases hlt:i<m
  ·have hli:(i:Int)<m:=by omega
   have hi0:(0:Int)<=i:=by omega
   have hn0:0<vs.length:=by have:=HM.out;omega
   have hn1:¬ vs=[]:=by rintro rfl;simp at hn0
   obtain ⟨jm,hjm⟩ : ∃ jm,jm=i % vs.length:=⟨_,rfl⟩;have hmod:Int.tmod (i:Int) (vs.length:Int)=(jm:Int):=by rw [hjm,Int.tmod_eq_emod_of_nonneg hi0];rfl
   have hjl:jm<vs.length:=by rw [hjm];exact Nat.mod_lt _ hn0
   have hjli:(jm:Int)<vs.length:=by omega
   have hj0:(0:Int)<=jm:=by omega
   have hTr:PT wr base tb vt vs gs (fun k=>k<w.heap.size) (.slice av vs.length cv) vm:=((HT.out.below HBW.out).below HX3.out).kept hk (fun k hF e=>by omega);obtain ⟨gv,cap,e,hgv,hcv⟩:=var_cells hTr hjl
   cases e
   obtain ⟨_,t1,_,_,_,_,_⟩:=hTr.cells;obtain ⟨hlo,hhi⟩:=low_of hjl;have hsl:i<sv.length:=by rw [HRD.out.len,Cx.addCuts_len];simpa using hlt
   have hcl:i<(Cx.addCuts qs (List.replicate m [])).length:=by rw [Cx.addCuts_len];simpa using hlt
   have hce:(Cx.addCuts qs (List.replicate m []))[i]=Cx.cutsAt qs i:=by
    have:=Cx.cuts_from qs m i hlt;rw [List.getElem?_eq_getElem hcl] at this;simpa using this
   have hso:w2.ownsRow w.heap.size 3 1 sv[i] (Cx.cutsAt qs i).length ((Cx.cutsAt qs i).map (.int .i64)):=by
    have:=HRD.out.mem.own i _ (cutRows_at hcl hsl);rw [hce] at this;exact this
   have hso3:wr.ownsRow w.heap.size 3 1 sv[i] (Cx.cutsAt qs i).length ((Cx.cutsAt qs i).map (.int .i64)):=hk.own (own_below hso HX3.out) (fun k e e2=>by have:=(hso.lt k e).2;omega);have s0:wr.cell? ⟨w.heap.size,i,none⟩=some sv[i]:=((hk.cell (b:=w.heap.size) (o:=i) (by omega) (by omega)).trans (HX3.out.cell (p:=⟨w.heap.size,i,none⟩) (by show w.heap.size<w2.heap.size;omega))).trans ((Lib.cell_of_heap HRD.out.row i).trans (by simp [hsl]));obtain ⟨ac,cc,gc,hcs,hcg,hcc⟩:=cuts_cells hso3;rw [hcs] at s0;have hcutl:(Cx.cutsAt qs i).length<=100000:=by
    have h1:=Cx.fits_adds qs (Cx.fits_zero m) _ (List.getElem_mem hcl);rw [hce] at h1;have h2:2*qs.length<=100000:=by rw [HQE.out,<- HQS.out];exact hn
    omega
   have hCH:Cx.choice vs qs i=Cx.leastOnes vs[jm].first.n vs[jm].last.n (Cx.cutsAt qs i):=by unfold Cx.choice;rw [<- hjm,hlo,hhi]
   have hchoice:=HCL.out i;have hci:i<ch.length:=by omega
   have p0:wr.cell? ⟨w2.heap.size,i,none⟩=some ch[i]:=(Lib.cell_of_heap hx i).trans (by simp [hci]);have HCC:=hide hcc;have HCG:=hide hcg;have HCHE:=hide hCH;have hcol:w2.heap.size<wr.heap.size:=by omega
   generalize vs[jm]=va at *;have z0:wr.cell? ⟨gv,jm*12,none⟩=some (.int .i64 (kindA va.name.k)):=hcv 0 (by omega);have z1:wr.cell? ⟨gv,jm*12+1,none⟩=some (.string va.name.s):=hcv 1 (by omega);have z2:wr.cell? ⟨gv,jm*12+2,none⟩=some (.int .i64 va.name.n):=hcv 2 (by omega);have z3:wr.cell? ⟨gv,jm*12+3,none⟩=some (.int .i64 va.name.line):=hcv 3 (by omega);have z4:wr.cell? ⟨gv,jm*12+4,none⟩=some (.int .i64 (kindA va.first.k)):=hcv 4 (by omega);have z5:wr.cell? ⟨gv,jm*12+5,none⟩=some (.string va.first.s):=hcv 5 (by omega);have z6:wr.cell? ⟨gv,jm*12+6,none⟩=some (.int .i64 va.first.n):=hcv 6 (by omega);have z7:wr.cell? ⟨gv,jm*12+7,none⟩=some (.int .i64 va.first.line):=hcv 7 (by omega);have z8:wr.cell? ⟨gv,jm*12+8,none⟩=some (.int .i64 (kindA va.last.k)):=hcv 8 (by omega);have z9:wr.cell? ⟨gv,jm*12+9,none⟩=some (.string va.last.s):=hcv 9 (by omega);have z10:wr.cell? ⟨gv,jm*12+10,none⟩=some (.int .i64 va.last.n):=hcv 10 (by omega);have z11:wr.cell? ⟨gv,jm*12+11,none⟩=some (.int .i64 va.last.line):=hcv 11 (by omega);clear hk hx hTr hcv hso hso3 hcs hce hcc hcg hCH hlo hhi hjm;generalize Cx.cutsAt qs i=cl at *
   have CK:Hid (∀ Y,Below wr.heap.size wr Y->Calls Tryz.prog 114 #[.int .i64 va.first.n,.int .i64 va.last.n,.slice ac cl.length cc] Y fun e w'=>∃ g' cap',e=.returned (.slice (some ⟨g',0,none⟩) (Cx.leastOnes va.first.n va.last.n cl).length cap')/\w'.ownsRow Y.heap.size 3 1 (.slice (some ⟨g',0,none⟩) (Cx.leastOnes va.first.n va.last.n cl).length cap') (Cx.leastOnes va.first.n va.last.n cl).length ((Cx.leastOnes va.first.n va.last.n cl).map (.int .i64))/\Below Y.heap.size Y w'):=hide (fun Y hY =>
    leastOnes_any Y va.first.n va.last.n ac gc cc cl hcutl (fun h=>⟨(HCG.out h).1,Nat.lt_of_lt_of_le (HCG.out h).2 hY.size⟩) (fun j hj=>(hY.cell (p:=⟨gc,j,none⟩) ((HCG.out (by omega)).2)).trans (HCC.out j hj)))
   have HXv:Hid (Below wr.heap.size wr (wr.alloc (.cells #[.int .i64 (kindA va.name.k),.string va.name.s,.int .i64 va.name.n,.int .i64 va.name.line,.int .i64 (kindA va.first.k),.string va.first.s,.int .i64 va.first.n,.int .i64 va.first.line,.int .i64 (kindA va.last.k),.string va.last.s,.int .i64 va.last.n,.int .i64 va.last.line] 166))):=hide (below_a _ _);go_upto_region 7 with (fail)
   go_region_held3 (fun Y=>Y.cell? ⟨tb,1,none⟩=some (.slice (some ⟨gv,0,none⟩) vs.length cv)/\Y.cell? ⟨gv,jm*12,none⟩=some (.int .i64 (kindA va.name.k))/\Y.cell? ⟨gv,jm*12+1,none⟩=some (.string va.name.s)/\Y.cell? ⟨gv,jm*12+2,none⟩=some (.int .i64 va.name.n)/\Y.cell? ⟨gv,jm*12+3,none⟩=some (.int .i64 va.name.line)/\Y.cell? ⟨gv,jm*12+4,none⟩=some (.int .i64 (kindA va.first.k))/\Y.cell? ⟨gv,jm*12+5,none⟩=some (.string va.first.s)/\Y.cell? ⟨gv,jm*12+6,none⟩=some (.int .i64 va.first.n)/\Y.cell? ⟨gv,jm*12+7,none⟩=some (.int .i64 va.first.line)/\Y.cell? ⟨gv,jm*12+8,none⟩=some (.int .i64 (kindA va.last.k))/\Y.cell? ⟨gv,jm*12+9,none⟩=some (.string va.last.s)/\Y.cell? ⟨gv,jm*12+10,none⟩=some (.int .i64 va.last.n)/\Y.cell? ⟨gv,jm*12+11,none⟩=some (.int .i64 va.last.line)) (first | go_keep | (with_reducible exact ⟨t1,z0,z1,z2,z3,z4,z5,z6,z7,z8,z9,z10,z11⟩)) (fail)
   clear t1 z0 z1 z2 z3 z4 z5 z6 z7 z8 z9 z10 z11;go_wp2_with fail;refine (CK.out _ ?_).mono ?_
   ·exact (HXv.out).drew
   rintro e w5 ⟨g5,c5,rfl,ho5,hb5⟩;have hB5:Below wr.heap.size wr w5:=(HXv.out.drew).trans (hb5.mono HXv.out.size);have HB5:=hide hB5;have hs5:=hB5.size;have hx5:=(hB5.block w2.heap.size hcol).trans HX.out;have p5:w5.cell? ⟨w2.heap.size,i,none⟩=some ch[i]:=(hB5.cell (p:=⟨w2.heap.size,i,none⟩) hcol).trans p0;have f5:w5.frozen? ⟨w2.heap.size,i,none⟩=false:=Lib.frozen_of_heap hx5 i;have HN5:Hid (NI w5 (.slice (some ⟨g5,0,none⟩) (Cx.leastOnes va.first.n va.last.n cl).length c5) (Cx.choice vs qs i)):=hide (by rw [HCHE.out];exact ni_some ho5 rfl);rw [HCHE.out] at HN5;have hlv:(Cx.leastOnes va.first.n va.last.n cl).length<=1000:=by rw [<- HCHE.out];exact hchoice
   obtain ⟨nl,hnl⟩ : ∃ nl,nl=(Cx.leastOnes va.first.n va.last.n cl).length:=⟨_,rfl⟩;rw [<- hnl] at HN5 hlv |-;clear hnl;have hks:Kp (fun k=>k=w2.heap.size) w5 (w5.setCell ⟨w2.heap.size,i,none⟩ (.slice (some ⟨g5,0,none⟩) nl c5)):=(Kp.refl (fun k=>k=w2.heap.size) w5).setCell (p:=⟨w2.heap.size,i,none⟩) (.inl rfl) _;have hnt:∀ g cur,w5.heap[g]? = some (.cells cur 3 (0,0))->¬ g=w2.heap.size:=fun g cur hg e=>by
    rw [e,hx5] at hg;simp at hg
   have HK9:Hid (Kp (fun k=>k=w2.heap.size) W3 (w5.setCell ⟨w2.heap.size,i,none⟩ (.slice (some ⟨g5,0,none⟩) nl c5))):=hide ((HKr.out.below hB5).trans hks (fun _ e=>.inl e));have HX9:Hid ((w5.setCell ⟨w2.heap.size,i,none⟩ (.slice (some ⟨g5,0,none⟩) nl c5)).heap[w2.heap.size]? = some (.cells (ch.set i (.slice (some ⟨g5,0,none⟩) nl c5)).toArray 32 (0,0))):=hide (by rw [set_heap hx5];simp)
   have HN9:Hid (∀ j (hj:j<(ch.set i (.slice (some ⟨g5,0,none⟩) nl c5)).length),j<i+1->NI (w5.setCell ⟨w2.heap.size,i,none⟩ (.slice (some ⟨g5,0,none⟩) nl c5)) (ch.set i (.slice (some ⟨g5,0,none⟩) nl c5))[j] (Cx.choice vs qs j)):=hide (fun j hj hji=>by
    by_cases hje:i=j
    ·subst hje
     rw [List.getElem_set_self,HCHE.out];exact HN5.out.kept hks hnt
    ·rw [List.getElem_set_ne hje]
     exact ((HNI.out j (by simpa using hj) (by omega)).below hB5).kept hks hnt)
   clear hb5 hB5 ho5 hx5 hks hnt p0;go_wp2_with fail
   go_roundg (m-(i+1))
   case measure=>omega
   case rel=>exact ⟨i+1,_,by omega,by go_num,HK9.out,by simpa using hchl,HX9.out,HN9.out⟩
  ·obtain rfl:m=i:=by omega
   have hca:=choices_small HCSE.out HQE.out HCL.out;have hcn:∀ j (hj:j<ch.length) (hj2:j<cs.length),NR wr ch[j] cs[j]:=fun j hj hj2=>choice_nr HCSE.out HQE.out (HNI.out j hj (by omega)).nr hj2
   have hcc:∀ j (hj:j<ch.length),wr.cell? ⟨w2.heap.size,j,none⟩=some ch[j]:=fun j hj=>(Lib.cell_of_heap hx j).trans (by simp [hj])
   have CB:=hide (combine_any wr w2.heap.size m cs ch (hchl.trans hlc.symm) (fun _=>by omega) hcc hcn (by omega) hca HCB.out);rw [hlc] at CB;have HBr:Hid (Below w.heap.size w wr):=hide ((HBW.out.trans (HX3.out.mono (by omega))).trans (hk.toBelow (fun k e=>by omega) (by omega)));have hGr:=(HGD.out.below HX3.out)
   have HGR:Hid (∀ j (hj:j<gvals.length) (hd:j<(Cx.rowsAll (gs.map (·.a))).length),Ans (2*vs.length) wr gvals[j] (Cx.eval vs (Cx.rowsAll (gs.map (·.a)))[j].g)):=hide (fun j hj hd=>by
    obtain ⟨A,h1,_⟩:=hGr.gu j hj hd;have h2:GuV (2*vs.length) (fun k=>A k/\k<W3.heap.size) W3 gvals[j] (Cx.eval vs (Cx.rowsAll (gs.map (·.a)))[j].g):=h1.restrict;have hbx:∀ {c:Nat} {x:Value},W3.heap[c]? = some (.cells #[x] 272 (0,0))->¬ c=w2.heap.size:=fun {c x} hc e=>by
     rw [e,HC3.out] at hc;simp at hc
    exact (GuV.keepBox h2 hk hbx).ans)
   have HGO:Hid (wr.ownsRow W1.heap.size 272 1 (.slice aG (Cx.rowsAll (gs.map (·.a))).length cG) (Cx.rowsAll (gs.map (·.a))).length gvals):=hide (hk.own hGr.own (fun k e e2=>by
    have:=(HGD.out.own.lt k e).2;omega))
   clear hGr hk hx hca hcn hcc;go_wp2_with fail;refine CB.out.mono ?_;rintro e w6 ⟨lsv,us,rfl,hLR,hb6⟩;have hls:=Cx.combine_lens cs cs.length (Nat.le_refl _);have hlb:=HCB.out cs.length;rw [List.take_length] at hls hlb;have HLS:=hide hls;clear hls;obtain ⟨ls,hlsE⟩ : ∃ ls,ls=Cx.combine cs:=⟨_,rfl⟩;rw [<- hlsE] at hLR hlb HLS H0 HSC;clear hlsE;obtain ⟨aL,cL,rfl,_,_⟩:=row_shape hLR.own;have HLR:=hide hLR;have HB6:=hide hb6;have hs6:=hb6.size;have hul:=hLR.len;obtain ⟨rs,hrs⟩ : ∃ rs,rs=Cx.rowsAll (gs.map (·.a)):=⟨_,rfl⟩;rw [<- hrs] at HGR HGO hrl |-;have HRS:=hide hrs;have hgvl:gvals.length=rs.length:=by rw [hrs];exact HGD.out.len
   obtain ⟨ps,hps⟩ : ∃ ps,ps=Cx.guards vs (gs.map (·.a)):=⟨_,rfl⟩;have hpl:ps.length=rs.length:=by rw [hps,hrs];simp [Cx.guards]
   have hpe:∀ j (hj:j<ps.length) (hr:j<rs.length),ps[j]=Cx.eval vs rs[j].g:=fun j hj hr=>by subst hps;subst hrs;simp [Cx.guards]
   rw [<- hps] at HSC;have HPE:=hide hpe
   have CT:Hid (∀ (Y:World) (sl:Value) (l:List Int),Below wr.heap.size wr Y->NS (2*vs.length) Y sl l->Calls Tryz.prog 116 #[.slice aG rs.length cG,sl] Y fun e w'=>e=.returned (.int .u32 (Cx.rowsTo ps l ps.length))/\Below Y.heap.size Y w'):=hide (fun Y sl l hY hs=>by
    have hO:=own_below HGO.out hY;have hA:∀ j (hj:j<gvals.length) (hp:j<ps.length),Ans (2*vs.length) Y gvals[j] ps[j]:=fun j hj hp=>by
     rw [HPE.out j hp (by omega)];exact (HGR.out j hj (by omega)).below hY
    by_cases hz:0<rs.length
    ·obtain ⟨gg,cgg,e,_,hgg,_,_,hc⟩:=row_open hO hz
     cases e
     have:=trueRows_any (2*vs.length) Y (some ⟨gg,0,none⟩) gg cG gvals ps sl l (hgvl.trans hpl.symm) (by omega) (fun _=>⟨rfl,hgg⟩) (fun j hj=>(hc j (by omega)).trans (List.getElem?_eq_getElem hj)) hA hs;rw [hgvl] at this;exact this
    ·have:=trueRows_any (2*vs.length) Y aG 0 cG gvals ps sl l (hgvl.trans hpl.symm) (by omega) (fun h=>by omega) (fun j hj=>by omega) hA hs
     rw [hgvl] at this
     exact this)
   obtain ⟨R,hR⟩ : ∃ R:List Int->Int,R=fun l=>Cx.rowsTo ps l ps.length:=⟨_,rfl⟩
   have HRE:=hide hR;obtain ⟨j0,hj0,hw0,hw1,hw2⟩:=info_parts Tryz.infoScene;have hvm:2*vs.length=m:=HM.out.symm;clear hLR hb6 CB hrs hps hpe hR;go_wp2_with fail
   go_loopg [9,62] (ls.length) (fun k v9 v62 wx=>∃ i:Nat,i+k=ls.length/\v62=.int .i64 i/\Below w6.heap.size w6 wx/\wx.ownsRow w6.heap.size 223 2 v9 i (((us.zip (ls.map R)).take i).flatMap scC))
   case atStart=>exact ⟨0,by omega,rfl,Below.refl _ _,World.ownsRow_nil _ _ _ _⟩
   case round =>
    obtain ⟨i,hi2,rfl,hbx,hox⟩:=hrel;have HBX:=hide hbx;have HOX:=hide hox;have hsx:=hbx.size;obtain ⟨aX,cX,rfl,_,_⟩:=row_shape hox
    by_cases hlt2:i<ls.length
    ·have hli:(i:Int)<ls.length:=by omega
     have hi0:(0:Int)<=i:=by omega
     have hiu:i<us.length:=by omega
     obtain ⟨gL,capL,e,_,hgL,_,_,hLc⟩:=row_open HLR.out.own (by omega)
     cases e
     have x0:=(hbx.cell (p:=⟨gL,i,none⟩) hgL).trans ((hLc i (by omega)).trans (List.getElem?_eq_getElem hiu));have hnr:=((HLR.out.ni i hiu hlt2).nr).below hbx;have hll:=HLS.out ls[i] (List.getElem_mem hlt2);have hns:NS (2*vs.length) wr us[i] ls[i]:=by have:=hnr.ns;rw [hll,hlc,<- hvm] at this;exact this
     obtain ⟨gl,cl,el,hq1,hq2,hq3⟩:=hnr;have HCT:=hide (CT.out _ _ _ ((HB6.out).trans (hbx.mono hs6)) hns);have HSX:=hide (sc_take (rs:=ls.map R) hiu (by simpa using hlt2));have hRl:(ls.map R)[i]'(by simpa using hlt2)=R ls[i]:=by simp
     rw [hRl,el] at HSX;rw [el] at x0 HCT;have HRL:Hid (Cx.rowsTo ps ls[i] ps.length=R ls[i]):=hide (by rw [HRE.out]);rw [HRL.out] at HCT;clear hbx hox hns el hLc hRl hll hq1 hq2 hq3;generalize hlE:ls[i].length=ll at *;generalize R ls[i]=rv at *;clear hlE HRL;go_wp2_with fail;refine HCT.out.mono ?_;rintro e w7 ⟨rfl,hb7⟩;have HB7:=hide hb7;have hs7:=hb7.size;clear hb7 x0 HCT;go_wp2_with (at_builtin;refine wpList_append_own_at _ rfl _ _ 157 rfl w6.heap.size 223 j0 _ 2 32 Tryz.underlying157 hj0 hw0 hw1 hw2 rfl (by decide) _ i _ rfl (own_below (own_below HOX.out HB7.out) (below_a _ _)) ⟨w7.heap.size,0,none⟩ 1 1 [.slice (some ⟨gl,0,none⟩) ll cl,.int .u32 rv] rfl rfl (news_new _ _ rfl [.slice (some ⟨gl,0,none⟩) ll cl,.int .u32 rv] _) (ones2 rfl rfl) ?e3 ?e4 ?e5 ?_)
     case e3=>unfold maxLen;omega
     case e4=>omega
     case e5=>first | omega | (simp;omega)
     intro v9 w9 hown hgrow _ hat;have HO9:=hide hown;rw [<- HSX.out] at HO9
     have HB9:Hid (Below w6.heap.size w6 w9):=hide (by
      have hG:=gr_made hown hgrow (by simpa using hat)
      exact (HBX.out.trans (HB7.out.mono hsx)).trans (hG.kept.toBelow (fun k e=>((own_below HOX.out HB7.out).lt k e).1) (by omega)))
     clear hown hgrow hat;go_wp2_with fail
     go_roundg (ls.length-(i+1))
     case measure=>omega
     case rel=>exact ⟨i+1,by omega,by go_num,HB9.out,HO9.out⟩
    ·obtain rfl:ls.length=i:=by omega
     have HBF:Hid (Below w.heap.size w _):=hide ((HBr.out.trans (HB6.out.mono (by omega))).trans (HBX.out.mono (by omega)));have hzl:(us.zip (ls.map R)).length=ls.length:=by rw [List.length_zip];simp;omega
     have HSF:Hid (ScM _ (.slice aX ls.length cX) (ls.map fun l=>(l,R l))):=hide (scm_of hul (by
      have:=HOX.out;rw [<- hzl,List.take_length,hzl] at this
      exact this) (fun j hj hj2=>((HLR.out.ni j hj hj2).nr).below hbx) H0.out)
     clear hbx hox;go_wp2_with fail;go_ret;refine ⟨_,rfl,?_,HBF.out⟩;have:=HSF.out;rw [HRE.out,<- HSC.out] at this;exact this
end Go.Proofs.YtdjaiolfdbamcaaGreatDoor
