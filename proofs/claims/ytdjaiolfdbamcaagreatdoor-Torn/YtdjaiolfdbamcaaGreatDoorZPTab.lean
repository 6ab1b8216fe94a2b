/- The table that the program builds, as it lies in memory: what storing, appending and making a new mode do. -/
import Derived.Test.YtdjaiolfdbamcaaGreatDoorZWPar5
import Derived.Test.YtdjaiolfdbamcaaGreatDoorZBase
namespace Go.Proofs.YtdjaiolfdbamcaaGreatDoor
section
open Go.RowKit
structure VarA where
 name:Hx.Tok
 first:Hx.Tok
 last:Hx.Tok
def varC (v:VarA):List Value:=tokV v.name++tokV v.first++tokV v.last
structure MG where
 a:Hx.MA
 blk:Nat
 ar:Option Nat
 vr:Value
 vw:Value
 wi:List Nat
def ptrV (b:Nat):Value:=.pointer (some ⟨b,0,none⟩)
def arV:Option Nat->Value
 | none=>.pointer none
 | some b=>ptrV b
def MG.box (m:MG):List Value:=tokV m.a.name++[.bool m.a.dflt,.int .i64 m.a.depth,arV m.ar,m.vr,m.vw]
def MG.r0 (m:MG):Rw:=Rw.box 171 m.blk m.box
def MG.r1 (m:MG):Rw:=⟨232,10,m.a.rows.length,m.vr,m.a.rows.flatMap rowC⟩
def MG.r2 (m:MG):Rw:=⟨164,1,m.wi.length,m.vw,m.wi.map ptrV⟩
def MG.rws (m:MG):List Rw:=[m.r0,m.r1,m.r2]
def ptRows (tb:Nat) (vt vv vm:Value) (vs:List VarA) (gs:List MG):List Rw :=
 Rw.box 87 tb [vt,vv,vm]::⟨166,12,vs.length,vv,vs.flatMap varC⟩::⟨164,1,gs.length,vm,gs.map fun m=>ptrV m.blk⟩::gs.flatMap MG.rws
theorem rws_at (gs:List MG) (i j:Nat) (hi:i<gs.length) (hj:j<3):(gs.flatMap MG.rws)[i*3+j]? = gs[i].rws[j]? := by
 induction gs generalizing i with
 | nil=>simp at hi
 | cons m r ih =>
  rw [List.flatMap_cons]
  cases i with
  | zero=>rw [List.getElem?_append_left (by simp [MG.rws];omega)];simp
  | succ i =>
   rw [List.getElem?_append_right (by simp [MG.rws];omega)];have:=ih i (by simpa using hi);simp only [MG.rws,List.length_cons,List.length_nil,List.getElem_cons_succ] at *;rw [<- this];congr 1;omega
theorem rws_set (gs:List MG) (i:Nat) (m:MG) (hi:i<gs.length):(gs.set i m).flatMap MG.rws=(((gs.flatMap MG.rws).set (i*3) m.r0).set (i*3+1) m.r1).set (i*3+2) m.r2:=by
 induction gs generalizing i with
 | nil=>simp at hi
 | cons x r ih =>
  cases i with
  | zero=>simp [MG.rws]
  | succ i =>
   have:=ih i (by simpa using hi);simp only [List.set_cons_succ,List.flatMap_cons,this];simp only [MG.rws,List.cons_append,List.nil_append,show (i+1)*3=i*3+1+1+1 by omega,List.set_cons_succ,show i*3+1+1+1+1=(i*3+1)+1+1+1 by omega,show i*3+1+1+1+2=(i*3+2)+1+1+1 by omega]
theorem pt_at0 {tb:Nat} {vt vv vm:Value} {vs:List VarA} {gs:List MG} {i:Nat} (hi:i<gs.length):(ptRows tb vt vv vm vs gs)[i*3+3]? = some gs[i].r0:=by
 have:=rws_at gs i 0 hi (by omega);simpa [ptRows,MG.rws] using this
theorem pt_at1 {tb:Nat} {vt vv vm:Value} {vs:List VarA} {gs:List MG} {i:Nat} (hi:i<gs.length):(ptRows tb vt vv vm vs gs)[i*3+4]? = some gs[i].r1:=by
 have:=rws_at gs i 1 hi (by omega);simpa [ptRows,MG.rws] using this
theorem pt_at2 {tb:Nat} {vt vv vm:Value} {vs:List VarA} {gs:List MG} {i:Nat} (hi:i<gs.length):(ptRows tb vt vv vm vs gs)[i*3+5]? = some gs[i].r2:=by
 have:=rws_at gs i 2 hi (by omega);simpa [ptRows,MG.rws] using this
theorem set_same {α : Type} (l:List α) (i:Nat) (x : α) (h:l[i]? = some x):l.set i x=l:=by
 obtain ⟨hl,rfl⟩:=List.getElem?_eq_some_iff.1 h;exact List.set_getElem_self hl
theorem pt_set {tb:Nat} {vt vv vm:Value} {vs:List VarA} {gs:List MG} {i:Nat} {m:MG} (hi:i<gs.length) (hb:m.blk=gs[i].blk) :
  ptRows tb vt vv vm vs (gs.set i m)=(((ptRows tb vt vv vm vs gs).set (i*3+3) m.r0).set (i*3+4) m.r1).set (i*3+5) m.r2:=by
 have e:(gs.set i m).map (fun m=>ptrV m.blk)=gs.map (fun m=>ptrV m.blk):=by
  rw [List.map_set,hb];exact set_same _ _ _ (by simp [hi])
 simp only [ptRows,rws_set gs i m hi,e,List.length_set];simp only [show i*3+3=i*3+1+1+1 by omega,show i*3+4=(i*3+1)+1+1+1 by omega,show i*3+5=(i*3+2)+1+1+1 by omega,List.set_cons_succ]
structure PT (w:World) (base tb:Nat) (vt:Value) (vs:List VarA) (gs:List MG) (F:Nat->Prop) (vv vm:Value):Prop where
 mem:MemIs w base (ptRows tb vt vv vm vs gs)
 inF:∀ k,foot (ptRows tb vt vv vm vs gs) k->F k
 low:base<=w.heap.size
theorem PT.mono {w:World} {base tb:Nat} {vt vv vm:Value} {vs:List VarA} {gs:List MG} {F G:Nat->Prop} (h:PT w base tb vt vs gs F vv vm) (hFG:∀ k,F k->G k):PT w base tb vt vs gs G vv vm:=⟨h.mem,fun k hk=>hFG k (h.inF k hk),h.low⟩
theorem PT.kept {w w':World} {base tb:Nat} {vt vv vm:Value} {vs:List VarA} {gs:List MG} {F G:Nat->Prop} (h:PT w base tb vt vs gs F vv vm) (hk:Kp G w w') (hd:∀ k,F k->¬ G k):PT w' base tb vt vs gs F vv vm :=
 ⟨h.mem.kept hk (fun k hf=>hd k (h.inF k hf)),h.inF,Nat.le_trans h.low hk.size⟩
theorem PT.below {w w':World} {base tb:Nat} {vt vv vm:Value} {vs:List VarA} {gs:List MG} {F:Nat->Prop} (h:PT w base tb vt vs gs F vv vm) (hb:Below w.heap.size w w'):PT w' base tb vt vs gs F vv vm :=
 ⟨h.mem.below hb,h.inF,Nat.le_trans h.low hb.size⟩
theorem MemIs.reBox {w w':World} {base:Nat} {L:List Rw} {G:Nat->Prop} (h:MemIs w base L) {i e b:Nat} {xs ys:List Value} (hr:L[i]? = some (Rw.box e b xs)) (hk:Kp G w w') (hG:∀ k,foot L k->G k->k=b)
  (hb:w'.heap[b]? = some (.cells ys.toArray e (0,0))):MemIs w' base (L.set i (Rw.box e b ys)):=by
 have hil:i<L.length:=(List.getElem?_eq_some_iff.1 hr).1;have hbb:=h.lt (k:=b) hr rfl;refine ⟨fun j r hj=>?_,fun j k x y hjk hx hy=>?_⟩
 ·rw [List.getElem?_set] at hj
  by_cases ej:i=j
  ·rw [if_pos ej,if_pos hil] at hj
   cases hj
   refine ⟨by simp [Rw.box],.inr ⟨b,1,ys.toArray,rfl,hbb.1,?_,Nat.le_refl 1,by unfold maxLen;omega,by simp [Rw.box],by simp [Rw.box]⟩⟩;simpa [Rw.box] using hb
  ·rw [if_neg ej] at hj
   refine hk.own (h.own j r hj) (fun k e hg=>?_);have:=hG k ⟨j,r,hj,e⟩ hg;subst this;rcases h.apart j i r _ (fun e=>ej e.symm) hj hr with h1 | h1
   ·rw [h1] at e;cases e
   ·exact h1 (by rw [e];rfl)
 ·rw [List.getElem?_set] at hx hy
  by_cases ej:i=j
  ·rw [if_pos ej,if_pos hil] at hx
   rw [if_neg (by omega)] at hy
   cases hx
   subst ej;exact (h.apart i k (Rw.box e b xs) y hjk hr hy)
  ·rw [if_neg ej] at hx
   by_cases ek:i=k
   ·rw [if_pos ek,if_pos hil] at hy
    cases hy
    subst ek;exact h.apart j i x (Rw.box e b xs) hjk hx hr
   ·rw [if_neg ek] at hy
    exact h.apart j k x y hjk hx hy
end
section
open Go.RowKit
theorem row_shape {w:World} {base e size n:Nat} {v:Value} {xs:List Value} (h:w.ownsRow base e size v n xs):∃ a c,v=.slice a n c/\n<=c/\c<=maxLen:=by
 rcases h.2 with ⟨rfl,h0⟩ | ⟨g,cap,cur,rfl,_,_,h1,h2,_⟩
 ·exact ⟨none,0,by rw [h0],by omega,by unfold maxLen;omega⟩
 ·exact ⟨_,_,rfl,h1,h2⟩
theorem PT.cells {w:World} {base tb:Nat} {vt vv vm:Value} {vs:List VarA} {gs:List MG} {F:Nat->Prop} (h:PT w base tb vt vs gs F vv vm) :
  w.cell? ⟨tb,0,none⟩=some vt/\w.cell? ⟨tb,1,none⟩=some vv/\w.cell? ⟨tb,2,none⟩=some vm/\(∀ j,w.frozen? ⟨tb,j,none⟩=false)/\base<=tb/\tb<w.heap.size/\F tb:=by
 have hr0:(ptRows tb vt vv vm vs gs)[0]? = some (Rw.box 87 tb [vt,vv,vm]):=rfl;have hl:=h.mem.lt (k:=tb) hr0 rfl;exact ⟨h.mem.cell hr0 rfl 0 (by simp [Rw.box]),h.mem.cell hr0 rfl 1 (by simp [Rw.box]),h.mem.cell hr0 rfl 2 (by simp [Rw.box]),fun j=>h.mem.frozen hr0 rfl j,hl.1,hl.2,h.inF tb ⟨0,_,hr0,rfl⟩⟩
theorem PT.addVar {w w':World} {base tb:Nat} {vt vv vm v':Value} {vs:List VarA} {gs:List MG} {F:Nat->Prop} {x:VarA} (h:PT w base tb vt vs gs F vv vm) (hg:w.grownBy w' vv.ownBlock)
  (ho:w'.ownsRow base 166 12 v' (vs.length+1) (vs.flatMap varC++varC x)) (hat:v'.ownBlock=vv.ownBlock\/v'.ownBlock=some w.heap.size) :
  PT (w'.setCell ⟨tb,1,none⟩ v') base tb vt (vs++[x]) gs (fresh F w) v' vm/\Kp F w (w'.setCell ⟨tb,1,none⟩ v')/\w'.cell? ⟨tb,1,none⟩=some vv/\w'.frozen? ⟨tb,1,none⟩=false:=by
 have hr1:(ptRows tb vt vv vm vs gs)[1]? = some ⟨166,12,vs.length,vv,vs.flatMap varC⟩:=rfl;have m1:=h.mem.grown (r':=⟨166,12,vs.length+1,v',vs.flatMap varC++varC x⟩) hr1 hg ho hat;have hr0:((ptRows tb vt vv vm vs gs).set 1 ⟨166,12,vs.length+1,v',vs.flatMap varC++varC x⟩)[0]? = some (Rw.box 87 tb [vt,vv,vm]):=rfl;have m2:=m1.store (i:=0) (g:=tb) (cap:=1) (j:=1) hr0 rfl v';have hown:∀ k,vv.ownBlock=some k->F k:=fun k hk=>h.inF k ⟨1,_,hr1,hk⟩
 have e:ptRows tb vt v' vm (vs++[x]) gs=((ptRows tb vt vv vm vs gs).set 1 ⟨166,12,vs.length+1,v',vs.flatMap varC++varC x⟩).set 0 (Rw.box 87 tb [vt,v',vm]):=by
  simp [ptRows]
 refine ⟨⟨by rw [e];exact m2,fun k hk=>?_,by simp only [World.setCell,Array.size_modify];exact Nat.le_trans h.low hg.size⟩,((Kp.refl F w).grown hg (fun k hk=>.inl (hown k hk))).setCell (.inl h.cells.2.2.2.2.2.2) _,m1.cell hr0 rfl 1 (by simp [Rw.box]),m1.frozen hr0 rfl 1⟩;rw [e] at hk;rcases foot_set hk with hk | hk
 ·rcases foot_set hk with hk | hk
  ·exact .inl (h.inF k hk)
  ·rcases hat with a | a
   ·exact .inl (hown k (a ▸ hk))
   ·right;have:v'.ownBlock=some k:=hk;rw [a] at this;cases this;exact Nat.le_refl _
 ·cases hk;exact .inl h.cells.2.2.2.2.2.2
end
section
open Go.RowKit
namespace Hx
theorem sen_modes (g:G):∀ d s,(g.sen d s).modes=s.modes:=by
 induction g with
 | or l r h1 h2=>intro d s;rw [G.sen,h2,h1]
 | and l r h1 h2=>intro d s;rw [G.sen,h2,h1]
 | not g h=>intro d s;rw [G.sen,h]
 | group t g h=>intro d s;rw [G.sen,h,St.wrong_modes]
 | tru=>intro d s;rfl
 | atom w n o i ok=>intro d s;cases w <;> exact St.atom_modes _ _ _ _
theorem row_len (s:St) (q:Nat) (r:RowA):(s.row q r).modes.length=s.modes.length:=by
 simp [St.row,addRow,sen_modes,St.addWhen,St.wrong_modes]
theorem rows_len (rs:List RowA):∀ (s:St) (q:Nat),(s.rowsS q rs).modes.length=s.modes.length:=by
 induction rs with
 | nil=>intro s q;rfl
 | cons r l ih=>intro s q;simp only [St.rowsS,List.foldl_cons];have:=ih (s.row q r) q;simp only [St.rowsS] at this;rw [this,row_len]
theorem rows_snoc (s:St) (q:Nat) (rs:List RowA) (r:RowA):s.rowsS q (rs++[r])=(s.rowsS q rs).row q r:=by simp [St.rowsS]
end Hx
def MG.addRow (m:MG) (r:Hx.RowA) (v':Value):MG:={ m with a:={ m.a with rows:=m.a.rows++[r] },vr:=v' }
theorem PT.modeCells {w:World} {base tb:Nat} {vt vv vm:Value} {vs:List VarA} {gs:List MG} {F:Nat->Prop} (h:PT w base tb vt vs gs F vv vm) {i:Nat} (hi:i<gs.length) :
  (∀ j,j<9->w.cell? ⟨gs[i].blk,j,none⟩=gs[i].box[j]?)/\(∀ j,w.frozen? ⟨gs[i].blk,j,none⟩=false)/\base<=gs[i].blk/\gs[i].blk<w.heap.size/\F gs[i].blk:=by
 have hr:=pt_at0 (tb:=tb) (vt:=vt) (vv:=vv) (vm:=vm) (vs:=vs) hi;have hl:=h.mem.lt (k:=gs[i].blk) hr rfl;exact ⟨fun j hj=>h.mem.cell hr rfl j (by simp [MG.r0,Rw.box,MG.box,tokV];omega),fun j=>h.mem.frozen hr rfl j,hl.1,hl.2,h.inF _ ⟨_,_,hr,rfl⟩⟩
theorem PT.addRow {w w':World} {base tb:Nat} {vt vv vm v':Value} {vs:List VarA} {gs:List MG} {F:Nat->Prop} {r:Hx.RowA} {i:Nat} (h:PT w base tb vt vs gs F vv vm) (hi:i<gs.length) (hg:w.grownBy w' gs[i].vr.ownBlock)
  (ho:w'.ownsRow base 232 10 v' (gs[i].a.rows.length+1) (gs[i].a.rows.flatMap rowC++rowC r)) (hat:v'.ownBlock=gs[i].vr.ownBlock\/v'.ownBlock=some w.heap.size) :
  PT (w'.setCell ⟨gs[i].blk,7,none⟩ v') base tb vt vs (gs.set i (gs[i].addRow r v')) (fresh F w) vv vm/\Kp F w (w'.setCell ⟨gs[i].blk,7,none⟩ v')/\w'.cell? ⟨gs[i].blk,7,none⟩=some gs[i].vr/\w'.frozen? ⟨gs[i].blk,7,none⟩=false:=by
 have hr1:=pt_at1 (tb:=tb) (vt:=vt) (vv:=vv) (vm:=vm) (vs:=vs) hi;have hr0:=pt_at0 (tb:=tb) (vt:=vt) (vv:=vv) (vm:=vm) (vs:=vs) hi;have hr2:=pt_at2 (tb:=tb) (vt:=vt) (vv:=vv) (vm:=vm) (vs:=vs) hi;have e1:(gs[i].addRow r v').r1=⟨232,10,gs[i].a.rows.length+1,v',gs[i].a.rows.flatMap rowC++rowC r⟩:=by simp [MG.r1,MG.addRow]
 have m1:=h.mem.grown (r':=(gs[i].addRow r v').r1) hr1 hg (by rw [e1];exact ho) (by rw [e1];exact hat);have hr0':((ptRows tb vt vv vm vs gs).set (i*3+4) (gs[i].addRow r v').r1)[i*3+3]? = some gs[i].r0:=by rw [List.getElem?_set_ne (by omega)];exact hr0
 have m2:=m1.store (i:=i*3+3) (g:=gs[i].blk) (cap:=1) (j:=7) hr0' rfl v';have hown:∀ k,gs[i].vr.ownBlock=some k->F k:=fun k hk=>h.inF k ⟨_,_,hr1,hk⟩
 have hF0:=(h.modeCells hi).2.2.2.2;have e:ptRows tb vt vv vm vs (gs.set i (gs[i].addRow r v'))=((ptRows tb vt vv vm vs gs).set (i*3+4) (gs[i].addRow r v').r1).set (i*3+3) { gs[i].r0 with xs:=gs[i].r0.xs.set 7 v' }:=by
  rw [pt_set (m:=gs[i].addRow r v') hi rfl,List.set_comm _ _ (by omega:i*3+3≠i*3+4)];have e3:(gs[i].addRow r v').r0={ gs[i].r0 with xs:=gs[i].r0.xs.set 7 v' }:=by simp [MG.r0,Rw.box,MG.box,tokV,MG.addRow]
  rw [e3];refine set_same _ _ _ ?_;rw [List.getElem?_set_ne (by omega),List.getElem?_set_ne (by omega)];exact hr2
 refine ⟨⟨by rw [e];exact m2,fun k hk=>?_,by simp only [World.setCell,Array.size_modify];exact Nat.le_trans h.low hg.size⟩,((Kp.refl F w).grown hg (fun k hk=>.inl (hown k hk))).setCell (.inl hF0) _,m1.cell hr0' rfl 7 (by simp [MG.r0,Rw.box,MG.box,tokV]),m1.frozen hr0' rfl 7⟩;rw [e] at hk;rcases foot_set hk with hk | hk
 ·rcases foot_set hk with hk | hk
  ·exact .inl (h.inF k hk)
  ·rw [e1] at hk
   rcases hat with a | a
   ·exact .inl (hown k (a ▸ hk))
   ·right;have:v'.ownBlock=some k:=hk;rw [a] at this;cases this;exact Nat.le_refl _
 ·cases hk;exact .inl hF0
end
end Go.Proofs.YtdjaiolfdbamcaaGreatDoor
