/- The program's table in memory: a mode is added, one within another, its name is taken. -/
import Derived.Test.YtdjaiolfdbamcaaGreatDoorZWPar9
import Derived.Test.YtdjaiolfdbamcaaGreatDoorZWPar8
namespace Go.Proofs.YtdjaiolfdbamcaaGreatDoor
section
open Go.RowKit
theorem MemIs.addBox {w:World} {base:Nat} {L:List Rw} (h:MemIs w base L) {e B:Nat} {xs:List Value} (hb:w.heap[B]? = some (.cells xs.toArray e (0,0))) (hB:base<=B) (hn:¬ foot L B):MemIs w base (L++[Rw.box e B xs]):=by
 have hnew:∀ i a,(L++[Rw.box e B xs])[i]? = some a->(L[i]? = some a)\/(i=L.length/\a=Rw.box e B xs):=by
  intro i a ha
  by_cases hi:i<L.length
  ·rw [List.getElem?_append_left hi] at ha;exact .inl ha
  ·rw [List.getElem?_append_right (by omega)] at ha
   right;have:i-L.length=0:=by
    cases hx:i-L.length with
    | zero=>rfl
    | succ k=>rw [hx] at ha;simp at ha
   rw [this] at ha;simp at ha;exact ⟨by omega,ha.symm⟩
 refine ⟨fun i r hr=>?_,fun i j a c hij ha hc=>?_⟩
 ·rcases hnew i r hr with h1 | ⟨_,rfl⟩
  ·exact h.own i r h1
  ·exact ⟨by simp [Rw.box],.inr ⟨B,1,xs.toArray,rfl,hB,by simpa [Rw.box] using hb,Nat.le_refl 1,by unfold maxLen;omega,by simp [Rw.box],by simp [Rw.box]⟩⟩
 ·rcases hnew i a ha with h1 | ⟨h1,rfl⟩ <;> rcases hnew j c hc with h2 | ⟨h2,rfl⟩
  ·exact h.apart i j a c hij h1 h2
  ·cases hbk:a.v.ownBlock with
   | none=>left;rfl
   | some k=>right;intro e2;exact hn ⟨i,a,h1,by rw [hbk];exact e2⟩
  ·right
   intro e2;exact hn ⟨j,c,h2,e2.symm⟩
  ·omega
theorem foot_append {L M:List Rw} {k:Nat} (h:foot (L++M) k):foot L k\/foot M k:=by
 obtain ⟨i,r,hr,e⟩:=h
 by_cases hi:i<L.length
 ·rw [List.getElem?_append_left hi] at hr;exact .inl ⟨i,r,hr,e⟩
 ·rw [List.getElem?_append_right (by omega)] at hr;exact .inr ⟨_,r,hr,e⟩
def MG.addIn (m:MG) (B:Nat) (v':Value):MG:={ m with wi:=m.wi++[B],vw:=v' }
theorem PT.addWithin {w w':World} {base tb:Nat} {vt vv vm v':Value} {vs:List VarA} {gs:List MG} {F:Nat->Prop} {B i:Nat} (h:PT w base tb vt vs gs F vv vm) (hi:i<gs.length) (hg:w.grownBy w' gs[i].vw.ownBlock)
  (ho:w'.ownsRow base 164 1 v' (gs[i].wi.length+1) (gs[i].wi.map ptrV++[ptrV B])) (hat:v'.ownBlock=gs[i].vw.ownBlock\/v'.ownBlock=some w.heap.size) :
  PT (w'.setCell ⟨gs[i].blk,8,none⟩ v') base tb vt vs (gs.set i (gs[i].addIn B v')) (fresh F w) vv vm/\Kp F w (w'.setCell ⟨gs[i].blk,8,none⟩ v')/\w'.cell? ⟨gs[i].blk,8,none⟩=some gs[i].vw/\w'.frozen? ⟨gs[i].blk,8,none⟩=false:=by
 have hr1:=pt_at1 (tb:=tb) (vt:=vt) (vv:=vv) (vm:=vm) (vs:=vs) hi;have hr0:=pt_at0 (tb:=tb) (vt:=vt) (vv:=vv) (vm:=vm) (vs:=vs) hi;have hr2:=pt_at2 (tb:=tb) (vt:=vt) (vv:=vv) (vm:=vm) (vs:=vs) hi;have e2:(gs[i].addIn B v').r2=⟨164,1,gs[i].wi.length+1,v',gs[i].wi.map ptrV++[ptrV B]⟩:=by simp [MG.r2,MG.addIn]
 have m1:=h.mem.grown (r':=(gs[i].addIn B v').r2) hr2 hg (by rw [e2];exact ho) (by rw [e2];exact hat);have hr0':((ptRows tb vt vv vm vs gs).set (i*3+5) (gs[i].addIn B v').r2)[i*3+3]? = some gs[i].r0:=by rw [List.getElem?_set_ne (by omega)];exact hr0
 have m2:=m1.store (i:=i*3+3) (g:=gs[i].blk) (cap:=1) (j:=8) hr0' rfl v';have hown:∀ k,gs[i].vw.ownBlock=some k->F k:=fun k hk=>h.inF k ⟨_,_,hr2,hk⟩
 have hF0:=(h.modeCells hi).2.2.2.2;have e:ptRows tb vt vv vm vs (gs.set i (gs[i].addIn B v'))=((ptRows tb vt vv vm vs gs).set (i*3+5) (gs[i].addIn B v').r2).set (i*3+3) { gs[i].r0 with xs:=gs[i].r0.xs.set 8 v' }:=by
  rw [pt_set (m:=gs[i].addIn B v') hi rfl];have e3:(gs[i].addIn B v').r0={ gs[i].r0 with xs:=gs[i].r0.xs.set 8 v' }:=by simp [MG.r0,Rw.box,MG.box,tokV,MG.addIn]
  have e4:((ptRows tb vt vv vm vs gs).set (i*3+3) (gs[i].addIn B v').r0).set (i*3+4) (gs[i].addIn B v').r1=(ptRows tb vt vv vm vs gs).set (i*3+3) (gs[i].addIn B v').r0:=by
   refine set_same _ _ _ ?_;rw [List.getElem?_set_ne (by omega)];exact hr1
  rw [e4,List.set_comm _ _ (by omega:i*3+3≠i*3+5),e3]
 refine ⟨⟨by rw [e];exact m2,fun k hk=>?_,by simp only [World.setCell,Array.size_modify];exact Nat.le_trans h.low hg.size⟩,((Kp.refl F w).grown hg (fun k hk=>.inl (hown k hk))).setCell (.inl hF0) _,m1.cell hr0' rfl 8 (by simp [MG.r0,Rw.box,MG.box,tokV]),m1.frozen hr0' rfl 8⟩;rw [e] at hk;rcases foot_set hk with hk | hk
 ·rcases foot_set hk with hk | hk
  ·exact .inl (h.inF k hk)
  ·rw [e2] at hk
   rcases hat with a | a
   ·exact .inl (hown k (a ▸ hk))
   ·right;have:v'.ownBlock=some k:=hk;rw [a] at this;cases this;exact Nat.le_refl _
 ·cases hk;exact .inl hF0
def newMode (dflt:Bool) (depth:Nat) (outer:Int) (B:Nat) (ar:Option Nat):MG:=⟨⟨noTok,dflt,depth,outer,[]⟩,B,ar,.slice none 0 0,.slice none 0 0,[]⟩
theorem PT.addMode {w w':World} {base tb:Nat} {vt vv vm v':Value} {vs:List VarA} {gs:List MG} {F:Nat->Prop} {dflt:Bool} {depth B:Nat} {outer:Int} {ar:Option Nat} (h:PT w base tb vt vs gs F vv vm) (hg:w.grownBy w' vm.ownBlock)
  (ho:w'.ownsRow base 164 1 v' (gs.length+1) ((gs.map fun m=>ptrV m.blk)++[ptrV B])) (hat:v'.ownBlock=vm.ownBlock\/v'.ownBlock=some w.heap.size)
  (hB:w.heap[B]? = some (.cells (newMode dflt depth outer B ar).box.toArray 171 (0,0))) (hBb:base<=B) (hBF:¬ F B) :
  PT (w'.setCell ⟨tb,2,none⟩ v') base tb vt vs (gs++[newMode dflt depth outer B ar]) (fun k=>fresh F w k\/k=B) vv v'/\Kp F w (w'.setCell ⟨tb,2,none⟩ v')/\w'.cell? ⟨tb,2,none⟩=some vm/\w'.frozen? ⟨tb,2,none⟩=false:=by
 have hBl:B<w.heap.size:=(Array.getElem?_eq_some_iff.1 hB).1;have hr1:(ptRows tb vt vv vm vs gs)[2]? = some ⟨164,1,gs.length,vm,gs.map fun m=>ptrV m.blk⟩:=rfl;have m1:=h.mem.grown (r':=⟨164,1,gs.length+1,v',(gs.map fun m=>ptrV m.blk)++[ptrV B]⟩) hr1 hg ho hat;have hr0:((ptRows tb vt vv vm vs gs).set 2 ⟨164,1,gs.length+1,v',(gs.map fun m=>ptrV m.blk)++[ptrV B]⟩)[0]? = some (Rw.box 87 tb [vt,vv,vm]):=rfl;have m2:=m1.store (i:=0) (g:=tb) (cap:=1) (j:=2) hr0 rfl v';have hown:∀ k,vm.ownBlock=some k->F k:=fun k hk=>h.inF k ⟨2,_,hr1,hk⟩
 have hFt:=h.cells.2.2.2.2.2.2;have hfoot:∀ k,foot (((ptRows tb vt vv vm vs gs).set 2 ⟨164,1,gs.length+1,v',(gs.map fun m=>ptrV m.blk)++[ptrV B]⟩).set 0 (Rw.box 87 tb [vt,vv,v'])) k->F k\/k=w.heap.size:=by
  intro k hk;rcases foot_set hk with hk | hk
  ·rcases foot_set hk with hk | hk
   ·exact .inl (h.inF k hk)
   ·rcases hat with a | a
    ·exact .inl (hown k (a ▸ hk))
    ·right;have:v'.ownBlock=some k:=hk;rw [a] at this;cases this;rfl
  ·cases hk;exact .inl hFt
 have hkp:Kp F w (w'.setCell ⟨tb,2,none⟩ v'):=((Kp.refl F w).grown hg (fun k hk=>.inl (hown k hk))).setCell (.inl hFt) _;have m3:=m2.addBox (e:=171) (B:=B) (xs:=(newMode dflt depth outer B ar).box) ((hkp.block B hBl hBF).trans hB) hBb (fun hf=>(hfoot B hf).elim hBF (fun e=>by omega));have m4:=(m3.addNil 232 10).addNil 164 1;have e:ptRows tb vt vv v' vs (gs++[newMode dflt depth outer B ar])=((((ptRows tb vt vv vm vs gs).set 2 ⟨164,1,gs.length+1,v',(gs.map fun m=>ptrV m.blk)++[ptrV B]⟩).set 0 (Rw.box 87 tb [vt,vv,v']))++[Rw.box 171 B (newMode dflt depth outer B ar).box])++[⟨232,10,0,.slice none 0 0,[]⟩]++[⟨164,1,0,.slice none 0 0,[]⟩]:=by
  simp [ptRows,MG.rws,MG.r0,MG.r1,MG.r2,newMode]
 refine ⟨⟨by rw [e];exact m4,fun k hk=>?_,by simp only [World.setCell,Array.size_modify];exact Nat.le_trans h.low hg.size⟩,hkp,m1.cell hr0 rfl 2 (by simp [Rw.box]),m1.frozen hr0 rfl 2⟩;rw [e] at hk;rcases foot_append hk with hk | hk
 ·rcases foot_append hk with hk | hk
  ·rcases foot_append hk with hk | hk
   ·exact .inl ((hfoot k hk).elim .inl (fun e=>.inr (by omega)))
   ·obtain ⟨i,r,hr,e'⟩:=hk
    cases i with
    | zero=>cases hr;cases e';exact .inr rfl
    | succ i=>simp at hr
  ·obtain ⟨i,r,hr,e'⟩:=hk
   cases i with
   | zero=>cases hr;cases e'
   | succ i=>simp at hr
 ·obtain ⟨i,r,hr,e'⟩:=hk
  cases i with
  | zero=>cases hr;cases e'
  | succ i=>simp at hr
def MG.named (m:MG) (t:Hx.Tok):MG:={ m with a:={ m.a with name:=t } }
theorem PT.name {w w':World} {base tb:Nat} {vt vv vm:Value} {vs:List VarA} {gs:List MG} {F G:Nat->Prop} {i:Nat} {t:Hx.Tok} (h:PT w base tb vt vs gs F vv vm) (hi:i<gs.length) (hk:Kp G w w') (hG:∀ k,F k->G k->k=gs[i].blk)
  (hb:w'.heap[gs[i].blk]? = some (.cells (gs[i].named t).box.toArray 171 (0,0))):PT w' base tb vt vs (gs.set i (gs[i].named t)) F vv vm:=by
 have hr1:=pt_at1 (tb:=tb) (vt:=vt) (vv:=vv) (vm:=vm) (vs:=vs) hi;have hr0:=pt_at0 (tb:=tb) (vt:=vt) (vv:=vv) (vm:=vm) (vs:=vs) hi;have hr2:=pt_at2 (tb:=tb) (vt:=vt) (vv:=vv) (vm:=vm) (vs:=vs) hi;have m1:=h.mem.reBox (ys:=(gs[i].named t).box) hr0 hk (fun k hf hg=>hG k (h.inF k hf) hg) hb;have e:ptRows tb vt vv vm vs (gs.set i (gs[i].named t))=(ptRows tb vt vv vm vs gs).set (i*3+3) (Rw.box 171 gs[i].blk (gs[i].named t).box):=by
  rw [pt_set (m:=gs[i].named t) hi rfl];have e4:((ptRows tb vt vv vm vs gs).set (i*3+3) (gs[i].named t).r0).set (i*3+4) (gs[i].named t).r1=(ptRows tb vt vv vm vs gs).set (i*3+3) (gs[i].named t).r0:=by
   refine set_same _ _ _ ?_;rw [List.getElem?_set_ne (by omega)];exact hr1
  rw [e4];refine set_same _ _ _ ?_;rw [List.getElem?_set_ne (by omega)];exact hr2
 refine ⟨by rw [e];exact m1,fun k hk'=>?_,Nat.le_trans h.low hk.size⟩;rw [e] at hk';rcases foot_set hk' with hk' | hk'
 ·exact h.inF k hk'
 ·cases hk';exact (h.modeCells hi).2.2.2.2
end
section
namespace Hx
def MA.p (m:MA):ModeP:=⟨m.name.s,m.name.line,m.outer,m.dflt,m.rows.map RowA.p⟩
theorem mod_last {α : Type} (l:List α) (m : α) (f : α -> α):(l++[m]).modify l.length f=l++[f m]:=by
 induction l with
 | nil=>rfl
 | cons x r ih=>simp only [List.cons_append,List.length_cons,List.modify_succ_cons,ih]
theorem row_modes (s:St) (q:Nat) (r:RowA):(s.row q r).modes=addRow s.modes q r.p:=by
 simp [St.row,sen_modes,St.addWhen,St.wrong_modes]
theorem rows_modes (rs:List RowA):∀ (s:St) (l:List ModeP) (m:ModeP),s.modes=l++[m]->(s.rowsS l.length rs).modes=l++[{ m with rows:=m.rows++rs.map RowA.p }]:=by
 induction rs with
 | nil=>intro s l m h;simp [St.rowsS,h]
 | cons r rs ih =>
  intro s l m h;have h1:(s.row l.length r).modes=l++[{ m with rows:=m.rows++[r.p] }]:=by
   rw [row_modes,h,addRow,mod_last]
  have:=ih (s.row l.length r) l _ h1;simp only [St.rowsS,List.foldl_cons] at this |-;rw [this];simp
theorem mode_modes (s:St) (m:MA):(s.mode m).modes=s.modes++[m.p]:=by
 have h1:(s.addMode m.name m.outer m.depth m.dflt).modes=s.modes++[⟨m.name.s,m.name.line,m.outer,m.dflt,[]⟩]:=by simp [St.addMode,St.wrong_modes]
 have:=rows_modes m.rows _ _ _ h1;simp only [St.mode];rw [this];simp [MA.p]
theorem modes_modes (ms:List MA):∀ s:St,(s.modesS ms).modes=s.modes++ms.map MA.p:=by
 induction ms with
 | nil=>intro s;simp [St.modesS]
 | cons m r ih=>intro s;simp only [St.modesS,List.foldl_cons] at ih |-;rw [ih,mode_modes];simp
theorem SS.mode {t a x:Tok} {r:List Tok} {inn d:Int} {dear:Bool} {s:St} (ht:t.k=119/\t.s.toList=ymode):SS (t::a::x::r) inn d dear s r s.modes.length (d+1) false (s.addMode a inn d dear):=fun f S hS=>⟨f+1,by
 have n1:¬ t.k=101:=by omega
 have q1:(t.s.toList == yvar)=false:=by rw [ht.2];decide
 have q2:(t.s.toList == ydefault)=false:=by rw [ht.2];decide
 have q3:(t.s.toList == ymode)=true:=by rw [ht.2];decide
 simp only [senF,if_neg n1,q1,q2,q3,if_true,Bool.false_eq_true,if_false];exact hS⟩
theorem SS.dflt {t:Tok} {r:List Tok} {inn d:Int} {dear:Bool} {s:St} (ht:t.k=119/\t.s.toList=ydefault):SS (t::r) inn d dear s r inn d true s:=fun f S hS=>⟨f+1,by
 have n1:¬ t.k=101:=by omega
 have q1:(t.s.toList == yvar)=false:=by rw [ht.2];decide
 have q2:(t.s.toList == ydefault)=true:=by rw [ht.2];decide
 simp only [senF,if_neg n1,q1,q2,if_true,Bool.false_eq_true,if_false];exact hS⟩
theorem SS.shut {t:Tok} {r:List Tok} {inn d o:Int} {dear:Bool} {s:St} (ht:t.k=115/\t.s.toList=yRb) (h0:0<=inn) (h1:inn.toNat<s.modes.length) (ho:(s.modes[inn.toNat]'h1).outer=o):SS (t::r) inn d dear s r o (d-1) dear s:=fun f S hS=>⟨f+1,by
 have n1:¬ t.k=101:=by omega
 have q1:(t.s.toList == yvar)=false:=by rw [ht.2];decide
 have q2:(t.s.toList == ydefault)=false:=by rw [ht.2];decide
 have q3:(t.s.toList == ymode)=false:=by rw [ht.2];decide
 have q4:(t.s.toList == ywhen)=false:=by rw [ht.2];decide
 simp only [senF,if_neg n1,q1,q2,q3,q4,Bool.false_eq_true,if_false,dif_pos (And.intro h0 h1),ho];exact hS⟩
theorem SS.var {t a b x d e:Tok} {r:List Tok} {inn dp:Int} {dear:Bool} {s:St} (ht:t.k=119/\t.s.toList=yvar):SS (t::a::b::x::d::e::r) inn dp dear s r inn dp dear (s.addVar a b d):=fun f S hS=>⟨f+1,by
 have n1:¬ t.k=101:=by omega
 have q1:(t.s.toList == yvar)=true:=by rw [ht.2];decide
 simp only [senF,if_neg n1,q1,if_true];exact hS⟩
theorem sign_of {t:Tok} {y:List UInt8} (hg:Good t) (hy:y∈sgs) (hm:isMark t y=true):t.k=115/\t.s.toList=y:=by
 rw [mark_sign hg y hy] at hm;have:t.k=115/\t.s.data.toList=y:=by simpa [isS] using hm
 exact ⟨this.1,by rw [Lib.toList_data];exact this.2⟩
theorem SS.whole {t a x e:Tok} {l1 l2 l3 r:List Tok} {inn d:Int} {dp:Nat} {dear:Bool} {s:St} {rs:List RowA} {ext:List MA} (ht:t.k=119/\t.s.toList=ymode) (he:e.k=115/\e.s.toList=yRb) (hd:d=dp)
  (h1:∀ (inn' d':Int) (dear':Bool) (s':St),0<=inn'/\inn'<s'.modes.length->SS l1 inn' d' dear' s' l2 inn' d' dear' (s'.rowsS inn'.toNat rs))
  (h2:∀ s':St,s'.modes.length=s.modes.length+1->SS l2 s.modes.length (d+1) false s' l3 s.modes.length (d+1) false (s'.modesS ext)) (h3:l3=e::r) :
  SS (t::a::x::l1) inn d dear s r inn d false (s.modesS (⟨a,dear,dp,inn,rs⟩::ext)):=by
 subst hd h3;have hl:(s.addMode a inn dp dear).modes.length=s.modes.length+1:=by simp [St.addMode,St.wrong_modes]
 have e1:s.mode ⟨a,dear,dp,inn,rs⟩=(s.addMode a inn dp dear).rowsS s.modes.length rs:=rfl;have hm:=mode_modes s ⟨a,dear,dp,inn,rs⟩;refine (SS.mode ht).trans ((h1 s.modes.length _ false _ ⟨by omega,by omega⟩).trans ?_);rw [Int.toNat_natCast,<- e1];refine (h2 _ (by rw [hm];simp)).trans ?_;have hms:((s.mode ⟨a,dear,dp,inn,rs⟩).modesS ext).modes=s.modes++[MA.p ⟨a,dear,dp,inn,rs⟩]++ext.map MA.p:=by rw [modes_modes,hm]
 have:=SS.shut (t:=e) (r:=r) (inn:=s.modes.length) (d:=(dp:Int)+1) (o:=inn) (dear:=false) (s:=(s.mode ⟨a,dear,dp,inn,rs⟩).modesS ext) he (by omega) (by rw [hms];simp) (by simp [hms,MA.p]);rw [Int.add_sub_cancel] at this;exact this
end Hx
end
section
structure Key where
 outer:Int
 depth:Nat
 blk:Nat
 wi:List Nat
 ar:Option Nat
def MG.key (m:MG):Key:=⟨m.a.outer,m.a.depth,m.blk,m.wi,m.ar⟩
def inside (ks:List Key) (i:Int):List Nat:=(ks.filter fun k=>decide (k.outer=i)).map (·.blk)
structure KeyOk (ks:List Key) (i:Nat) (k:Key):Prop where
 lt:k.outer<i
 low : -1<=k.outer
 dep:k.depth<=i
 wi:k.wi=inside ks i
 ar:k.ar=if k.outer<0 then none else (ks[k.outer.toNat]?).map Key.blk
 deep:∀ d,k.depth=d+1->∃ (j:Nat) (ko:Key),j<i/\ks[j]? = some ko/\ko.depth=d
def LinksK (ks:List Key):Prop:=∀ (i:Nat) (k:Key),ks[i]? = some k->KeyOk ks i k
def Links (gs:List MG):Prop:=LinksK (gs.map MG.key)
theorem inside_app (ks ls:List Key) (i:Int):inside (ks++ls) i=inside ks i++inside ls i:=by simp [inside]
theorem inside_set (ks:List Key) (a:Nat) (k':Key) (k:Key) (h:ks[a]? = some k) (h1:k'.outer=k.outer) (h2:k'.blk=k.blk) (i:Int):inside (ks.set a k') i=inside ks i:=by
 induction ks generalizing a with
 | nil=>simp at h
 | cons x r ih =>
  cases a with
  | zero =>
   simp at h;subst h;simp only [List.set_cons_zero,inside,List.filter_cons,h1];split <;> simp [h2]
  | succ a =>
   have:=ih a (by simpa using h);simp only [List.set_cons_succ,inside,List.filter_cons] at this |-;split <;> simp [this]
theorem inside_none (ks:List Key) (i:Int) (h:∀ (j:Nat) (k:Key),ks[j]? = some k->k.outer≠i):inside ks i=[]:=by
 simp only [inside,List.map_eq_nil_iff,List.filter_eq_nil_iff];intro k hk;obtain ⟨j,hj⟩:=List.getElem?_of_mem hk;simpa using h j k hj
theorem links_root {ks:List Key} (h:LinksK ks) (B:Nat):LinksK (ks++[⟨-1,0,B,[],none⟩]):=by
 intro i k hk
 by_cases hi:i<ks.length
 ·rw [List.getElem?_append_left hi] at hk
  obtain ⟨h1,h2,h3,h4,h5,h6⟩:=h i k hk;refine ⟨h1,h2,h3,?_,?_,fun d hd=>?_⟩
  ·rw [inside_app,<- h4];simp [inside]
  ·rw [h5]
   split
   ·rfl
   ·rw [List.getElem?_append_left (by omega)]
  ·obtain ⟨j,ko,a1,a2,a3⟩:=h6 d hd
   exact ⟨j,ko,a1,by rw [List.getElem?_append_left (by omega)];exact a2,a3⟩
 ·rw [List.getElem?_append_right (by omega)] at hk
  have e:i-ks.length=0:=by
   cases hx:i-ks.length with
   | zero=>rfl
   | succ n=>rw [hx] at hk;simp at hk
  rw [e] at hk;simp at hk;subst hk;have ei:i=ks.length:=by omega
  subst ei;refine ⟨by simp;omega,by simp,by simp,?_,by simp,fun d hd=>by simp at hd⟩;rw [inside_app,inside_none ks _ (fun j k hj e=>by have:=(h j k hj).lt;have:=(List.getElem?_eq_some_iff.1 hj).1;omega)];simp [inside]
theorem links_inner {ks:List Key} (h:LinksK ks) (a:Nat) (ka:Key) (ha:ks[a]? = some ka) (B:Nat) :
  LinksK (ks.set a { ka with wi:=ka.wi++[B] }++[⟨a,ka.depth+1,B,[],some ka.blk⟩]):=by
 have hal:a<ks.length:=(List.getElem?_eq_some_iff.1 ha).1;have hb:∀ j:Nat,((ks.set a { ka with wi:=ka.wi++[B] })[j]?).map Key.blk=(ks[j]?).map Key.blk:=by
  intro j;rw [List.getElem?_set];split
  ·rename_i e;subst e;rw [ha];rfl
  ·rfl
 have hin:∀ i:Int,inside (ks.set a { ka with wi:=ka.wi++[B] }++[⟨a,ka.depth+1,B,[],some ka.blk⟩]) i=inside ks i++(if (a:Int)=i then [B] else []):=by
  intro i;rw [inside_app,inside_set ks a { ka with wi:=ka.wi++[B] } ka ha rfl rfl];congr 1;simp only [inside,List.filter_cons,List.filter_nil];split <;> simp_all
 have har:∀ k:Key,k.outer<ks.length->(if k.outer<0 then none else ((ks.set a { ka with wi:=ka.wi++[B] }++[⟨a,ka.depth+1,B,[],some ka.blk⟩])[k.outer.toNat]?).map Key.blk)=(if k.outer<0 then none else (ks[k.outer.toNat]?).map Key.blk):=by
  intro k hk;split
  ·rfl
  ·rw [List.getElem?_append_left (by simp;omega)];exact hb _
 have hde:∀ (j:Nat) (ko:Key),ks[j]? = some ko->∃ ko':Key,(ks.set a { ka with wi:=ka.wi++[B] }++[⟨a,ka.depth+1,B,[],some ka.blk⟩])[j]? = some ko'/\ko'.depth=ko.depth:=by
  intro j ko hj;have hjl:=(List.getElem?_eq_some_iff.1 hj).1;rw [List.getElem?_append_left (by simpa using hjl),List.getElem?_set];split
  ·rename_i e;subst e;rw [ha] at hj;cases hj;exact ⟨_,rfl,rfl⟩
  ·exact ⟨ko,hj,rfl⟩
 intro i k hk
 by_cases hi:i<ks.length
 ·rw [List.getElem?_append_left (by simpa using hi),List.getElem?_set] at hk
  by_cases e:a=i
  ·rw [if_pos e,if_pos hal] at hk
   cases hk
   subst e;obtain ⟨h1,h2,h3,h4,h5,h6⟩:=h a ka ha;refine ⟨h1,h2,h3,by rw [hin,<- h4];simp,?_,fun d hd=>?_⟩
   ·rw [har _ (by simp only;omega)];exact h5
   ·obtain ⟨j,ko,a1,a2,a3⟩:=h6 d hd
    obtain ⟨ko',b1,b2⟩:=hde j ko a2;exact ⟨j,ko',a1,b1,b2.trans a3⟩
  ·rw [if_neg e] at hk
   obtain ⟨h1,h2,h3,h4,h5,h6⟩:=h i k hk;refine ⟨h1,h2,h3,?_,?_,fun d hd=>?_⟩
   ·rw [hin,<- h4,if_neg (by omega)];simp
   ·rw [har _ (by omega)];exact h5
   ·obtain ⟨j,ko,a1,a2,a3⟩:=h6 d hd
    obtain ⟨ko',b1,b2⟩:=hde j ko a2;exact ⟨j,ko',a1,b1,b2.trans a3⟩
 ·rw [List.getElem?_append_right (by simp;omega)] at hk
  have e:i-ks.length=0:=by
   cases hx:i-ks.length with
   | zero=>rfl
   | succ n=>simp only [List.length_set,hx] at hk;simp at hk
  simp only [List.length_set,e] at hk;simp at hk;subst hk;have ei:i=ks.length:=by omega
  subst ei;have h3:=(h a ka ha).dep;refine ⟨by simp only;omega,by simp only;omega,by simp only;omega,?_,?_,fun d hd=>?_⟩
  ·rw [hin,inside_none ks _ (fun j k hj e=>by have:=(h j k hj).lt;have:=(List.getElem?_eq_some_iff.1 hj).1;omega),if_neg (by omega)];rfl
  ·rw [har _ (by simp only;omega),if_neg (by simp only;omega)]
   simp [ha]
  ·obtain ⟨ko',b1,b2⟩:=hde a ka ha
   exact ⟨a,ko',hal,b1,by simp only at hd;omega⟩
structure Grow (gs gs':List MG) (ext:List Hx.MA):Prop where
 a:gs'.map (·.a)=gs.map (·.a)++ext
 blk:∀ (i:Nat) (m:MG),gs[i]? = some m->∃ m':MG,gs'[i]? = some m'/\m'.blk=m.blk
 links:Links gs'
theorem Grow.trans {g1 g2 g3:List MG} {e1 e2:List Hx.MA} (h:Grow g1 g2 e1) (k:Grow g2 g3 e2):Grow g1 g3 (e1++e2) :=
 ⟨by rw [k.a,h.a,List.append_assoc],fun i m hm=>by
  obtain ⟨m2,h2,b2⟩:=h.blk i m hm;obtain ⟨m3,h3,b3⟩:=k.blk i m2 h2
  exact ⟨m3,h3,b3.trans b2⟩,k.links⟩
theorem Grow.len {g g':List MG} {e:List Hx.MA} (h:Grow g g' e):g'.length=g.length+e.length:=by
 have:=congrArg List.length h.a;simpa using this
end
end Go.Proofs.YtdjaiolfdbamcaaGreatDoor
