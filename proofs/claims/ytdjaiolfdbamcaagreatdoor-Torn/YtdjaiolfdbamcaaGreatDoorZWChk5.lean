/- Walks of the checker's list of atoms: slices.Contains over them. -/
import Derived.Test.YtdjaiolfdbamcaaGreatDoorZChk
import Derived.Test.YtdjaiolfdbamcaaGreatDoorZBase
import Derived.Laws.StructEq
import Derived.Deep.RegionLaw
import Derived.Deep.CutRange
set_option maxRecDepth 20000
set_option maxHeartbeats 400000
namespace Go.Proofs.YtdjaiolfdbamcaaGreatDoor
section
open Go.RowKit
def AK.cells (a:AK):List Value:=[.bool a.was,.string a.name,.string a.op,.int .i64 a.num]
structure CI (w:World) (c tb:Nat) (s:CS) (va:Value):Prop where
 box:w.heap[c]? = some (.cells (chkC tb s.rows va s.cl.1 s.cl.2) 206 (0,0))
 own:w.ownsRow (c+1) 322 4 va s.atoms.length (s.atoms.flatMap AK.cells)
theorem CI.lt {w:World} {c tb:Nat} {s:CS} {va:Value} (h:CI w c tb s va):c<w.heap.size:=(Array.getElem?_eq_some_iff.1 h.box).1
theorem CI.below {w w':World} {c tb:Nat} {s:CS} {va:Value} (h:CI w c tb s va) (hb:Below w.heap.size w w'):CI w' c tb s va:=⟨(hb.block c h.lt).trans h.box,own_below h.own hb⟩
def CF (c:Nat) (va:Value):Nat->Prop:=fun k=>k=c\/va.ownBlock=some k
structure CkR (w:World) (c tb:Nat) (va:Value) (s:CS) (e:Ending) (w':World):Prop where
 ret:e=.returned (.tuple #[])
 kept:Kp (CF c va) w w'
 ci:∃ va',CI w' c tb s va'/\∀ k,va'.ownBlock=some k->va.ownBlock=some k\/w.heap.size<=k
theorem CI.toBelow {w w':World} {c tb:Nat} {s:CS} {va:Value} (h:CI w c tb s va) (hk:Kp (CF c va) w w'):Below c w w' :=
 hk.toBelow (fun k e=>by rcases e with rfl | e;(exact Nat.le_refl _);(have:=(h.own.lt k e).1;omega)) (Nat.le_of_lt h.lt)
theorem CkR.trans {w w1 w2:World} {c tb:Nat} {s2:CS} {va va1:Value} {e2:Ending} (hk:Kp (CF c va) w w1) (hv:∀ k,va1.ownBlock=some k->va.ownBlock=some k\/w.heap.size<=k) (h2:CkR w1 c tb va1 s2 e2 w2):CkR w c tb va s2 e2 w2:=by
 obtain ⟨va2,hc,hv2⟩:=h2.ci;refine ⟨h2.ret,hk.trans h2.kept (fun k e=>?_),va2,hc,fun k e=>?_⟩
 ·rcases e with e | e
  ·exact .inl (.inl e)
  ·rcases hv k e with h | h
   ·exact .inl (.inr h)
   ·exact .inr h
 ·rcases hv2 k e with h | h
  ·exact hv k h
  ·exact .inr (Nat.le_trans hk.size h)
theorem CI.ref {w w':World} {c tb:Nat} {s:CS} {va:Value} {bad:Bool} {code line:Int} {e:Ending} (h:CI w c tb s va) (hr:ChkR w c tb s.rows va (refuseP bad code line s.cl) e w'):CI w' c tb (s.ref bad code line) va/\Below c w w':=by
 refine ⟨⟨hr.box,?_⟩,hr.kept.toBelow (fun k e=>by omega) (Nat.le_of_lt h.lt)⟩;refine hr.kept.own h.own (fun k e hk=>?_);have:=(h.own.lt k e).1;omega
theorem Tryz.heldKey:Tryz.prog.stoodInHeld 322=false:=by kernel_rfl
theorem Tryz.guardKey:Tryz.prog.eqGuardType Tryz.prog.depth 322=false:=by kernel_rfl
theorem indexKey_any (w:World) (g cap:Nat) (ks:List AK) (k:AK) (hg:g<w.heap.size) (hv:∀ i (hi:i<ks.length),∀ j,j<4->w.cell? ⟨g,i*4+j,none⟩=(ks[i].cells)[j]?) (hm:ks.length<=100000) :
  Calls Tryz.prog 249 #[.slice (some ⟨g,0,none⟩) ks.length cap,.agg k.cells.toArray] w fun e w'=>∃ r:Int,e=.returned (.int .i64 r)/\decide (0<=r)=ks.any (fun a=>a.same k)/\Below w.heap.size w w':=by
 have HV:=hide hv;rw [show k.cells.toArray=#[.bool k.was,.string k.name,.string k.op,.int .i64 k.num] from rfl];clear hv;go_enter Tryz.func249,Tryz.ntmps249;go_wp2_with fail
 go_loopw [8] (fun v8 wr=>∃ i:Nat,i<=ks.length/\v8=.int .i64 i/\Below (w.heap.size+1) (w.alloc (.cells #[.bool k.was,.string k.name,.string k.op,.int .i64 k.num] 322)) wr/\ks.any (fun a=>a.same k)=(ks.drop i).any (fun a=>a.same k)) (fun v8 _=>ks.length-(intOf v8).toNat)
 case atStart=>exact ⟨0,by omega,rfl,Below.refl _ _,rfl⟩
 case round =>
  obtain ⟨i,hi,rfl,hb,ha⟩:=hrel;have HA:=hide ha;have HB:=hide hb;have hsz:=hb.size;clear ha
  by_cases hlt:i<ks.length
  ·have hc:=HV.out i hlt
   have hki:(i:Int)<ks.length:=by omega
   have hk0:(0:Int)<=i:=by omega
   have hal:∀ p:Addr,p.block<w.heap.size->(w.alloc (.cells #[.bool k.was,.string k.name,.string k.op,.int .i64 k.num] 322)).cell? p=w.cell? p:=fun p hp=>((Below.refl w.heap.size w).alloc (Nat.le_refl _) _).cell hp
   have x0:wr.cell? ⟨g,i*4,none⟩=some (.bool ks[i].was):=((hb.cell (by exact Nat.lt_succ_of_lt hg)).trans (hal _ hg)).trans (hc 0 (by omega));have x1:wr.cell? ⟨g,i*4+1,none⟩=some (.string ks[i].name):=((hb.cell (by exact Nat.lt_succ_of_lt hg)).trans (hal _ hg)).trans (hc 1 (by omega));have x2:wr.cell? ⟨g,i*4+2,none⟩=some (.string ks[i].op):=((hb.cell (by exact Nat.lt_succ_of_lt hg)).trans (hal _ hg)).trans (hc 2 (by omega));have x3:wr.cell? ⟨g,i*4+3,none⟩=some (.int .i64 ks[i].num):=((hb.cell (by exact Nat.lt_succ_of_lt hg)).trans (hal _ hg)).trans (hc 3 (by omega));have y0:wr.cell? ⟨w.heap.size,0,none⟩=some (.bool k.was):=(hb.cell (by exact Nat.lt_succ_self _)).trans (by simp);have y1:wr.cell? ⟨w.heap.size,1,none⟩=some (.string k.name):=(hb.cell (by exact Nat.lt_succ_self _)).trans (by simp);have y2:wr.cell? ⟨w.heap.size,2,none⟩=some (.string k.op):=(hb.cell (by exact Nat.lt_succ_self _)).trans (by simp);have y3:wr.cell? ⟨w.heap.size,3,none⟩=some (.int .i64 k.num):=(hb.cell (by exact Nat.lt_succ_self _)).trans (by simp);obtain ⟨q,hq⟩ : ∃ q,q=ks[i]:=⟨_,rfl⟩;have HQ:=hide hq;rw [<- hq] at x0 x1 x2 x3;clear hc hb hal hq;have hh:=Tryz.heldKey;have hgd:=Tryz.guardKey;have same_eq:q.same k=((k.was == q.was) && (k.name.toList == q.name.toList) && (k.op.toList == q.op.toList) && (k.num == q.num)):=by
    simp only [AK.same,Bool.beq_comm (a:=q.was),BEq.comm (a:=q.name.toList),BEq.comm (a:=q.op.toList),BEq.comm (a:=q.num)]
   have HSE:=hide same_eq;clear same_eq
   cases h0:(k.was == q.was) with
   | false =>
    have HS:Hid (q.same k=false):=hide (by rw [HSE.out,h0];simp);go_wp2_with fail
    go_quiet (fail)
    go_wp2_with fail
    go_roundw
    case rel=>exact ⟨i+1,by omega,by go_num,below_drewN HB.out _,by rw [HA.out,Hx.any_step _ ks i hlt (by rw [<- HQ.out];exact HS.out)]⟩
    case measure=>simp [intOf];omega
   | true =>
    cases h1:(k.name.toList == q.name.toList) with
    | false =>
     have HS:Hid (q.same k=false):=hide (by rw [HSE.out,h1];simp);go_wp2_with fail
     go_quiet (fail)
     go_wp2_with fail
     go_roundw
     case rel=>exact ⟨i+1,by omega,by go_num,below_drewN HB.out _,by rw [HA.out,Hx.any_step _ ks i hlt (by rw [<- HQ.out];exact HS.out)]⟩
     case measure=>simp [intOf];omega
    | true =>
     cases h2:(k.op.toList == q.op.toList) with
     | false =>
      have HS:Hid (q.same k=false):=hide (by rw [HSE.out,h2];simp);go_wp2_with fail
      go_quiet (fail)
      go_wp2_with fail
      go_roundw
      case rel=>exact ⟨i+1,by omega,by go_num,below_drewN HB.out _,by rw [HA.out,Hx.any_step _ ks i hlt (by rw [<- HQ.out];exact HS.out)]⟩
      case measure=>simp [intOf];omega
     | true =>
      cases h3:(k.num == q.num) with
      | false =>
       have HS:Hid (q.same k=false):=hide (by rw [HSE.out,h3];simp);go_wp2_with fail
       go_quiet (fail)
       go_wp2_with fail
       go_roundw
       case rel=>exact ⟨i+1,by omega,by go_num,below_drewN HB.out _,by rw [HA.out,Hx.any_step _ ks i hlt (by rw [<- HQ.out];exact HS.out)]⟩
       case measure=>simp [intOf];omega
      | true =>
       have HS:Hid (q.same k=true):=hide (by rw [HSE.out,h0,h1,h2,h3];rfl);go_wp2_with fail
       go_quiet (fail)
       go_wp2_with fail;go_ret;refine ⟨i,rfl,?_,below_drewN (((Below.refl w.heap.size w).alloc (Nat.le_refl _) _).trans (HB.out.mono (by omega))) _⟩;rw [HA.out,Hx.any_hit _ ks i hlt (by rw [<- HQ.out];exact HS.out)];simp
  ·go_wp2_with fail
   go_ret;refine ⟨-1,rfl,?_,((Below.refl w.heap.size w).alloc (Nat.le_refl _) _).trans (HB.out.mono (by omega))⟩;rw [HA.out,Hx.any_end _ ks i (by omega)];rfl
end
section
open Go.RowKit
theorem flatC {α : Type} (f : α -> List Value) (k:Nat) (l:List α) (hf:∀ a,(f a).length=k) (i j:Nat) (hi:i<l.length) (hj:j<k):(l.flatMap f)[i*k+j]? = (f l[i])[j]? := by
 induction l generalizing i with
 | nil=>simp at hi
 | cons a r ih =>
  rw [List.flatMap_cons]
  cases i with
  | zero=>rw [List.getElem?_append_left (by rw [hf];omega)];simp
  | succ i =>
   have e:(i+1)*k+j-(f a).length=i*k+j:=by rw [hf,Nat.add_mul];omega
   rw [List.getElem?_append_right (by rw [hf,Nat.add_mul];omega),e,ih i (by simpa using hi)];rfl
theorem Kp.ofBelowC {c:Nat} {w w':World} (h:Below c w w'):Kp (fun k=>c<=k) w w':=⟨h.os,h.tape,h.output,h.size,fun k _ hn=>h.block k (by omega)⟩
theorem PT.belowC {w w':World} {base tb c:Nat} {vt vv vm:Value} {vs:List VarA} {gs:List MG} (h:PT w base tb vt vs gs (fun k=>k<c) vv vm) (hb:Below c w w'):PT w' base tb vt vs gs (fun k=>k<c) vv vm :=
 h.kept (Kp.ofBelowC hb) (fun k h1 h2=>by omega)
theorem PT.vsl {w:World} {base tb:Nat} {vt vv vm:Value} {vs:List VarA} {gs:List MG} {F:Nat->Prop} (h:PT w base tb vt vs gs F vv vm):VSl w vv vs.length vs:=by
 have ho:w.ownsRow base 166 12 vv vs.length (vs.flatMap varC):=h.mem.own 1 _ rfl
 by_cases h0:0<vs.length
 ·obtain ⟨g,cap,hv,_,hl,_,_,hcc⟩:=row_open ho h0
  exact .inr ⟨g,cap,Nat.le_refl _,hv,fun _=>hl,fun i hi k hk=>(hcc (i*12+k) (by omega)).trans (flatC varC 12 vs (fun _=>rfl) i k hi hk)⟩
 ·have e:vs.length=0:=by omega
  rcases ho.2 with ⟨h1,_⟩ | ⟨g,cap,cur,h1,_⟩
  ·exact .inl ⟨h1,e⟩
  ·exact .inr ⟨g,cap,Nat.le_refl _,h1,fun h=>absurd h h0,fun i hi=>absurd hi (by omega)⟩
theorem CI.add {w w':World} {c tb:Nat} {s:CS} {va v':Value} {k:AK} (h:CI w c tb s va) (hg:w.grownBy w' va.ownBlock) (ho:w'.ownsRow (c+1) 322 4 v' (s.atoms.length+1) (s.atoms.flatMap AK.cells++k.cells)) :
  CI (w'.setCell ⟨c,2,none⟩ v') c tb { s with atoms:=s.atoms++[k] } v'/\Below c w (w'.setCell ⟨c,2,none⟩ v')/\w'.cell? ⟨c,2,none⟩=some va/\w'.frozen? ⟨c,2,none⟩=false:=by
 have hk:Kp (fun k=>c+1<=k) w w':=(Kp.refl _ w).grown hg (fun k e=>.inl (h.own.lt k e).1);have hb:w'.heap[c]? = some (.cells (chkC tb s.rows va s.cl.1 s.cl.2) 206 (0,0)):=(hk.block c h.lt (by omega)).trans h.box;refine ⟨⟨set_heap hb,?_⟩,?_,Lib.cell_of_heap hb 2,Lib.frozen_of_heap hb 2⟩
 ·have:=((Kp.refl (fun k=>k=c) w').setCell (p:=⟨c,2,none⟩) (.inl rfl) v').own ho (fun k e hk=>by have:=(ho.lt k e).1;omega)
  simpa using this
 ·have h1:Below c w w':=hk.toBelow (fun k e=>by omega) (Nat.le_of_lt h.lt)
  exact h1.trans (((Kp.refl (fun k=>k=c) w').setCell (p:=⟨c,2,none⟩) (.inl rfl) v').toBelow (fun k e=>by omega) (Nat.le_trans (Nat.le_of_lt h.lt) hg.size))
theorem indexKey_nil (w:World) (k:AK) :
  Calls Tryz.prog 249 #[.slice none 0 0,.agg k.cells.toArray] w fun e w'=>e=.returned (.int .i64 (-1))/\Below w.heap.size w w':=by
 rw [show k.cells.toArray=#[.bool k.was,.string k.name,.string k.op,.int .i64 k.num] from rfl];go_enter Tryz.func249,Tryz.ntmps249;go_wp2_with fail
 go_loopw [8] (fun v8 wr=>v8=.int .i64 0/\Below w.heap.size w wr) (fun _ _=>0)
 case atStart=>exact ⟨rfl,(Below.refl _ _).alloc (Nat.le_refl _) _⟩
 case round =>
  obtain ⟨rfl,hb⟩:=hrel;go_wp2_with fail;go_ret;exact ⟨rfl,hb⟩
theorem indexKey_all (w:World) (B:Nat) (va:Value) (ks:List AK) (k:AK) (h:w.ownsRow B 322 4 va ks.length (ks.flatMap AK.cells)) (hm:ks.length<=100000) :
  Calls Tryz.prog 249 #[va,.agg k.cells.toArray] w fun e w'=>∃ r:Int,e=.returned (.int .i64 r)/\decide (0<=r)=ks.any (fun a=>a.same k)/\Below w.heap.size w w':=by
 rcases h.2 with ⟨h1,h2⟩ | ⟨g,cap,cur,h1,_,hg,_⟩
 ·have e:ks=[]:=by cases ks with
   | nil=>rfl
   | cons a r=>simp at h2
  subst e;rw [h1];refine Calls.mono (indexKey_nil w k) ?_;rintro e w' ⟨rfl,hb⟩;exact ⟨-1,rfl,by simp,hb⟩
 ·rw [h1]
  exact indexKey_any w g cap ks k (Array.getElem?_eq_some_iff.1 hg).1 (fun i hi j hj=>by
   obtain ⟨g',cap',hv,_,_,_,_,hcc⟩:=row_open h (by omega);rw [h1] at hv
   cases hv
   exact (hcc (i*4+j) (by omega)).trans (flatC AK.cells 4 ks (fun _=>rfl) i j hi hj)) hm
theorem containsKey_any (w:World) (B:Nat) (va:Value) (ks:List AK) (k:AK) (h:w.ownsRow B 322 4 va ks.length (ks.flatMap AK.cells)) (hm:ks.length<=100000) :
  Calls Tryz.prog 225 #[va,.agg k.cells.toArray] w fun e w'=>e=.returned (.bool (ks.any (fun a=>a.same k)))/\Below w.heap.size w w':=by
 have HI:=hide (indexKey_all (w.alloc (.cells k.cells.toArray 322)) B va ks k (own_below h ((Below.refl _ _).alloc (Nat.le_refl _) _)) hm);clear h;rw [show k.cells.toArray=#[.bool k.was,.string k.name,.string k.op,.int .i64 k.num] from rfl] at HI |-;go_enter Tryz.func225,Tryz.ntmps225;go_wp2_with fail;refine HI.out.mono ?_;rintro e w1 ⟨r,rfl,hr,hb⟩;have HR:=hide hr;have HB:=hide hb;clear hr hb;go_wp2_with fail;go_ret;exact ⟨ret_bool HR.out,((Below.refl w.heap.size w).alloc (Nat.le_refl _) _).trans (HB.out.mono (by simp))⟩
end
end Go.Proofs.YtdjaiolfdbamcaaGreatDoor
