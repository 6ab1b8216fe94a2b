/- The walks of Answer and Cuts. -/
import Derived.Test.YtdjaiolfdbamcaaGreatDoorZWCF1
import Derived.Test.YtdjaiolfdbamcaaGreatDoorZWCT6
import Derived.Test.YtdjaiolfdbamcaaGreatDoorZChk
import Derived.Test.YtdjaiolfdbamcaaGreatDoorZWCE5
set_option maxRecDepth 20000
set_option maxHeartbeats 400000
namespace Go.Proofs.YtdjaiolfdbamcaaGreatDoor
section
open Go.RowKit
theorem size_one' (w:World) (o:Obj):(w.alloc o).heap.size=w.heap.size+1:=by simp
theorem size_one (w:World) (o:Obj):w.heap.size<=(w.alloc o).heap.size:=by simp
theorem below_two (w:World) (o p:Obj):Below w.heap.size w ((w.alloc o).alloc p):=((Below.refl _ _).alloc (Nat.le_refl _) _).alloc (size_one w o) _
theorem ans_atom {m:Nat} {w:World} (q:Cx.Q) (hw:q.which<m) :
  Ans m w (.func (.func 227) #[qV q.which q.same q.num q.turned] #[]) q.answer:=by
 obtain ⟨wh,same,num,turned⟩:=q;simp only at hw;refine ⟨_,_,_,rfl,enters_of Tryz.func227 (by kernel_rfl) rfl,fun W s l hW hs=>?_⟩;obtain ⟨hm,g,cap,rfl,hg,hc⟩:=hs;have hwl:wh<l.length:=by omega
 have hwi:(wh:Int)<l.length:=by omega
 have hw0:(0:Int)<=wh:=by omega
 have x0:=hc wh hwl;have hgd:l.getD wh 0=l[wh]:=by simp [List.getD,hwl]
 clear hc;show Calls Tryz.prog _ #[qV wh same num turned,.slice (some ⟨g,0,none⟩) l.length cap] W fun e w'=>e=.returned (.bool (Cx.Q.answer ⟨wh,same,num,turned⟩ l))/\Below W.heap.size W w'
 simp only [Cx.Q.answer,hgd];clear hgd;generalize l[wh]=n at *;unfold qV;go_enter Tryz.func227,Tryz.ntmps227
 cases same with
 | true =>
  go_wp2_with fail;go_ret;exact ⟨rfl,(Below.refl _ _).alloc (Nat.le_refl _) _⟩
 | false =>
  go_wp2_with fail;go_ret;exact ⟨rfl,(Below.refl _ _).alloc (Nat.le_refl _) _⟩
theorem Cuts_any (w:World) (q:Cx.Q) (hn : -100000<=q.num/\q.num<=100000) :
  Calls Tryz.prog 226 #[qV q.which q.same q.num q.turned] w fun e w'=>∃ g,e=.returned (.slice (some ⟨g,0,none⟩) q.cuts.length q.cuts.length)/\w'.ownsRow w.heap.size 3 1 (.slice (some ⟨g,0,none⟩) q.cuts.length q.cuts.length) q.cuts.length (q.cuts.map (.int .i64))/\Below w.heap.size w w':=by
 obtain ⟨wh,same,num,turned⟩:=q;obtain ⟨hn0,hn1⟩:=hn;simp only at hn0 hn1;simp only [Cx.Q.cuts];unfold qV;go_enter Tryz.func226,Tryz.ntmps226
 cases same with
 | true =>
  go_wp2_with fail;go_ret;refine ⟨w.heap.size+1,rfl,?_,below_two w _ _⟩;have h:=World.ownsRow_lit (size:=1) (base:=w.heap.size) (e:=3) (w.alloc (.cells #[.int .i64 wh,.bool true,.int .i64 num,.bool turned] 314)) #[.int .i64 num,.int .i64 (num+1)] 2 (size_one w _) (by decide) rfl;rw [size_one' w] at h;exact h
 | false =>
  go_wp2_with fail;go_ret;refine ⟨w.heap.size+1,rfl,?_,below_two w _ _⟩;have h:=World.ownsRow_lit (size:=1) (base:=w.heap.size) (e:=3) (w.alloc (.cells #[.int .i64 wh,.bool false,.int .i64 num,.bool turned] 314)) #[.int .i64 num] 1 (size_one w _) (by decide) rfl;rw [size_one' w] at h;exact h
end
section
namespace Cx
open Hx
def eval (vs:List VarA):G->List Int->Bool
 | .or l r=>fun xs=>eval vs l xs || eval vs r xs
 | .and l r=>fun xs=>eval vs l xs && eval vs r xs
 | .not g=>fun xs=>!eval vs g xs
 | .group _ g=>eval vs g
 | .tru=>fun _=>true
 | .atom w nm op num _=>(qOf vs w.isSome nm op num).answer
def atoms (vs:List VarA):G->List Q
 | .or l r=>atoms vs l++atoms vs r
 | .and l r=>atoms vs l++atoms vs r
 | .not g=>atoms vs g
 | .group _ g=>atoms vs g
 | .tru=>[]
 | .atom w nm op num _=>[qOf vs w.isSome nm op num]
def rowsAll (ms:List MA):List RowA:=ms.flatMap (·.rows)
def guards (vs:List VarA) (ms:List MA):List (List Int->Bool):=(rowsAll ms).map fun r=>eval vs r.g
def cutsAt (qs:List Q) (i:Nat):List Int:=(qs.filter fun q=>q.which == i).flatMap Q.cuts
def allAtoms (vs:List VarA) (ms:List MA):List Q:=(rowsAll ms).flatMap fun r=>atoms vs r.g
def lowOf (vs:List VarA) (i:Nat):Int:=match vs[i]? with | some v=>v.first.n | none=>0
def highOf (vs:List VarA) (i:Nat):Int:=match vs[i]? with | some v=>v.last.n | none=>0
def choice (vs:List VarA) (qs:List Q) (i:Nat):List Int:=leastOnes (lowOf vs (i % vs.length)) (highOf vs (i % vs.length)) (cutsAt qs i)
def choices (vs:List VarA) (ms:List MA):List (List Int):=(List.range (2*vs.length)).map (choice vs (allAtoms vs ms))
def longer (ls:List (List Int)) (c:List Int):List (List Int):=ls.flatMap fun l=>c.map fun n=>l++[n]
def combine (cs:List (List Int)):List (List Int):=cs.foldl longer [[]]
def scenes (vs:List VarA) (ms:List MA):List (List Int×Int):=(combine (choices vs ms)).map fun l=>(l,rowsTo (guards vs ms) l (guards vs ms).length)
def rowNames (ms:List MA):List ByteArray:=ms.flatMap fun m=>m.rows.map fun _=>m.name.s
def bitV:Nat->Int
 | 0=>1
 | k+1=>bitV k*2 % 4294967296
def setTo (ns:List ByteArray):Nat->ByteArray->Int
 | 0,_=>0
 | k+1,x=>if ns[k]? = some x then bits .or .u32 (setTo ns k x) (bitV k) else setTo ns k x
def setOf (ms:List MA) (x:ByteArray):Int:=setTo (rowNames ms) (rowNames ms).length x
def placeOf (ms:List MA) (i:Nat):ByteArray×List Int:=(nameOf ms i,(path ms i).map fun j=>setOf ms (nameOf ms j))
def places (ms:List MA):List (ByteArray×List Int):=(leaves ms).map (placeOf ms)
def isCase (code:Int) (p:ByteArray×List Int) (s:List Int×Int):Option (ByteArray×List Int):=if judgeP p.2 s.2=code then some (p.1,s.1) else none
def findOne (code:Int) (ps:List (ByteArray×List Int)) (ss:List (List Int×Int)):Option (ByteArray×List Int):=ps.findSome? fun p=>ss.findSome? fun s=>isCase code p s
def find (vs:List VarA) (ms:List MA):Option (Int×ByteArray×List Int) :=
 match findOne 6 (places ms) (scenes vs ms) with
 | some x=>some (6,x)
 | none=>(findOne 7 (places ms) (scenes vs ms)).map fun x=>(7,x)
theorem combine_snoc (cs:List (List Int)) (c:List Int):combine (cs++[c])=longer (combine cs) c:=by simp [combine]
theorem longer_len {ls:List (List Int)} {c:List Int} {m:Nat} (h:∀ l∈ls,l.length=m):∀ l∈longer ls c,l.length=m+1:=by
 intro l hl;simp only [longer,List.mem_flatMap,List.mem_map] at hl;obtain ⟨a,ha,n,_,rfl⟩:=hl;simp [h a ha]
theorem longer_count (ls:List (List Int)) (c:List Int):(longer ls c).length=ls.length*c.length:=by
 induction ls with
 | nil=>simp [longer]
 | cons a t ih=>simp only [longer,List.flatMap_cons,List.length_append,List.length_map,List.length_cons] at ih |-;rw [ih,Nat.succ_mul];omega
theorem combine_lens (cs:List (List Int)):∀ i,i<=cs.length->∀ l∈combine (cs.take i),l.length=i:=by
 intro i
 induction i with
 | zero=>intro _ l hl;simp [combine] at hl;simp [hl]
 | succ k ih =>
  intro hk l hl;rw [List.take_add_one,List.getElem?_eq_getElem (by omega)] at hl;simp only [Option.toList] at hl;rw [combine_snoc] at hl;exact longer_len (ih (by omega)) l hl
theorem findSome_drop {α β : Type} (f : α -> Option β) (l:List α) (k:Nat) (h:k<l.length) (hf:f l[k]=none):(l.drop k).findSome? f=(l.drop (k+1)).findSome? f:=by
 rw [List.drop_eq_getElem_cons h,List.findSome?_cons,hf]
theorem findSome_at {α β : Type} (f : α -> Option β) (l:List α) (k:Nat) (h:k<l.length) {x : β} (hf:f l[k]=some x):(l.drop k).findSome? f=some x:=by
 rw [List.drop_eq_getElem_cons h,List.findSome?_cons,hf]
end Cx
end
section
theorem ref_clean {s:CS} {b:Bool} {c l:Int} (hc:c≠0) (h:(s.ref b c l).cl.1=0):s.cl.1=0/\b=false:=by
 unfold CS.ref refuseP at h;simp only at h
 by_cases hs:s.cl.1=0
 ·cases b with
  | false=>exact ⟨hs,rfl⟩
  | true=>rw [if_pos (by simp [hs])] at h;exact absurd h hc
 ·rw [if_neg (by simp [hs])] at h;exact absurd h hs
def CS.has (s:CS) (k:AK):Prop:=s.atoms.any (fun a=>a.same k)=true
theorem AK.same_refl (k:AK):k.same k=true:=by simp [AK.same]
theorem add_has (s:CS) (k:AK):(s.addAtom k).has k:=by
 unfold CS.addAtom CS.has;split
 ·assumption
 ·simp [AK.same_refl]
theorem add_keeps {s:CS} {k k':AK} (h:s.has k'):(s.addAtom k).has k':=by
 unfold CS.has at *;unfold CS.addAtom;split
 ·exact h
 ·simp only [List.any_append,h,Bool.true_or]
theorem add_rows (s:CS) (k:AK):(s.addAtom k).rows=s.rows:=by unfold CS.addAtom;split <;> rfl
theorem add_cl (s:CS) (k:AK):(s.addAtom k).cl=s.cl:=by unfold CS.addAtom;split <;> rfl
def gFine (vs:List VarA) (s:CS):Hx.G->Prop
 | .or l r=>gFine vs s l/\gFine vs s r
 | .and l r=>gFine vs s l/\gFine vs s r
 | .not g=>gFine vs s g
 | .group _ g=>gFine vs s g
 | .tru=>True
 | .atom w n o i _=>vs.any (sameV n.s)=true/\badB i.n=false/\s.has (atomKey w n o i)
theorem gFine.mono {vs:List VarA} {s s':CS} (h:∀ k,s.has k->s'.has k):∀ {g:Hx.G},gFine vs s g->gFine vs s' g
 | .or _ _,hg=>⟨gFine.mono h hg.1,gFine.mono h hg.2⟩
 | .and _ _,hg=>⟨gFine.mono h hg.1,gFine.mono h hg.2⟩
 | .not g,hg=>gFine.mono (g:=g) h hg
 | .group _ g,hg=>gFine.mono (g:=g) h hg
 | .tru,_=>trivial
 | .atom _ _ _ _ _,hg=>⟨hg.1,hg.2.1,h _ hg.2.2⟩
theorem gFine.ok {vs:List VarA} {s:CS}:∀ {g:Hx.G},gFine vs s g->gOk vs g
 | .or _ _,hg=>⟨gFine.ok hg.1,gFine.ok hg.2⟩
 | .and _ _,hg=>⟨gFine.ok hg.1,gFine.ok hg.2⟩
 | .not g,hg=>gFine.ok (g:=g) hg
 | .group _ g,hg=>gFine.ok (g:=g) hg
 | .tru,_=>trivial
 | .atom _ _ _ _ _,hg=>hg.1
structure Stp (s s':CS):Prop where
 clean:s'.cl.1=0->s.cl.1=0
 keeps:∀ k,s.has k->s'.has k
 few:s'.cl.1=0->s.atoms.length<=8->s'.atoms.length<=8
theorem Stp.refl (s:CS):Stp s s:=⟨id,fun _=>id,fun _=>id⟩
theorem Stp.trans {a b c:CS} (h:Stp a b) (k:Stp b c):Stp a c:=⟨fun e=>h.clean (k.clean e),fun q e=>k.keeps q (h.keeps q e),fun e f=>k.few e (h.few (k.clean e) f)⟩
theorem stp_ref (s:CS) (b:Bool) (c l:Int) (hc:c≠0):Stp s (s.ref b c l):=⟨fun e=>(ref_clean hc e).1,fun _ h=>h,fun _ h=>h⟩
theorem ckAtom_stp (vs:List VarA) (s:CS) (k:AK) (nl:Int) (num:Hx.Tok):Stp s (ckAtom vs s k nl num)/\(ckAtom vs s k nl num).has k/\((ckAtom vs s k nl num).cl.1=0->vs.any (sameV k.name)=true/\badB num.n=false):=by
 unfold ckAtom;simp only;refine ⟨⟨fun e=>?_,fun q h=>add_keeps h,fun e _=>?_⟩,add_has s k,fun e=>?_⟩
 ·have:=(ref_clean (by decide) (ref_clean (by decide) (ref_clean (by decide) e).1).1).1
  rw [add_cl] at this;exact this
 ·have:=(ref_clean (by decide) (ref_clean (by decide) (ref_clean (by decide) e).1).1).2
  show (s.addAtom k).atoms.length<=8;simpa using this
 ·have h1:=ref_clean (by decide) e
  have h2:=ref_clean (by decide) h1.1;exact ⟨by simpa using h2.2,h1.2⟩
theorem ckG_stp (vs:List VarA) (g:Hx.G):∀ (d:Nat) (s:CS),Stp s (ckG vs g d s)/\(ckG vs g d s).rows=s.rows/\((ckG vs g d s).cl.1=0->gFine vs (ckG vs g d s) g):=by
 induction g with
 | or l r ihl ihr =>
  intro d s;obtain ⟨a1,a2,a3⟩:=ihl d s;obtain ⟨b1,b2,b3⟩:=ihr d (ckG vs l d s);exact ⟨a1.trans b1,b2.trans a2,fun e=>⟨(a3 (b1.clean e)).mono b1.keeps,b3 e⟩⟩
 | and l r ihl ihr =>
  intro d s;obtain ⟨a1,a2,a3⟩:=ihl d s;obtain ⟨b1,b2,b3⟩:=ihr d (ckG vs l d s);exact ⟨a1.trans b1,b2.trans a2,fun e=>⟨(a3 (b1.clean e)).mono b1.keeps,b3 e⟩⟩
 | not g ih=>intro d s;exact ih d s
 | group t g ih =>
  intro d s;obtain ⟨a1,a2,a3⟩:=ih (d+1) (s.ref (decide (6<=d)) 1 t.line);exact ⟨(stp_ref s _ 1 _ (by decide)).trans a1,a2,a3⟩
 | tru=>intro d s;exact ⟨Stp.refl s,rfl,fun _=>trivial⟩
 | atom w n o i ok =>
  intro d s;obtain ⟨a1,a2,a3⟩:=ckAtom_stp vs s (atomKey w n o i) n.line i;exact ⟨a1,by show ((s.addAtom _)).rows=s.rows;exact add_rows _ _,fun e=>⟨(a3 e).1,(a3 e).2,a2⟩⟩
theorem ckRow_stp (vs:List VarA) (s:CS) (r:Hx.RowA):Stp s (ckRow vs s r)/\(ckRow vs s r).rows=s.rows+1/\((ckRow vs s r).cl.1=0->s.rows+1<=24/\gFine vs (ckRow vs s r) r.g):=by
 unfold ckRow;obtain ⟨a1,a2,a3⟩:=ckG_stp vs r.g 0 ({ s with rows:=s.rows+1 }.ref (decide (24<s.rows+1)) 1 r.wh.line);have h0:Stp s ({ s with rows:=s.rows+1 }.ref (decide (24<s.rows+1)) 1 r.wh.line):=⟨fun e=>(ref_clean (by decide) e).1,fun _ h=>h,fun _ h=>h⟩;refine ⟨h0.trans a1,a2,fun e=>⟨?_,a3 e⟩⟩;have:=(ref_clean (by decide) (a1.clean e)).2;simpa using this
theorem ckRows_stp (vs:List VarA) (rs:List Hx.RowA):∀ s,Stp s (rs.foldl (ckRow vs) s)/\(rs.foldl (ckRow vs) s).rows=s.rows+rs.length/\((rs.foldl (ckRow vs) s).cl.1=0->(0<rs.length->s.rows+rs.length<=24)/\∀ r∈rs,gFine vs (rs.foldl (ckRow vs) s) r.g):=by
 induction rs with
 | nil=>intro s;exact ⟨Stp.refl s,rfl,fun _=>⟨fun h=>by simp at h,fun r hr=>by simp at hr⟩⟩
 | cons r t ih =>
  intro s;obtain ⟨a1,a2,a3⟩:=ckRow_stp vs s r;obtain ⟨b1,b2,b3⟩:=ih (ckRow vs s r);simp only [List.foldl_cons,List.length_cons];refine ⟨a1.trans b1,by rw [b2,a2];omega,fun e=>?_⟩;have c1:=a3 (b1.clean e);have c2:=b3 e;refine ⟨fun _=>?_,fun q hq=>?_⟩
  ·by_cases ht:0<t.length
   ·have:=c2.1 ht;rw [a2] at this;omega
   ·have:=c1.1;omega
  ·rcases List.mem_cons.1 hq with rfl | hq
   ·exact c1.2.mono b1.keeps
   ·exact c2.2 q hq
theorem ckMode_stp (vs:List VarA) (gs:List MG) (i:Nat) (m:MG) (s:CS):Stp s (ckMode vs gs i m s)/\(ckMode vs gs i m s).rows=s.rows+m.a.rows.length/\((ckMode vs gs i m s).cl.1=0->i<12/\(gs.take i).any (sameM m.a.name.s)=false/\(0<m.a.rows.length->s.rows+m.a.rows.length<=24)/\∀ r∈m.a.rows,gFine vs (ckMode vs gs i m s) r.g):=by
 unfold ckMode;obtain ⟨a1,a2,a3⟩:=ckRows_stp vs m.a.rows ((s.ref (decide (12<=i) || decide (6<=m.a.depth)) 1 m.a.name.line).ref ((gs.take i).any (sameM m.a.name.s)) 3 m.a.name.line);refine ⟨((stp_ref s _ 1 _ (by decide)).trans (stp_ref _ _ 3 _ (by decide))).trans a1,a2,fun e=>?_⟩;have h1:=ref_clean (by decide) (a1.clean e);have h2:=ref_clean (by decide) h1.1;refine ⟨?_,h1.2,(a3 e).1,(a3 e).2⟩;have:=h2.2;simp at this;omega
theorem ckModes_stp (vs:List VarA) (gs:List MG) (l:List MG):∀ (i:Nat) (s:CS),Stp s (ckModes vs gs i l s)/\((ckModes vs gs i l s).cl.1=0->s.rows<=24->(s.rows+(l.flatMap (·.a.rows)).length<=24)/\∀ j (hj:j<l.length),i+j<12/\(gs.take (i+j)).any (sameM l[j].a.name.s)=false/\∀ r∈l[j].a.rows,gFine vs (ckModes vs gs i l s) r.g):=by
 induction l with
 | nil=>intro i s;exact ⟨Stp.refl s,fun _ h=>⟨by simpa using h,fun j hj=>by simp at hj⟩⟩
 | cons m t ih =>
  intro i s;obtain ⟨a1,a2,a3⟩:=ckMode_stp vs gs i m s;obtain ⟨b1,b3⟩:=ih (i+1) (ckMode vs gs i m s);simp only [ckModes];refine ⟨a1.trans b1,fun e hs=>?_⟩;obtain ⟨c1,c2,c3,c4⟩:=a3 (b1.clean e);have hr:(ckMode vs gs i m s).rows<=24:=by
   rw [a2]
   by_cases h0:0<m.a.rows.length
   ·exact c3 h0
   ·omega
  obtain ⟨d1,d2⟩:=b3 e hr;refine ⟨by rw [a2] at d1;simp only [List.flatMap_cons,List.length_append];omega,fun j hj=>?_⟩
  cases j with
  | zero=>exact ⟨c1,c2,fun r hr=>(c4 r hr).mono b1.keeps⟩
  | succ j =>
   have:=d2 j (by simpa using hj);rw [show i+(j+1)=i+1+j by omega];exact this
theorem ckVars_stp (vs:List VarA) (l:List VarA):∀ (i:Nat) (s:CS),Stp s (ckVars vs i l s)/\(ckVars vs i l s).rows=s.rows/\(ckVars vs i l s).atoms=s.atoms/\((ckVars vs i l s).cl.1=0->∀ j (hj:j<l.length),i+j<3/\(vs.take (i+j)).any (sameV l[j].name.s)=false/\badB l[j].first.n=false/\badB l[j].last.n=false/\l[j].first.n<=l[j].last.n):=by
 induction l with
 | nil=>intro i s;exact ⟨Stp.refl s,rfl,rfl,fun _ j hj=>by simp at hj⟩
 | cons v t ih =>
  intro i s;obtain ⟨b1,b2,b3,b4⟩:=ih (i+1) (ckVar vs i v s);have a1:Stp s (ckVar vs i v s):=((((stp_ref s _ 1 _ (by decide)).trans (stp_ref _ _ 3 _ (by decide))).trans (stp_ref _ _ 4 _ (by decide))).trans (stp_ref _ _ 4 _ (by decide))).trans (stp_ref _ _ 4 _ (by decide));simp only [ckVars];refine ⟨a1.trans b1,b2.trans rfl,b3.trans rfl,fun e j hj=>?_⟩
  cases j with
  | zero =>
   have e1:=b1.clean e;unfold ckVar at e1;have h1:=ref_clean (by decide) e1;have h2:=ref_clean (by decide) h1.1;have h3:=ref_clean (by decide) h2.1;have h4:=ref_clean (by decide) h3.1;have h5:=ref_clean (by decide) h4.1;refine ⟨by have:=h5.2;simp at this;omega,h4.2,h3.2,h2.2,?_⟩;have:=h1.2;simp at this;exact this
  | succ j =>
   have:=b4 e j (by simpa using hj);rw [show i+(j+1)=i+1+j by omega];exact this
theorem ckDests_stp (gs:List MG) (rs:List Hx.RowA):∀ s,Stp s (rs.foldl (fun s r=>s.ref (destBad gs r) 3 (destLine r)) s)/\(rs.foldl (fun s r=>s.ref (destBad gs r) 3 (destLine r)) s).atoms=s.atoms/\((rs.foldl (fun s r=>s.ref (destBad gs r) 3 (destLine r)) s).cl.1=0->∀ r∈rs,destBad gs r=false):=by
 induction rs with
 | nil=>intro s;exact ⟨Stp.refl s,rfl,fun _ r hr=>by simp at hr⟩
 | cons r t ih =>
  intro s;obtain ⟨b1,b2,b3⟩:=ih (s.ref (destBad gs r) 3 (destLine r));simp only [List.foldl_cons];refine ⟨(stp_ref s _ 3 _ (by decide)).trans b1,b2,fun e q hq=>?_⟩;rcases List.mem_cons.1 hq with rfl | hq
  ·exact (ref_clean (by decide) (b1.clean e)).2
  ·exact b3 e q hq
theorem ckTargets_stp (gs:List MG) (l:List MG):∀ s,Stp s (ckTargets gs l s)/\(ckTargets gs l s).atoms=s.atoms/\((ckTargets gs l s).cl.1=0->∀ m∈l,∀ r∈m.a.rows,destBad gs r=false):=by
 induction l with
 | nil=>intro s;exact ⟨Stp.refl s,rfl,fun _ m hm=>by simp at hm⟩
 | cons m t ih =>
  intro s;obtain ⟨a1,a2,a3⟩:=ckDests_stp gs m.a.rows s;obtain ⟨b1,b2,b3⟩:=ih (m.a.rows.foldl (fun s r=>s.ref (destBad gs r) 3 (destLine r)) s);refine ⟨a1.trans b1,b2.trans a2,fun e q hq=>?_⟩;rcases List.mem_cons.1 hq with rfl | hq
  ·exact a3 (b1.clean e)
  ·exact b3 e q hq
theorem ckTree_stp (gs:List MG) (l:List MG):∀ (i:Nat) (s:CS),Stp s (ckTree gs i l s)/\(ckTree gs i l s).atoms=s.atoms/\((ckTree gs i l s).cl.1=0->∀ j,j<l.length->0<(inner gs (i+j)).length->dears gs (i+j)=1):=by
 induction l with
 | nil=>intro i s;exact ⟨Stp.refl s,rfl,fun _ j hj=>by simp at hj⟩
 | cons m t ih =>
  intro i s;obtain ⟨b1,b2,b3⟩:=ih (i+1) (s.ref (decide (0<(inner gs i).length) && (decide (dears gs i≠1))) 5 m.a.name.line);simp only [ckTree];refine ⟨(stp_ref s _ 5 _ (by decide)).trans b1,b2,fun e j hj h0=>?_⟩
  cases j with
  | zero =>
   have:=(ref_clean (by decide) (b1.clean e)).2;simp only [Nat.add_zero] at h0;simp [h0] at this;exact this
  | succ j =>
   rw [show i+(j+1)=i+1+j by omega] at h0 |-;exact b3 e j (by simpa using hj) h0
structure Fine (vs:List VarA) (gs:List MG):Prop where
 vars:vs.length<=3
 modes:gs.length<=12
 rows:(gs.flatMap (·.a.rows)).length<=24
 var:∀ j (hj:j<vs.length),(vs.take j).any (sameV vs[j].name.s)=false/\badB vs[j].first.n=false/\badB vs[j].last.n=false/\vs[j].first.n<=vs[j].last.n
 mode:∀ j (hj:j<gs.length),(gs.take j).any (sameM gs[j].a.name.s)=false
 row:∃ s:CS,s.atoms.length<=8/\∀ m∈gs,∀ r∈m.a.rows,gFine vs s r.g/\destBad gs r=false
 tree:∀ j,j<gs.length->0<(inner gs j).length->dears gs j=1
theorem fine_of {vs:List VarA} {gs:List MG} (h:(ckAll vs gs).cl.1=0):Fine vs gs:=by
 unfold ckAll at h;obtain ⟨v1,v2,v3,v4⟩:=ckVars_stp vs vs 0 ⟨0,[],(0,0)⟩;obtain ⟨m1,m2⟩:=ckModes_stp vs gs gs 0 (ckVars vs 0 vs ⟨0,[],(0,0)⟩);obtain ⟨t1,t2,t3⟩:=ckTargets_stp gs gs (ckModes vs gs 0 gs (ckVars vs 0 vs ⟨0,[],(0,0)⟩));obtain ⟨r1,r2,r3⟩:=ckTree_stp gs gs 0 (ckTargets gs gs (ckModes vs gs 0 gs (ckVars vs 0 vs ⟨0,[],(0,0)⟩)));have e1:=r1.clean h;have e2:=t1.clean e1;have e3:=m1.clean e2;obtain ⟨f1,f2⟩:=m2 e2 (by rw [v2];exact Nat.zero_le _);have g1:=v4 e3;refine ⟨?_,?_,?_,?_,?_,⟨_,m1.few e2 (by rw [v3];exact Nat.zero_le _),?_⟩,?_⟩
 ·by_cases hz:vs.length=0
  ·omega
  ·have:=(g1 (vs.length-1) (by omega)).1;omega
 ·by_cases hz:gs.length=0
  ·omega
  ·have:=(f2 (gs.length-1) (by omega)).1;omega
 ·rw [v2] at f1;simpa using f1
 ·intro j hj
  have:=g1 j hj;simp only [Nat.zero_add] at this;exact this.2
 ·intro j hj
  have:=f2 j hj;simp only [Nat.zero_add] at this;exact this.2.1
 ·intro m hm r hr
  obtain ⟨j,hj,rfl⟩:=List.getElem_of_mem hm;exact ⟨(f2 j hj).2.2 r hr,t3 e1 _ hm r hr⟩
 ·intro j hj h0
  have:=r3 h j hj;simp only [Nat.zero_add] at this;exact this h0
end
section
theorem inner_at {gs:List MG} {i k:Nat} (hk:k<gs.length):k∈Cx.innerIx (gs.map (·.a)) i↔gs[k].a.outer=(i:Int):=by
 unfold Cx.innerIx;rw [List.mem_map];constructor
 ·rintro ⟨⟨m,j⟩,hp,e⟩
  obtain ⟨h1,h2⟩:=List.mem_filter.1 hp;have hz:=List.mem_zipIdx h1;simp at hz h2 e;subst e;rw [<- hz.2];exact h2
 ·intro h
  refine ⟨((gs.map (·.a))[k]'(by rw [List.length_map];exact hk),k),List.mem_filter.2 ⟨?_,by simpa using h⟩,rfl⟩;exact List.mk_mem_zipIdx_iff_getElem?.2 (List.getElem?_eq_getElem (by rw [List.length_map];exact hk))
theorem dflt_ok {vs:List VarA} {gs:List MG} (hF:Fine vs gs):DefaultOk (gs.map (·.a)):=by
 intro i hi hl;rw [List.length_map] at hi;have hne:Cx.innerIx (gs.map (·.a)) i≠[]:=by
  intro e;unfold Cx.isLeaf at hl;rw [e] at hl
  cases hl
 obtain ⟨k,hk⟩:=List.exists_mem_of_ne_nil _ hne;have hkl:k<gs.length:=by
  unfold Cx.innerIx at hk;obtain ⟨⟨m,j⟩,hp,e⟩:=List.mem_map.1 hk;have hz:=List.mem_zipIdx (List.mem_filter.1 hp).1;simp at hz e;omega
 have hin:gs[k]∈inner gs i:=List.mem_filter.2 ⟨List.getElem_mem hkl,by simpa using (inner_at hkl).1 hk⟩;have hd:=hF.tree i hi (List.length_pos_of_mem hin);unfold dears at hd;have hpos:0<((inner gs i).filter fun g=>g.a.dflt).length:=by omega
 obtain ⟨g,hg⟩:=List.exists_mem_of_length_pos hpos;obtain ⟨h1,h2⟩:=List.mem_filter.1 hg;obtain ⟨h3,h4⟩:=List.mem_filter.1 h1;obtain ⟨j,hj,e⟩:=List.getElem_of_mem h3;refine ⟨j,(inner_at hj).2 (by rw [e];simpa using h4),?_⟩;unfold Cx.dfltOf;rw [List.getElem?_map,List.getElem?_eq_getElem hj,e];exact h2
theorem tab_ok {vs:List VarA} {gs:List MG} (hL:Links gs) (hF:Fine vs gs) (h0:0<gs.length):TabOk vs gs:=⟨hL,hF.vars,hF.modes,h0,dflt_ok hF⟩
theorem tab_r {vs:List VarA} {gs:List MG} (hF:Fine vs gs):TabR vs gs:=by
 obtain ⟨s,_,hrow⟩:=hF.row;intro m hm;refine ⟨?_,fun r hr=>⟨(hrow m hm r hr).1.ok,fun a ha=>?_⟩⟩
 ·obtain ⟨a,b,e⟩:=List.append_of_mem hm
  have h:=hF.rows;rw [e,List.flatMap_append,List.flatMap_cons] at h;simp only [List.length_append] at h;omega
 ·have:=(hrow m hm r hr).2
  unfold destBad at this;rw [ha] at this;simpa using this
end
section
namespace Cx
theorem compact_up (d:Array Int) (hs:∀ i j,i<=j->j<d.size->d[i]! <= d[j]!):∀ m,m<=d.size->(Lib.compactUpTo d m).Pairwise (· < ·)/\(∀ x∈Lib.compactUpTo d m,∃ j,j<m/\d[j]! = x)/\∀ j,j<m->d[j]! ∈ Lib.compactUpTo d m:=by
 intro m
 induction m with
 | zero=>intro _;exact ⟨by simp [Lib.compactUpTo],fun x hx=>by simp [Lib.compactUpTo] at hx,fun j hj=>by omega⟩
 | succ m ih =>
  intro hm;obtain ⟨h1,h2,h3⟩:=ih (by omega);rw [Lib.compactUpTo_succ]
  by_cases hk:Lib.keeps d m=true
  ·rw [if_pos hk]
   refine ⟨List.pairwise_append.2 ⟨h1,by simp,fun x hx y hy=>?_⟩,fun x hx=>?_,fun j hj=>?_⟩
   ·simp at hy
    subst hy;obtain ⟨j,hj,rfl⟩:=h2 x hx;have hm0:0<m:=by omega
    have hne:d[m]! ≠ d[m-1]! := by
     unfold Lib.keeps at hk;simp at hk;rcases hk with h | h
     ·omega
     ·simpa using h
    have a1:=hs j (m-1) (by omega) (by omega);have a2:=hs (m-1) m (by omega) (by omega);omega
   ·rcases List.mem_append.1 hx with h | h
    ·obtain ⟨j,hj,e⟩:=h2 x h
     exact ⟨j,by omega,e⟩
    ·simp at h
     exact ⟨m,by omega,h.symm⟩
   ·by_cases he:j=m
    ·subst he;simp
    ·exact List.mem_append_left _ (h3 j (by omega))
  ·rw [if_neg hk,List.append_nil]
   have hm0:0<m:=by
    rcases Nat.eq_zero_or_pos m with rfl | h
    ·exact absurd (Lib.keeps_lt_one d 0 (by omega)) hk
    ·exact h
   have he:d[m]! = d[m-1]! := by
    by_cases e:d[m]! = d[m-1]!
    ·exact e
    ·exact absurd (Lib.keeps_pos e) hk
   refine ⟨h1,fun x hx=>?_,fun j hj=>?_⟩
   ·obtain ⟨j,hj,e⟩:=h2 x hx
    exact ⟨j,by omega,e⟩
   ·by_cases e:j=m
    ·subst e;rw [he];exact h3 (j-1) (by omega)
    ·exact h3 j (by omega)
theorem compact_of {zs:List Int} (hs:zs.Pairwise (fun a b=>decide (a<=b)=true)):(Lib.compact zs).Pairwise (· < ·)/\∀ x,x∈Lib.compact zs↔x∈zs:=by
 have hd:∀ i j,i<=j->j<zs.toArray.size->zs.toArray[i]! <= zs.toArray[j]! := by
  intro i j hij hj;have hj':j<zs.length:=by simpa using hj
  have hi':i<zs.length:=by omega
  rw [getElem!_pos zs.toArray i (by simpa using hi'),getElem!_pos zs.toArray j (by simpa using hj')];simp only [List.getElem_toArray]
  by_cases e:i=j
  ·subst e;exact Int.le_refl _
  ·have:=List.pairwise_iff_getElem.1 hs i j hi' hj' (by omega)
   simpa using this
 obtain ⟨h1,h2,h3⟩:=compact_up zs.toArray hd zs.length (by simp);refine ⟨h1,fun x=>⟨fun hx=>?_,fun hx=>?_⟩⟩
 ·obtain ⟨j,hj,rfl⟩:=h2 x hx
  rw [getElem!_pos zs.toArray j (by simpa using hj)];simp
 ·obtain ⟨j,hj,rfl⟩:=List.getElem_of_mem hx
  have:=h3 j hj;rw [getElem!_pos zs.toArray j (by simpa using hj)] at this;show zs[j]∈Lib.compactUpTo zs.toArray zs.length;simpa using this
theorem sorted_of (l:List Int):(l.mergeSort fun x y=>decide (x<=y)).Pairwise (fun a b=>decide (a<=b)=true) :=
 List.pairwise_mergeSort (fun a b c h1 h2=>by simp at h1 h2 |-;omega) (fun a b=>by simp;omega) l
theorem least_spec (a b:Int) (cs:List Int):(leastOnes a b cs).Pairwise (· < ·)/\∀ x,x∈leastOnes a b cs↔x=a\/(x∈cs/\a<x/\x<=b):=by
 obtain ⟨h1,h2⟩:=compact_of (sorted_of (a::cutsIn a b cs));refine ⟨h1,fun x=>(h2 x).trans ?_⟩;rw [List.mem_mergeSort,List.mem_cons];unfold cutsIn;rw [List.mem_filter];simp
theorem least_pos (a b:Int) (cs:List Int):0<(leastOnes a b cs).length:=List.length_pos_of_mem ((least_spec a b cs).2 a |>.2 (.inl rfl))
theorem least_le {a b:Int} {cs L:List Int} (h:∀ x∈cs,x∈L):(leastOnes a b cs).length<=L.length+1:=by
 obtain ⟨h1,h2⟩:=least_spec a b cs;have hn:(leastOnes a b cs).Nodup:=h1.imp (fun h=>by omega)
 have:=hn.length_le_of_subset (l₂ := a::L) (fun x hx=>by
  rcases (h2 x).1 hx with rfl | h3
  ·simp
  ·exact List.mem_cons_of_mem _ (h x h3.1))
 simpa using this
def qK (vs:List VarA) (k:AK):Q :=
 ⟨varIx vs k.name+(if k.was then 0 else vs.length),opIs k.op [61,61] || opIs k.op [33,61],(if opIs k.op [60,61] || opIs k.op [62] then k.num+1 else k.num),opIs k.op [33,61] || opIs k.op [62,61] || opIs k.op [62]⟩
theorem qK_of (vs:List VarA) (w:Option Hx.Tok) (n o i:Hx.Tok):qOf vs w.isSome n o i=qK vs (atomKey w n o i):=rfl
theorem qK_same {vs:List VarA} {a k:AK} (h:a.same k=true):qK vs a=qK vs k:=by
 unfold AK.same at h;simp only [Bool.and_eq_true,beq_iff_eq] at h;obtain ⟨⟨⟨h1,h2⟩,h3⟩,h4⟩:=h;have e1:varIx vs a.name=varIx vs k.name:=by
  unfold varIx;congr 1;funext v;simp [sameV,h2]
 have e2:∀ l,opIs a.op l=opIs k.op l:=fun l=>by simp [opIs,h3]
 simp only [qK,e1,e2,h1,h4]
theorem atoms_in {vs:List VarA} {s:CS}:∀ {g:Hx.G},gFine vs s g->∀ q∈atoms vs g,q∈s.atoms.map (qK vs)
 | .or l r,hg,q,hq=>by
  rcases List.mem_append.1 hq with h | h
  ·exact atoms_in hg.1 q h
  ·exact atoms_in hg.2 q h
 | .and l r,hg,q,hq=>by
  rcases List.mem_append.1 hq with h | h
  ·exact atoms_in hg.1 q h
  ·exact atoms_in hg.2 q h
 | .not g,hg,q,hq=>atoms_in (g:=g) hg q hq
 | .group _ g,hg,q,hq=>atoms_in (g:=g) hg q hq
 | .tru,_,q,hq=>by simp [atoms] at hq
 | .atom w n o i ok,hg,q,hq=>by
  have he:q=qOf vs w.isSome n o i:=by simpa [atoms] using hq
  obtain ⟨a,ha,hs⟩:=List.any_eq_true.1 hg.2.2;rw [he,qK_of,<- qK_same hs];exact List.mem_map.2 ⟨a,ha,rfl⟩
theorem all_in {vs:List VarA} {gs:List MG} {s:CS} (h:∀ m∈gs,∀ r∈m.a.rows,gFine vs s r.g):∀ q∈allAtoms vs (gs.map (·.a)),q∈s.atoms.map (qK vs):=by
 intro q hq;unfold allAtoms rowsAll at hq;rw [List.mem_flatMap] at hq;obtain ⟨r,hr,hq⟩:=hq;rw [List.mem_flatMap] at hr;obtain ⟨a,ha,hr⟩:=hr;obtain ⟨m,hm,rfl⟩:=List.mem_map.1 ha;exact atoms_in (h m hm r hr) q hq
theorem choice_le {vs:List VarA} {qs L:List Q} (h:∀ q∈qs,q∈L) (hL:L.length<=8) (i:Nat):(choice vs qs i).length<=17:=by
 have h1:∀ x∈cutsAt qs i,x∈L.flatMap Q.cuts:=by
  intro x hx;unfold cutsAt at hx;rw [List.mem_flatMap] at hx |-;obtain ⟨q,hq,hx⟩:=hx;exact ⟨q,h q (List.mem_filter.1 hq).1,hx⟩
 have h2:(L.flatMap Q.cuts).length<=2*L.length:=by
  clear h h1 hL
  induction L with
  | nil=>simp
  | cons q t ih =>
   have:q.cuts.length<=2:=by unfold Q.cuts;split <;> simp
   simp only [List.flatMap_cons,List.length_append,List.length_cons];omega
 have h3:=least_le (a:=lowOf vs (i % vs.length)) (b:=highOf vs (i % vs.length)) h1;unfold choice;omega
theorem combine_le {cs:List (List Int)} (h:∀ c∈cs,c.length<=17):∀ i,(combine (cs.take i)).length<=17 ^ (min i cs.length):=by
 intro i
 induction i with
 | zero=>simp [combine]
 | succ i ih =>
  by_cases hi:i<cs.length
  ·rw [List.take_add_one,List.getElem?_eq_getElem hi]
   simp only [Option.toList];rw [combine_snoc,longer_count,show min (i+1) cs.length=min i cs.length+1 by omega,Nat.pow_succ];exact Nat.mul_le_mul ih (h _ (List.getElem_mem hi))
  ·rw [List.take_of_length_le (by omega)]
   rw [List.take_of_length_le (by omega)] at ih;rw [show min (i+1) cs.length=min i cs.length by omega];exact ih
theorem combine_pos {cs:List (List Int)} (h:∀ c∈cs,0<c.length):0<(combine cs).length:=by
 have key:∀ i,0<(combine (cs.take i)).length:=by
  intro i
  induction i with
  | zero=>simp [combine]
  | succ i ih =>
   by_cases hi:i<cs.length
   ·rw [List.take_add_one,List.getElem?_eq_getElem hi]
    simp only [Option.toList];rw [combine_snoc,longer_count];exact Nat.mul_pos ih (h _ (List.getElem_mem hi))
   ·rw [List.take_of_length_le (by omega)]
    rw [List.take_of_length_le (by omega)] at ih;exact ih
 have:=key cs.length;rw [List.take_length] at this;exact this
end Cx
end
end Go.Proofs.YtdjaiolfdbamcaaGreatDoor
