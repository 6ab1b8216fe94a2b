/- Walks of the checker's list of atoms: slices.Contains over them. -/
import Derived.Test.YtdjaiolfdbamcaaGreatDoorZCA
set_option maxRecDepth 20000
set_option maxHeartbeats 4000000
namespace Go.Proofs.YtdjaiolfdbamcaaGreatDoor
variable {w w':World}{base c tb:Nat}{va vm vt vv:Value}{vs:List az}{gs:List MG}
section
open Go.RowKit
def AK.cells(a:AK):List Value:=[.bool a.was,.string a.name,.string a.op,.int .i64 a.num]
structure CI(w:World)(c tb:Nat)(s:CS)(va:Value):Prop where
 box:w.heap[c]?=some (.cells (tf tb s.rows va s.cl.1 s.cl.2) 206 (0,0))
 own:w.ownsRow (c+1) 322 4 va s.atoms.length (s.atoms.flatMap AK.cells)
theorem CI.lt{s:CS}(h:CI w c tb s va):c<w.heap.size:=(Array.getElem?_eq_some_iff.1 h.box).1
theorem CI.below{s:CS}(h:CI w c tb s va)(hb:Below w.heap.size w w'):CI w' c tb s va:=⟨(hb.block c h.lt).trans h.box,ah h.own hb⟩
def CF(c:Nat)(va:Value):Nat->Prop:=λk=>k=c\/va.ownBlock=some k
structure Fq(w:World)(c tb:Nat)(va:Value)(s:CS)(e:Ending)(w':World):Prop where
 ret:e=.returned (.tuple #[])
 kept:Kp (CF c va) w w'
 ci:∃va',CI w' c tb s va'/\∀k,va'.ownBlock=some k->va.ownBlock=some k\/w.heap.size<=k
theorem CI.toBelow{s:CS}(h:CI w c tb s va)(hk:Kp (CF c va) w w'):Below c w w':=
 hk.toBelow (λk e=>by rcases e with rfl|e;(omega);(have:=(h.own.lt k e).1;omega)) (Nat.le_of_lt h.lt)
theorem Fq.trans{w1 w2:World}{s2:CS}{Eb:Value}{e2:Ending}(hk:Kp (CF c va) w w1)(hv:∀k,Eb.ownBlock=some k->va.ownBlock=some k\/w.heap.size<=k)(h2:Fq w1 c tb Eb s2 e2 w2):Fq w c tb va s2 e2 w2:=by
 obtain⟨va2,hc,oR⟩:=h2.ci;refine⟨h2.ret,hk.trans h2.kept (λk e=>?_),va2,hc,λk e=>?_⟩
 ·rcases e with e|e
  ·exact .inl (.inl e)
  ·rcases hv k e with h|h
   ·exact .inl (.inr h)
   omega
 ·rcases oR k e with h|h
  ·grind
  ·exact .inr (Nat.le_trans hk.size h)
theorem CI.ref{s:CS}{bad:Bool}{code line:Int}{e:Ending}(h:CI w c tb s va)(hr:abj w c tb s.rows va (gJ bad code line s.cl) e w'):CI w' c tb (s.ref bad code line) va/\Below c w w':=by
 refine⟨⟨hr.box,?_⟩,hr.kept.toBelow (λk e=>by omega) (Nat.le_of_lt h.lt)⟩;refine hr.kept.own h.own (λk e hk=>?_);have:=(h.own.lt k e).1;omega
theorem Tryz.heldKey:Tryz.prog.stoodInHeld 322=false:=by simp
theorem Tryz.guardKey:Tryz.prog.eqGuardType Tryz.prog.depth 322=false:=by simp
theorem Fz(w:World)(g cap:Nat)(ks:List AK)(k:AK)(hg:g<w.heap.size)(hv:∀i (hi:i<ks.length),∀j,j<4->w.cell? ⟨g,i*4+j,none⟩=(ks[i].cells)[j]?)(hm:ks.length<=100000):
  Calls Tryz.prog 249 #[.slice (some ⟨g,0,none⟩) ks.length cap,.agg k.cells.toArray] w λe w'=>∃r:Int,e=.returned (.int .i64 r)/\decide (0<=r)=ks.any (λa=>a.same k)/\Below w.heap.size w w':=by
 have HV:=ae hv;rw[show k.cells.toArray=#[.bool k.was,.string k.name,.string k.op,.int .i64 k.num]from rfl];clear hv;go_enter Tryz.func249,Tryz.ntmps249;go_wp2_with fail
 go_loopw [8] (λv8 wr=>∃i:Nat,i<=ks.length/\v8=.int .i64 i/\Below (w.heap.size+1) (w.alloc (.cells #[.bool k.was,.string k.name,.string k.op,.int .i64 k.num] 322)) wr/\ks.any (λa=>a.same k)=(ks.drop i).any (λa=>a.same k)) (λv8 _=>ks.length-(intOf v8).toNat)
 case atStart=>exact⟨0,by omega,rfl,Below.refl _ _,rfl⟩
 case round=>
  obtain⟨i,hi,rfl,hb,ha⟩:=hrel;have HA:=ae ha;have HB:=ae hb;have hsz:=hb.size;clear ha
  by_cases hlt:i<ks.length
  ·have hc:=HV.out i hlt
   have rM:(i:Int)<ks.length:=by omega
   have jf:(0:Int)<=i:=by omega
   have QO:∀p:Addr,p.block<w.heap.size->(w.alloc (.cells #[.bool k.was,.string k.name,.string k.op,.int .i64 k.num] 322)).cell? p=w.cell? p:=λp hp=>((Below.refl w.heap.size w).alloc (Nat.le_refl _) _).cell hp
   have x0:wr.cell? ⟨g,i*4,none⟩=some (.bool ks[i].was):=((hb.cell (by grind)).trans (QO _ hg)).trans (hc 0 (by omega));have x1:wr.cell? ⟨g,i*4+1,none⟩=some (.string ks[i].name):=((hb.cell (by grind)).trans (QO _ hg)).trans (hc 1 (by omega));have x2:wr.cell? ⟨g,i*4+2,none⟩=some (.string ks[i].op):=((hb.cell (by grind)).trans (QO _ hg)).trans (hc 2 (by omega));have x3:wr.cell? ⟨g,i*4+3,none⟩=some (.int .i64 ks[i].num):=((hb.cell (by grind)).trans (QO _ hg)).trans (hc 3 (by omega));have y0:wr.cell? ⟨w.heap.size,0,none⟩=some (.bool k.was):=(hb.cell (by simp)).trans (by simp);have y1:wr.cell? ⟨w.heap.size,1,none⟩=some (.string k.name):=(hb.cell (by simp)).trans (by simp);have y2:wr.cell? ⟨w.heap.size,2,none⟩=some (.string k.op):=(hb.cell (by simp)).trans (by simp);have y3:wr.cell? ⟨w.heap.size,3,none⟩=some (.int .i64 k.num):=(hb.cell (by simp)).trans (by simp);obtain⟨q,hq⟩:∃q,q=ks[i]:=⟨_,rfl⟩;have HQ:=ae hq;rw[<-hq]at x0 x1 x2 x3;clear hc hb QO hq;have hh:=Tryz.heldKey;have zi:=Tryz.guardKey;have NJ:q.same k=((k.was==q.was)&&(k.name.toList==q.name.toList)&&(k.op.toList==q.op.toList)&&(k.num==q.num)):=by
    simp only [AK.same,Bool.beq_comm]
   have HSE:=ae NJ;clear NJ
   cases h0:(k.was==q.was)with
   |false=>
    have HS:Hid (q.same k=false):=ae (by rw[HSE.out,h0];simp);go_wp2_with fail
    go_quiet (fail)
    go_wp2_with fail
    go_roundw
    case rel=>exact⟨i+1,by omega,by go_num,below_drewN HB.out _,by rw[HA.out,Hx.kP _ ks i hlt (by rw[<-HQ.out];exact HS.out)]⟩
    case measure=>grind[intOf]
   |true=>
    cases h1:(k.name.toList==q.name.toList)with
    |false=>
     have HS:Hid (q.same k=false):=ae (by rw[HSE.out,h1];simp);go_wp2_with fail
     go_quiet (fail)
     go_wp2_with fail
     go_roundw
     case rel=>exact⟨i+1,by omega,by go_num,below_drewN HB.out _,by rw[HA.out,Hx.kP _ ks i hlt (by rw[<-HQ.out];exact HS.out)]⟩
     case measure=>grind[intOf]
    |true=>
     cases h2:(k.op.toList==q.op.toList)with
     |false=>
      have HS:Hid (q.same k=false):=ae (by rw[HSE.out,h2];simp);go_wp2_with fail
      go_quiet (fail)
      go_wp2_with fail
      go_roundw
      case rel=>exact⟨i+1,by omega,by go_num,below_drewN HB.out _,by rw[HA.out,Hx.kP _ ks i hlt (by rw[<-HQ.out];exact HS.out)]⟩
      case measure=>grind[intOf]
     |true=>
      cases h3:(k.num==q.num)with
      |false=>
       have HS:Hid (q.same k=false):=ae (by rw[HSE.out,h3];simp);go_wp2_with fail
       go_quiet (fail)
       go_wp2_with fail
       go_roundw
       case rel=>exact⟨i+1,by omega,by go_num,below_drewN HB.out _,by rw[HA.out,Hx.kP _ ks i hlt (by rw[<-HQ.out];exact HS.out)]⟩
       case measure=>grind[intOf]
      |true=>
       have HS:Hid (q.same k=true):=ae (by rw[HSE.out,h0,h1,h2,h3];rfl);go_wp2_with fail
       go_quiet (fail)
       go_wp2_with fail;go_ret;refine⟨i,rfl,?_,below_drewN (((Below.refl w.heap.size w).alloc (Nat.le_refl _) _).trans (HB.out.mono (by omega))) _⟩;rw[HA.out,Hx.wG _ ks i hlt (by rw[<-HQ.out];exact HS.out)];simp
  ·go_wp2_with fail
   go_ret;refine⟨-1,rfl,?_,((Below.refl w.heap.size w).alloc (Nat.le_refl _) _).trans (HB.out.mono (by omega))⟩;rw[HA.out,Hx.wH _ ks i (by omega)];rfl
theorem sP{α:Type}(f:α->List Value)(k:Nat)(l:List α)(hf:∀a,(f a).length=k)(i j:Nat)(hi:i<l.length)(hj:j<k):(l.flatMap f)[i*k+j]?=(f l[i])[j]?:=by
 induction l generalizing i with
 |nil=>simp at hi
 |cons a r ih=>
  rw[List.flatMap_cons]
  cases i<;>grind
theorem Kp.UU(h:Below c w w'):Kp (λk=>c<=k) w w':=⟨h.os,h.tape,h.output,h.size,λk _ hn=>h.block k (by omega)⟩
theorem PT.iF(h:PT w base tb vt vs gs (λk=>k<c) vv vm)(hb:Below c w w'):PT w' base tb vt vs gs (λk=>k<c) vv vm:=
 h.kept (Kp.UU hb) (λk h1 h2=>by omega)
theorem PT.vsl{F:Nat->Prop}(h:PT w base tb vt vs gs F vv vm):XE w vv vs.length vs:=by
 have ho:w.ownsRow base 166 12 vv vs.length (vs.flatMap fp):=h.mem.own 1 _ rfl
 by_cases h0:0<vs.length
 ·obtain⟨g,cap,hv,_,hl,_,_,hcc⟩:=aR ho h0
  exact .inr ⟨g,cap,Nat.le_refl _,hv,λ_=>hl,λi hi k hk=>(hcc (i*12+k) (by omega)).trans (sP fp 12 vs (λ_=>rfl) i k hi hk)⟩
 ·have e:vs.length=0:=by omega
  rcases ho.2 with⟨h1,_⟩|⟨g,cap,cur,h1,_⟩
  ·exact .inl ⟨h1,e⟩
  ·exact .inr ⟨g,cap,Nat.le_refl _,h1,λh=>absurd h h0,λi hi=>absurd hi (by omega)⟩
theorem CI.add{s:CS}{v':Value}{k:AK}(h:CI w c tb s va)(hg:w.grownBy w' va.ownBlock)(ho:w'.ownsRow (c+1) 322 4 v' (s.atoms.length+1) (s.atoms.flatMap AK.cells++k.cells)):
  CI (w'.setCell ⟨c,2,none⟩ v') c tb {s with atoms:=s.atoms++[k]} v'/\Below c w (w'.setCell ⟨c,2,none⟩ v')/\w'.cell? ⟨c,2,none⟩=some va/\w'.frozen? ⟨c,2,none⟩=false:=by
 have hk:Kp (λk=>c+1<=k) w w':=(Kp.refl _ w).grown hg (λk e=>.inl (h.own.lt k e).1);have hb:=(hk.block c h.lt (by omega)).trans h.box;refine⟨⟨aE hb,?_⟩,?_,Lib.cell_of_heap hb 2,Lib.frozen_of_heap hb 2⟩
 ·have:=((Kp.refl (λk=>k=c) w').setCell (p:=⟨c,2,none⟩) (.inl rfl) v').own ho (λk e hk=>by have:=(ho.lt k e).1;omega)
  grind
 ·have h1:=hk.toBelow (λk e=>by omega) (Nat.le_of_lt h.lt)
  exact h1.trans (((Kp.refl (λk=>k=c) w').setCell (.inl rfl) v').toBelow (λk e=>by omega) (Nat.le_trans (Nat.le_of_lt h.lt) hg.size))
theorem FA(w:World)(k:AK):
  Calls Tryz.prog 249 #[.slice none 0 0,.agg k.cells.toArray] w λe w'=>e=.returned (.int .i64 (-1))/\Below w.heap.size w w':=by
 rw[show k.cells.toArray=#[.bool k.was,.string k.name,.string k.op,.int .i64 k.num]from rfl];go_enter Tryz.func249,Tryz.ntmps249;go_wp2_with fail
 go_loopw [8] (λv8 wr=>v8=.int .i64 0/\Below w.heap.size w wr) (λ_ _=>0)
 case atStart=>exact⟨rfl,(Below.refl _ _).alloc (Nat.le_refl _) _⟩
 case round=>
  obtain⟨rfl,hb⟩:=hrel;go_wp2_with fail;go_ret
  simp_all
theorem FB(w:World)(B:Nat)(va:Value)(ks:List AK)(k:AK)(h:w.ownsRow B 322 4 va ks.length (ks.flatMap AK.cells))(hm:ks.length<=100000):
  Calls Tryz.prog 249 #[va,.agg k.cells.toArray] w λe w'=>∃r:Int,e=.returned (.int .i64 r)/\decide (0<=r)=ks.any (λa=>a.same k)/\Below w.heap.size w w':=by
 rcases h.2 with⟨h1,h2⟩|⟨g,cap,cur,h1,_,hg,_⟩
 ·have e:ks=[]:=by cases ks with
   |nil=>rfl
   |cons a r=>simp at h2
  subst e;rw[h1];refine Calls.mono (FA w k) ?_
  grind
 ·rw[h1]
  exact Fz w g cap ks k (Array.getElem?_eq_some_iff.1 hg).1 (λi hi j hj=>by
   obtain⟨g',cap',hv,_,_,_,_,hcc⟩:=aR h (by omega);rw[h1]at hv
   cases hv
   exact(hcc (i*4+j) (by omega)).trans (sP AK.cells 4 ks (λ_=>rfl) i j hi hj)) hm
theorem wC(w:World)(B:Nat)(va:Value)(ks:List AK)(k:AK)(h:w.ownsRow B 322 4 va ks.length (ks.flatMap AK.cells))(hm:ks.length<=100000):
  Calls Tryz.prog 225 #[va,.agg k.cells.toArray] w λe w'=>e=.returned (.bool (ks.any (λa=>a.same k)))/\Below w.heap.size w w':=by
 have HI:=ae (FB (w.alloc (.cells k.cells.toArray 322)) B va ks k (ah h ((Below.refl _ _).alloc (Nat.le_refl _) _)) hm);clear h;rw[show k.cells.toArray=#[.bool k.was,.string k.name,.string k.op,.int .i64 k.num]from rfl]at HI|-;go_enter Tryz.func225,Tryz.ntmps225;go_wp2_with fail;refine HI.out.mono ?_;rintro e w1 ⟨r,rfl,hr,hb⟩;have HR:=ae hr;have HB:=ae hb;clear hr hb;go_wp2_with fail;go_ret;exact⟨bC HR.out,((Below.refl w.heap.size w).alloc (Nat.le_refl _) _).trans (HB.out.mono (by simp))⟩
end
section
open Go.RowKit
attribute [local go_sem↓] Go.wp_at_zero Go.wp_at_succ
theorem Tryz.infoKey:(Tryz.prog.info? 322).map (λi=>(i.zero,i.size,i.bytes))=some (some (.agg #[.bool false,.string ⟨#[]⟩,.string ⟨#[]⟩,.int .i64 0]),4,48):=by kernel_rfl
def aec(was:Option Hx.Tok)(n o i:Hx.Tok):Array Value:=#[.bool was.isSome,.int .i64 (ao n.k),.string n.s,.int .i64 n.n,.int .i64 n.line,.int .i64 (ao o.k),.string o.s,.int .i64 o.n,.int .i64 o.line,.int .i64 (ao i.k),.string i.s,.int .i64 i.n,.int .i64 i.line]
theorem CI.Fl{k:Nat}{row:Option Nat}{v:Value}(hg:w.grownBy w' row)(hk:k<w.heap.size)(hr:¬row=some k)(hc:k≠c):(w'.setCell ⟨c,2,none⟩ v).heap[k]?=w.heap[k]?:=
 (Below.heap_setCell _ _ _ _ hc).trans (((Kp.refl (λq=>row=some q) w).grown hg (λ_ h=>.inl h)).block k hk hr)
theorem zR(w:World)(c tb base:Nat)(vt vv vm:Value)(vs:List az)(gs:List MG)(s:CS)(va:Value)(was:Option Hx.Tok)(n o i:Hx.Tok)(h:CI w c tb s va)(hT:PT w base tb vt vs gs (λk=>k<c) vv vm)(kz:vs.length<=3001)(hlen:(dJ vs s (dm was n o i) n.line i).atoms.length<=10000):
  Calls Tryz.prog 204 #[.pointer (some ⟨c,0,none⟩),.agg (aec was n o i)] w λe w'=>Fq w c tb va (dJ vs s (dm was n o i) n.line i) e w':=by
 have RJ:(s.addAtom (dm was n o i)).atoms.length<=10000:=hlen;have hls:=by
  unfold CS.addAtom at RJ;split at RJ
  ·exact RJ
  ·grind
 obtain⟨av,cv,hav,_,_⟩:=aj h.own;subst hav;have lP:=h.lt;have HVB:=ae (λk e=>h.own.lt k e);have tj:=ae hT;have gf:Below w.heap.size w (w.alloc (.cells #[.bool was.isSome,.int .i64 (ao n.k),.string n.s,.int .i64 n.n,.int .i64 n.line,.int .i64 (ao o.k),.string o.s,.int .i64 o.n,.int .i64 o.line,.int .i64 (ao i.k),.string i.s,.int .i64 i.n,.int .i64 i.line] 307)):=(Below.refl _ _).alloc (Nat.le_refl _) _;have kc:Below w.heap.size w ((w.alloc (.cells #[.bool was.isSome,.int .i64 (ao n.k),.string n.s,.int .i64 n.n,.int .i64 n.line,.int .i64 (ao o.k),.string o.s,.int .i64 o.n,.int .i64 o.line,.int .i64 (ao i.k),.string i.s,.int .i64 i.n,.int .i64 i.line] 307)).alloc (.cells #[.bool was.isSome,.string n.s,.string o.s,.int .i64 i.n] 322)):=gf.alloc (by simp) _;have hA:((w.alloc (.cells #[.bool was.isSome,.int .i64 (ao n.k),.string n.s,.int .i64 n.n,.int .i64 n.line,.int .i64 (ao o.k),.string o.s,.int .i64 o.n,.int .i64 o.line,.int .i64 (ao i.k),.string i.s,.int .i64 i.n,.int .i64 i.line] 307)).alloc (.cells #[.bool was.isSome,.string n.s,.string o.s,.int .i64 i.n] 322)).heap[w.heap.size]?=some (.cells #[.bool was.isSome,.int .i64 (ao n.k),.string n.s,.int .i64 n.n,.int .i64 n.line,.int .i64 (ao o.k),.string o.s,.int .i64 o.n,.int .i64 o.line,.int .i64 (ao i.k),.string i.s,.int .i64 i.n,.int .i64 i.line] 307 (0,0)):=by
  refine(((Below.refl (w.heap.size+1) (w.alloc (.cells #[.bool was.isSome,.int .i64 (ao n.k),.string n.s,.int .i64 n.n,.int .i64 n.line,.int .i64 (ao o.k),.string o.s,.int .i64 o.n,.int .i64 o.line,.int .i64 (ao i.k),.string i.s,.int .i64 i.n,.int .i64 i.line] 307))).alloc (by simp) _).block w.heap.size (by omega)).trans ?_;exact heap_alloc_new w _
 have hK:((w.alloc (.cells #[.bool was.isSome,.int .i64 (ao n.k),.string n.s,.int .i64 n.n,.int .i64 n.line,.int .i64 (ao o.k),.string o.s,.int .i64 o.n,.int .i64 o.line,.int .i64 (ao i.k),.string i.s,.int .i64 i.n,.int .i64 i.line] 307)).alloc (.cells #[.bool was.isSome,.string n.s,.string o.s,.int .i64 i.n] 322)).heap[w.heap.size+1]?=some (.cells #[.bool was.isSome,.string n.s,.string o.s,.int .i64 i.n] 322 (0,0)):=by
  have:=heap_alloc_new (w.alloc (.cells #[.bool was.isSome,.int .i64 (ao n.k),.string n.s,.int .i64 n.n,.int .i64 n.line,.int .i64 (ao o.k),.string o.s,.int .i64 o.n,.int .i64 o.line,.int .i64 (ao i.k),.string i.s,.int .i64 i.n,.int .i64 i.line] 307)) (.cells #[.bool was.isSome,.string n.s,.string o.s,.int .i64 i.n] 322);simpa using this
 have hsz:((w.alloc (.cells #[.bool was.isSome,.int .i64 (ao n.k),.string n.s,.int .i64 n.n,.int .i64 n.line,.int .i64 (ao o.k),.string o.s,.int .i64 o.n,.int .i64 o.line,.int .i64 (ao i.k),.string i.s,.int .i64 i.n,.int .i64 i.line] 307)).alloc (.cells #[.bool was.isSome,.string n.s,.string o.s,.int .i64 i.n] 322)).heap.size=w.heap.size+2:=by simp
 have ki:=ae (h.below kc);have HW0:Hid (Kp (CF c (.slice av s.atoms.length cv)) w _):=ae (Kp.aK kc);have KB:Hid (∀Y,Kp (CF c (.slice av s.atoms.length cv)) w Y->Below c w Y):=ae (λY hY=>h.toBelow hY);have HA:=ae hA;have HK:=ae hK;have HSZ:=ae hsz;clear h hT gf kc hA hK hsz;rw[show aec was n o i=#[.bool was.isSome,.int .i64 (ao n.k),.string n.s,.int .i64 n.n,.int .i64 n.line,.int .i64 (ao o.k),.string o.s,.int .i64 o.n,.int .i64 o.line,.int .i64 (ao i.k),.string i.s,.int .i64 i.n,.int .i64 i.line]from rfl];go_enter Tryz.func204,Tryz.ntmps204;go_upto_region 2 with(fail);generalize hWW:((w.alloc (.cells #[.bool was.isSome,.int .i64 (ao n.k),.string n.s,.int .i64 n.n,.int .i64 n.line,.int .i64 (ao o.k),.string o.s,.int .i64 o.n,.int .i64 o.line,.int .i64 (ao i.k),.string i.s,.int .i64 i.n,.int .i64 i.line] 307)).alloc (.cells #[.bool was.isSome,.string n.s,.string o.s,.int .i64 i.n] 322))=W at*;clear hWW;have y2:=jr ki.out.box;obtain⟨k0,k1,k2,k3⟩:=nE HK.out;obtain⟨b,Uq⟩:∃b,s.atoms.any (λa=>a.same (dm was n o i))=b:=⟨_,rfl⟩;have NK:=ae Uq
 have CK:Hid (∀X,Below W.heap.size W X->Calls Tryz.prog 225 #[.slice av s.atoms.length cv,.agg #[.bool was.isSome,.string n.s,.string o.s,.int .i64 i.n]] X λe w'=>e=.returned (.bool b)/\Below X.heap.size X w'):=ae (λX hX=>by
  have:=wC X (c+1) (.slice av s.atoms.length cv) s.atoms (dm was n o i) (ah ki.out.own hX) (by omega);rw[Uq]at this
  exact this)
 have hcW:=ki.out.lt;have hkW:w.heap.size+1<W.heap.size:=by rw[HSZ.out];omega
 clear Uq
 go_region_held3 (λX=>X.cell? ⟨c,2,none⟩=some (.slice av s.atoms.length cv)/\X.cell? ⟨w.heap.size+1,0,none⟩=some (.bool was.isSome)/\X.cell? ⟨w.heap.size+1,1,none⟩=some (.string n.s)/\X.cell? ⟨w.heap.size+1,2,none⟩=some (.string o.s)/\X.cell? ⟨w.heap.size+1,3,none⟩=some (.int .i64 i.n)) (first|go_keep|(exact⟨by with_reducible assumption,by with_reducible assumption,by with_reducible assumption,by with_reducible assumption,by with_reducible assumption⟩))
  ((go_at_call 225;refine(CK.out _ ?_).mono ?_;exact⟨rfl,rfl,rfl,Nat.le_refl _,λ_ _=>rfl⟩;rintro e w1 ⟨rfl,bH⟩;have z2:=(bH.cell hcW).trans y2;have z3:=(bH.cell hkW).trans k0;have z4:=(bH.cell hkW).trans k1;have z5:=(bH.cell hkW).trans k2;have z6:=(bH.cell hkW).trans k3))
 have L5:Below W.heap.size W w1:=⟨bH.os,bH.tape,bH.output,bH.size,bH.block⟩;have Jf:=ae (ki.out.below L5);have HA1:=ae ((L5.block w.heap.size (by omega)).trans HA.out);have jW:=ae ((L5.block (w.heap.size+1) hkW).trans HK.out);have og:=ae (HW0.out.below L5);have iH:=Nat.lt_of_lt_of_le hcW L5.size;have fL:=Nat.lt_of_lt_of_le hkW L5.size;clear bH L5 y2 k0 k1 k2 k3 CK ki HA HK HW0 HSZ hcW hkW
 cases b with
 |true=>
  have HVO:Hid (∀k,(Value.slice av s.atoms.length cv).ownBlock=some k->(Value.slice av s.atoms.length cv).ownBlock=some k\/w.heap.size<=k):=ae (λ_ e=>.inl e);have HAD:Hid (s.addAtom (dm was n o i)=s):=ae (by unfold CS.addAtom;rw[if_pos NK.out]);clear z2 z3 z4 z5 z6;go_wp2_with fail
  have tH:=ae (show dJ vs s (dm was n o i) n.line i=((s.ref (decide ((8:Int)<(s.atoms.length))) 1 n.line).ref (!(vs.any (bK n.s))) 3 n.line).ref (iA i.n) 4 i.line by
   have e8:decide ((8:Int)<(s.atoms.length))=decide (8<s.atoms.length):=by rw[Bool.eq_iff_iff];simp;omega
   rw[e8];simp only [dJ,HAD.out];rfl)
  have FZ:w.heap.size<w1.heap.size:=by omega
  have hXc:=Jf.out.lt;have y2:=jr Jf.out.box;have zW:¬w.heap.size=c:=by omega
  obtain⟨a0,a1,a2,a3,a4,a5,a6,a7,a8,a9,Fs,Ft,a12⟩:=iw HA1.out;clear a0 a5 a6 a7 a8 a9 Fs Ft a12
  go_region_held3 (λY=>Y.cell? ⟨c,2,none⟩=some (.slice av s.atoms.length cv)/\Y.cell? ⟨w.heap.size,1,none⟩=some (.int .i64 (ao n.k))/\Y.cell? ⟨w.heap.size,2,none⟩=some (.string n.s)/\Y.cell? ⟨w.heap.size,3,none⟩=some (.int .i64 n.n)/\Y.cell? ⟨w.heap.size,4,none⟩=some (.int .i64 n.line)) (first|go_keep|(exact⟨by with_reducible assumption,by with_reducible assumption,by with_reducible assumption,by with_reducible assumption,by with_reducible assumption⟩))
   ((go_at_call 156;refine(cN _ c tb (s.rows) (.slice av s.atoms.length cv) s.cl _ 1 n ?_).mono ?_;exact Jf.out.box;intro e w2 fv;obtain rfl:=fv.ret;have z2:=jr fv.box;have z3:=(fv.kept.cell FZ zW).trans a1;have z4:=(fv.kept.cell FZ zW).trans a2;have z5:=(fv.kept.cell FZ zW).trans a3;have z6:=(fv.kept.cell FZ zW).trans a4))
  have L6:=ae (CI.ref (show CI w1.drew c tb s _ from⟨Jf.out.box,Jf.out.own⟩) fv);have F9:=ae ((fv.kept.block w.heap.size FZ zW).trans HA1.out);have uF:=Nat.lt_of_lt_of_le FZ fv.kept.size;have UV:=Nat.lt_of_lt_of_le hXc fv.kept.size;have RW:=ae (og.out.drew.trans fv.kept (λ_ e=>.inl (.inl e)));have nL:=ae (tj.out.iF (KB.out _ RW.out));generalize oS:s.ref (decide ((8:Int)<(s.atoms.length:Nat))) 1 n.line=s3 at*;clear oS fv y2 a1 a2 a3 a4 z2 z3 z4 z5 z6;obtain⟨_,v1,_,_,_,LB,aqZ⟩:=nL.out.cells;obtain⟨a0,a1,a2,a3,a4,a5,a6,a7,a8,a9,Fs,Ft,a12⟩:=iw F9.out;clear a0 a5 a6 a7 a8 a9 Fs Ft a12;have ntc:¬tb=c:=by omega
  have y0:=dt L6.out.1.box
  have CK:=ae (λY hY=>by
   have:=rp Y vv vs.length vs n.s (nL.out.below hY).vsl kz;rw[List.take_length]at this
   exact this)
  generalize vs.any (bK n.s)=bv at*;go_wp2_with fail
  go_region_held3 (λY=>Y.cell? ⟨c,0,none⟩=some (.pointer (some ⟨tb,0,none⟩))/\Y.cell? ⟨tb,1,none⟩=some vv/\Y.cell? ⟨w.heap.size,1,none⟩=some (.int .i64 (ao n.k))/\Y.cell? ⟨w.heap.size,2,none⟩=some (.string n.s)/\Y.cell? ⟨w.heap.size,3,none⟩=some (.int .i64 n.n)/\Y.cell? ⟨w.heap.size,4,none⟩=some (.int .i64 n.line)) (first|go_keep|(exact⟨by with_reducible assumption,by with_reducible assumption,by with_reducible assumption,by with_reducible assumption,by with_reducible assumption,by with_reducible assumption⟩))
   (first
    |(go_at_call 157;refine(CK.out _ ?_).mono ?_;exact⟨rfl,rfl,rfl,Nat.le_refl _,λ_ _=>rfl⟩;rintro e w4 ⟨rfl,er⟩;have q0:=(er.cell UV).trans y0;have q1:=(er.cell LB).trans v1;have q2:=(er.cell uF).trans a1;have q3:=(er.cell uF).trans a2;have q4:=(er.cell uF).trans a3;have q5:=(er.cell uF).trans a4;have yH:=Nat.lt_of_lt_of_le uF er.size;have UT:=Nat.lt_of_lt_of_le LB er.size)
    |(go_at_call 156;refine(cN _ c tb (s3.rows) (.slice av s.atoms.length cv) s3.cl _ 3 n ?_).mono ?_;exact(er.block c UV).trans L6.out.1.box;intro e w5 fP;obtain rfl:=fP.ret;have p0:=dt fP.box;have p1:=(fP.kept.cell UT ntc).trans q1;have p2:=(fP.kept.cell yH zW).trans q2;have p3:=(fP.kept.cell yH zW).trans q3;have p4:=(fP.kept.cell yH zW).trans q4;have p5:=(fP.kept.cell yH zW).trans q5))
  have yG:Below w2.heap.size w2 w4:=⟨er.os,er.tape,er.output,er.size,er.block⟩;have UW:=ae ((L6.out.1.below yG).ref fP);have HA5:=ae ((fP.kept.block w.heap.size yH zW).trans ((er.block w.heap.size uF).trans F9.out));have HW5:=ae ((RW.out.below yG).trans fP.kept (λ_ e=>.inl (.inl e)));clear er yG fP y0 v1 a1 a2 a3 a4 q0 q1 q2 q3 q4 q5 p0 p1 p2 p3 p4 p5 CK;obtain⟨a0,a1,a2,a3,a4,a5,a6,a7,a8,a9,Fs,Ft,a12⟩:=iw HA5.out;clear a0 a1 a2 a3 a4 a5 a6 a7 a8;go_wp2_with fail;refine(ja w5 c tb _ _ _ i UW.out.1.box).mono ?_;intro e w6 Gc;obtain rfl:=Gc.ret;have HR6:=ae (UW.out.1.ref Gc);have HW6:=ae (HW5.out.trans Gc.kept (λ_ e=>.inl (.inl e)));clear Gc a9 Fs Ft a12;go_wp2_with fail;go_end0;exact⟨rfl,HW6.out,⟨_,by rw[tH.out];exact HR6.out.1,HVO.out⟩⟩
 |false=>
  have HAD:Hid (s.addAtom (dm was n o i)={s with atoms:=s.atoms++[dm was n o i]}):=ae (by unfold CS.addAtom;rw[if_neg (by rw[NK.out];simp)]);have zf:=Lib.frozen_of_heap Jf.out.box 2;obtain⟨i0,dl,L8,Jg,Jh⟩:=info_parts Tryz.infoKey;go_wp2_with fail
  go_region_law (refine aD rfl _ _ 204 rfl (c+1) 322 i0 _ 4 48 Tryz.underlying204 dl L8 Jg Jh rfl (by decide) _ s.atoms.length (s.atoms.flatMap AK.cells) rfl (by exact ah Jf.out.own ⟨rfl,rfl,rfl,by simp,λk hk=>Below.heap_alloc _ _ _ hk⟩) ⟨_,0,none⟩ 1 1 [.bool was.isSome,.string n.s,.string o.s,.int .i64 i.n] rfl rfl (aF _ _ (by simp) [_,_,_,_] _) (by intro u hu;simp at hu;rcases hu with rfl|rfl|rfl|rfl<;>rfl) (by unfold maxLen;omega) (by omega) (by simp;omega) ?_;intro v' w7 bE ax bu;obtain⟨Ge,Gf,rfl,_,_⟩:=aj bE;obtain⟨jy,qg,e5,e6⟩:=CI.add (k:=dm was n o i) (Jf.out.below (by exact⟨rfl,rfl,rfl,by simp,λk hk=>Below.heap_alloc _ _ _ hk⟩)) ax bE;have jc:=ae jy;have aq2:=ae qg;have Xz:=ae ax;have HAT:=ae bu;clear jy qg bE ax bu)
  all_goals
   have HA7:=ae ((CI.Fl (k:=w.heap.size) (c:=c) (v:=.slice Ge (s.atoms.length+1) Gf) Xz.out (by simp;omega) (λe=>by have:=(HVB.out _ e).2;omega) (by omega)).trans (by exact(Below.heap_alloc _ _ _ (by omega)).trans HA1.out));have HW7:=ae (((by exact⟨og.out.os,og.out.tape,og.out.output,(og.out.alloc _).size,(og.out.alloc _).block⟩:Kp (CF c (.slice av s.atoms.length cv)) w _).grown Xz.out (λ_ e=>.inl (.inr e))).setCell (p:=⟨c,2,none⟩) (.inl (.inl rfl)) (.slice Ge (s.atoms.length+1) Gf))
   have HVO:Hid (∀k,(Value.slice Ge (s.atoms.length+1) Gf).ownBlock=some k->(Value.slice av s.atoms.length cv).ownBlock=some k\/w.heap.size<=k):=ae (λk e=>by
    rcases HAT.out with h|h
    ·exact .inl (h▸e)
    ·right;rw[h]at e;simp at e;omega)
   clear z2 z3 z4 z5 z6 zf e5 e6 Xz aq2 HAT;generalize hX:w7.setCell ⟨c,2,none⟩ (.slice Ge (s.atoms.length+1) Gf)=X at*;clear hX;generalize hL1:s.atoms.length+1=L1 at*;generalize gI:({s with atoms:=s.atoms++[dm was n o i]}:CS)=s1 at*;have HL1:Hid (s1.atoms.length=L1):=ae (by rw[<-gI,<-hL1];simp);clear gI hL1;go_wp2_with fail
   have tH:=ae (show dJ vs s (dm was n o i) n.line i=((s1.ref (decide ((8:Int)<(L1))) 1 n.line).ref (!(vs.any (bK n.s))) 3 n.line).ref (iA i.n) 4 i.line by
    have e8:decide ((8:Int)<(L1))=decide (8<L1):=by rw[Bool.eq_iff_iff];simp;omega
    rw[e8];simp only [dJ,HAD.out,HL1.out];rfl)
   have FZ:=(Array.getElem?_eq_some_iff.1 HA7.out).1;have hXc:=jc.out.lt;have y2:=jr jc.out.box;have zW:¬w.heap.size=c:=by omega
   obtain⟨a0,a1,a2,a3,a4,a5,a6,a7,a8,a9,Fs,Ft,a12⟩:=iw HA7.out;clear a0 a5 a6 a7 a8 a9 Fs Ft a12
   go_region_held3 (λY=>Y.cell? ⟨c,2,none⟩=some (.slice Ge L1 Gf)/\Y.cell? ⟨w.heap.size,1,none⟩=some (.int .i64 (ao n.k))/\Y.cell? ⟨w.heap.size,2,none⟩=some (.string n.s)/\Y.cell? ⟨w.heap.size,3,none⟩=some (.int .i64 n.n)/\Y.cell? ⟨w.heap.size,4,none⟩=some (.int .i64 n.line)) (first|go_keep|(exact⟨by with_reducible assumption,by with_reducible assumption,by with_reducible assumption,by with_reducible assumption,by with_reducible assumption⟩))
    ((go_at_call 156;refine(cN _ c tb (s1.rows) (.slice Ge L1 Gf) s1.cl _ 1 n ?_).mono ?_;exact jc.out.box;intro e w2 fv;obtain rfl:=fv.ret;have z2:=jr fv.box;have z3:=(fv.kept.cell FZ zW).trans a1;have z4:=(fv.kept.cell FZ zW).trans a2;have z5:=(fv.kept.cell FZ zW).trans a3;have z6:=(fv.kept.cell FZ zW).trans a4))
   have L6:=ae (CI.ref (show CI X.drew c tb s1 _ from⟨jc.out.box,jc.out.own⟩) fv);have F9:=ae ((fv.kept.block w.heap.size FZ zW).trans HA7.out);have uF:=Nat.lt_of_lt_of_le FZ fv.kept.size;have UV:=Nat.lt_of_lt_of_le hXc fv.kept.size;have RW:=ae (HW7.out.drew.trans fv.kept (λ_ e=>.inl (.inl e)));have nL:=ae (tj.out.iF (KB.out _ RW.out));generalize oS:s1.ref (decide ((8:Int)<(L1:Nat))) 1 n.line=s3 at*;clear oS fv y2 a1 a2 a3 a4 z2 z3 z4 z5 z6;obtain⟨_,v1,_,_,_,LB,aqZ⟩:=nL.out.cells;obtain⟨a0,a1,a2,a3,a4,a5,a6,a7,a8,a9,Fs,Ft,a12⟩:=iw F9.out;clear a0 a5 a6 a7 a8 a9 Fs Ft a12;have ntc:¬tb=c:=by omega
   have y0:=dt L6.out.1.box
   have CK:=ae (λY hY=>by
    have:=rp Y vv vs.length vs n.s (nL.out.below hY).vsl kz;rw[List.take_length]at this
    exact this)
   generalize vs.any (bK n.s)=bv at*;go_wp2_with fail
   go_region_held3 (λY=>Y.cell? ⟨c,0,none⟩=some (.pointer (some ⟨tb,0,none⟩))/\Y.cell? ⟨tb,1,none⟩=some vv/\Y.cell? ⟨w.heap.size,1,none⟩=some (.int .i64 (ao n.k))/\Y.cell? ⟨w.heap.size,2,none⟩=some (.string n.s)/\Y.cell? ⟨w.heap.size,3,none⟩=some (.int .i64 n.n)/\Y.cell? ⟨w.heap.size,4,none⟩=some (.int .i64 n.line)) (first|go_keep|(exact⟨by with_reducible assumption,by with_reducible assumption,by with_reducible assumption,by with_reducible assumption,by with_reducible assumption,by with_reducible assumption⟩))
    (first
     |(go_at_call 157;refine(CK.out _ ?_).mono ?_;exact⟨rfl,rfl,rfl,Nat.le_refl _,λ_ _=>rfl⟩;rintro e w4 ⟨rfl,er⟩;have q0:=(er.cell UV).trans y0;have q1:=(er.cell LB).trans v1;have q2:=(er.cell uF).trans a1;have q3:=(er.cell uF).trans a2;have q4:=(er.cell uF).trans a3;have q5:=(er.cell uF).trans a4;have yH:=Nat.lt_of_lt_of_le uF er.size;have UT:=Nat.lt_of_lt_of_le LB er.size)
     |(go_at_call 156;refine(cN _ c tb (s3.rows) (.slice Ge L1 Gf) s3.cl _ 3 n ?_).mono ?_;exact(er.block c UV).trans L6.out.1.box;intro e w5 fP;obtain rfl:=fP.ret;have p0:=dt fP.box;have p1:=(fP.kept.cell UT ntc).trans q1;have p2:=(fP.kept.cell yH zW).trans q2;have p3:=(fP.kept.cell yH zW).trans q3;have p4:=(fP.kept.cell yH zW).trans q4;have p5:=(fP.kept.cell yH zW).trans q5))
   have yG:Below w2.heap.size w2 w4:=⟨er.os,er.tape,er.output,er.size,er.block⟩;have UW:=ae ((L6.out.1.below yG).ref fP);have HA5:=ae ((fP.kept.block w.heap.size yH zW).trans ((er.block w.heap.size uF).trans F9.out));have HW5:=ae ((RW.out.below yG).trans fP.kept (λ_ e=>.inl (.inl e)));clear er yG fP y0 v1 a1 a2 a3 a4 q0 q1 q2 q3 q4 q5 p0 p1 p2 p3 p4 p5 CK;obtain⟨a0,a1,a2,a3,a4,a5,a6,a7,a8,a9,Fs,Ft,a12⟩:=iw HA5.out;clear a0 a1 a2 a3 a4 a5 a6 a7 a8;go_wp2_with fail;refine(ja w5 c tb _ _ _ i UW.out.1.box).mono ?_;intro e w6 Gc;obtain rfl:=Gc.ret;have HR6:=ae (UW.out.1.ref Gc);have HW6:=ae (HW5.out.trans Gc.kept (λ_ e=>.inl (.inl e)));clear Gc a9 Fs Ft a12;go_wp2_with fail;go_end0;exact⟨rfl,HW6.out,⟨_,by rw[tH.out];exact HR6.out.1,HVO.out⟩⟩
