/- Walks of the checker's refuse and checkBound. -/
import Derived.Test.YtdjaiolfdbamcaaGreatDoorZWPar13
import Derived.Deep.LoopGhost
set_option maxRecDepth 20000
set_option maxHeartbeats 400000
namespace Go.Proofs.YtdjaiolfdbamcaaGreatDoor
section
open Go.RowKit
def chkC (tb:Nat) (rows:Int) (va:Value) (code line:Int):Array Value:=#[.pointer (some ⟨tb,0,none⟩),.int .i64 rows,va,.int .i64 code,.int .i64 line,.string ⟨#[]⟩,.slice none 0 0,.slice none 0 0]
def refuseP (bad:Bool) (code line:Int) (cl:Int×Int):Int×Int:=if bad && cl.1 == 0 then (code,line) else cl
structure ChkR (w:World) (c tb:Nat) (rows:Int) (va:Value) (cl:Int×Int) (e:Ending) (w':World):Prop where
 ret:e=.returned (.tuple #[])
 kept:Kp (fun k=>k=c) w w'
 box:w'.heap[c]? = some (.cells (chkC tb rows va cl.1 cl.2) 206 (0,0))
theorem refuse_any (w:World) (c tb:Nat) (rows:Int) (va:Value) (cl:Int×Int) (bad:Bool) (code:Int) (t:Hx.Tok) (h:w.heap[c]? = some (.cells (chkC tb rows va cl.1 cl.2) 206 (0,0))) :
  Calls Tryz.prog 156 #[.pointer (some ⟨c,0,none⟩),.bool bad,.int .i64 code,aggA t] w fun e w'=>ChkR w c tb rows va (refuseP bad code t.line cl) e w':=by
 obtain ⟨cc,ll⟩:=cl;have HD:=hide h;have hcl:c<w.heap.size:=(Array.getElem?_eq_some_iff.1 h).1;have x3:w.cell? ⟨c,3,none⟩=some (.int .i64 cc):=Lib.cell_of_heap h 3;have x4:w.cell? ⟨c,4,none⟩=some (.int .i64 ll):=Lib.cell_of_heap h 4;have x5:w.cell? ⟨c,5,none⟩=some (.string ⟨#[]⟩):=Lib.cell_of_heap h 5;have x6:w.cell? ⟨c,6,none⟩=some (.slice none 0 0):=Lib.cell_of_heap h 6;have x7:w.cell? ⟨c,7,none⟩=some (.slice none 0 0):=Lib.cell_of_heap h 7;have g3:w.frozen? ⟨c,3,none⟩=false:=Lib.frozen_of_heap h 3;have g4:w.frozen? ⟨c,4,none⟩=false:=Lib.frozen_of_heap h 4;have g5:w.frozen? ⟨c,5,none⟩=false:=Lib.frozen_of_heap h 5;have g6:w.frozen? ⟨c,6,none⟩=false:=Lib.frozen_of_heap h 6;have g7:w.frozen? ⟨c,7,none⟩=false:=Lib.frozen_of_heap h 7;have hB:∀ o,(w.alloc o).heap[c]? = w.heap[c]? := fun o=>((Below.refl w.heap.size w).alloc (Nat.le_refl _) o).block c hcl
 have HB:=hide hB;clear h hB;rw [aggA_eq];obtain ⟨kd,hkd⟩ : ∃ kd,kd=kindA t.k:=⟨_,rfl⟩;rw [<- hkd];clear hkd;go_enter Tryz.func156,Tryz.ntmps156
 cases bad with
 | false =>
  go_wp2_with fail;go_end0;exact ⟨rfl,(Kp.refl _ _).alloc _,(HB.out _).trans HD.out⟩
 | true =>
  cases h0:(cc == 0) with
  | false =>
   have HR:Hid (refuseP true code t.line (cc,ll)=(cc,ll)):=hide (by simp [refuseP,h0]);go_wp2_with fail;go_end0;rw [HR.out];exact ⟨rfl,(Kp.refl _ _).alloc _,(HB.out _).trans HD.out⟩
  | true =>
   have HR:Hid (refuseP true code t.line (cc,ll)=(code,(t.line:Int))):=hide (by simp [refuseP,h0]);go_wp2_with fail;go_end0;rw [HR.out];have hk:Kp (fun k=>k=c) w (((((w.setCell ⟨c,3,none⟩ (.int .i64 code)).setCell ⟨c,4,none⟩ (.int .i64 t.line)).setCell ⟨c,5,none⟩ (.string ⟨#[]⟩)).setCell ⟨c,6,none⟩ (.slice none 0 0)).setCell ⟨c,7,none⟩ (.slice none 0 0)) :=
    (((((Kp.refl (fun k=>k=c) w).setCell (p:=⟨c,3,none⟩) (.inl rfl) _).setCell (p:=⟨c,4,none⟩) (.inl rfl) _).setCell (p:=⟨c,5,none⟩) (.inl rfl) _).setCell (p:=⟨c,6,none⟩) (.inl rfl) _).setCell (p:=⟨c,7,none⟩) (.inl rfl) _
   have hs:=set_heap (o:=7) (v:=.slice none 0 0) (set_heap (o:=6) (v:=.slice none 0 0) (set_heap (o:=5) (v:=.string ⟨#[]⟩) (set_heap (o:=4) (v:=.int .i64 t.line) (set_heap (o:=3) (v:=.int .i64 code) HD.out))));exact ⟨rfl,hk.alloc _,(((Below.refl _ _).alloc (Nat.le_refl _) _).block c (Array.getElem?_eq_some_iff.1 hs).1).trans hs⟩
def badB (n:Int):Bool:=decide (1000<n) || decide (n < -1000)
theorem checkBound_any (w:World) (c tb:Nat) (rows:Int) (va:Value) (cl:Int×Int) (t:Hx.Tok) (h:w.heap[c]? = some (.cells (chkC tb rows va cl.1 cl.2) 206 (0,0))) :
  Calls Tryz.prog 158 #[.pointer (some ⟨c,0,none⟩),aggA t] w fun e w'=>ChkR w c tb rows va (refuseP (badB t.n) 4 t.line cl) e w':=by
 have hcl:c<w.heap.size:=(Array.getElem?_eq_some_iff.1 h).1
 have RF:∀ o bad,Hid (Calls Tryz.prog 156 #[.pointer (some ⟨c,0,none⟩),.bool bad,.int .i64 4,.agg #[.int .i64 (kindA t.k),.string t.s,.int .i64 t.n,.int .i64 t.line]] (w.alloc o) fun e w'=>ChkR w c tb rows va (refuseP bad 4 t.line cl) e w'):=fun o bad=>hide (by
  have hB:=((Below.refl w.heap.size w).alloc (Nat.le_refl _) o);have:=refuse_any (w.alloc o) c tb rows va cl bad 4 t ((hB.block c hcl).trans h);refine Calls.mono this ?_;intro e w' hr
  exact ⟨hr.ret,((Kp.refl _ w).alloc o).trans hr.kept (fun _ e=>.inl e),hr.box⟩)
 clear h;rw [aggA_eq];go_enter Tryz.func158,Tryz.ntmps158
 by_cases h1:1000<t.n
 ·have hb:badB t.n=true:=by simp [badB,h1]
  rw [hb];go_wp2_with fail;refine (RF _ true).out.mono ?_;intro e w1 hr;obtain rfl:=hr.ret;have HR:=hide hr;clear hr;go_wp2_with fail;go_end0;exact HR.out
 ·have hb:badB t.n=decide (t.n < -1000):=by simp [badB,h1]
  rw [hb];clear hb;go_wp2_with fail;refine (RF _ (decide (t.n < -1000))).out.mono ?_;intro e w1 hr;obtain rfl:=hr.ret;have HR:=hide hr;clear hr;go_wp2_with fail;go_end0;exact HR.out
end
section
open Go.RowKit
def sameV (n:ByteArray) (v:VarA):Bool:=v.name.s.toList == n.toList
theorem varEq_any (w:World) (va:VarA) (nb:Nat) (n:ByteArray) (hn:w.cell? ⟨nb,0,none⟩=some (.string n)) :
  Calls Tryz.prog 201 #[.agg (varC va).toArray,.pointer (some ⟨nb,0,none⟩)] w fun e w'=>e=.returned (.bool (sameV n va))/\Below w.heap.size w w':=by
 have hnl:nb<w.heap.size:=World.block_lt_of_cell? w ⟨nb,0,none⟩ hn;rw [show (varC va).toArray=#[.int .i64 (kindA va.name.k),.string va.name.s,.int .i64 va.name.n,.int .i64 va.name.line,.int .i64 (kindA va.first.k),.string va.first.s,.int .i64 va.first.n,.int .i64 va.first.line,.int .i64 (kindA va.last.k),.string va.last.s,.int .i64 va.last.n,.int .i64 va.last.line] from rfl,sameV];go_enter Tryz.func201,Tryz.ntmps201;go_wp2_with fail;go_ret;exact ⟨rfl,(Below.refl _ _).alloc (Nat.le_refl _) _⟩
theorem indexVar_any (w:World) (g cap m nb:Nat) (vs:List VarA) (n:ByteArray) (hml:m<=vs.length) (hg:0<m->g<w.heap.size) (hv:∀ i (hi:i<m),∀ k,k<12->w.cell? ⟨g,i*12+k,none⟩=(varC (vs[i]'(by omega)))[k]?) (hn:w.cell? ⟨nb,0,none⟩=some (.string n)) (hm:m<=3001) :
  Calls Tryz.prog 224 #[.slice (some ⟨g,0,none⟩) m cap,.func (.func 201) #[] #[.pointer (some ⟨nb,0,none⟩)]] w fun e w'=>∃ r:Int,e=.returned (.int .i64 r)/\decide (0<=r)=(vs.take m).any (sameV n)/\Below w.heap.size w w':=by
 have HV:=hide hv;have hnl:nb<w.heap.size:=World.block_lt_of_cell? w ⟨nb,0,none⟩ hn;have htl:(vs.take m).length=m:=by simp;omega
 have HTL:=hide htl;clear hv htl;go_enter Tryz.func224,Tryz.ntmps224;go_wp2_with fail
 go_loopw [8] (fun v8 wr=>∃ k:Nat,k<=m/\v8=.int .i64 k/\Below w.heap.size w wr/\(vs.take m).any (sameV n)=((vs.take m).drop k).any (sameV n)) (fun v8 _=>m-(intOf v8).toNat)
 case atStart=>exact ⟨0,by omega,rfl,Below.refl _ _,rfl⟩
 case round =>
  obtain ⟨k,hk,rfl,hb,ha⟩:=hrel;have HA:=hide ha;have HB:=hide hb;have hsz:=hb.size;clear ha
  by_cases hlt:k<m
  ·have hc:=HV.out k hlt
   have hgl:=hg (by omega);have hl:k<vs.length:=by omega
   have hki:(k:Int)<m:=by omega
   have hk0:(0:Int)<=k:=by omega
   have x0:wr.cell? ⟨g,k*12,none⟩=some (.int .i64 (kindA vs[k].name.k)):=((hb.cell hgl).trans (hc 0 (by omega)));have x1:wr.cell? ⟨g,k*12+1,none⟩=some (.string vs[k].name.s):=((hb.cell hgl).trans (hc 1 (by omega)));have x2:wr.cell? ⟨g,k*12+2,none⟩=some (.int .i64 vs[k].name.n):=((hb.cell hgl).trans (hc 2 (by omega)));have x3:wr.cell? ⟨g,k*12+3,none⟩=some (.int .i64 vs[k].name.line):=((hb.cell hgl).trans (hc 3 (by omega)));have x4:wr.cell? ⟨g,k*12+4,none⟩=some (.int .i64 (kindA vs[k].first.k)):=((hb.cell hgl).trans (hc 4 (by omega)));have x5:wr.cell? ⟨g,k*12+5,none⟩=some (.string vs[k].first.s):=((hb.cell hgl).trans (hc 5 (by omega)));have x6:wr.cell? ⟨g,k*12+6,none⟩=some (.int .i64 vs[k].first.n):=((hb.cell hgl).trans (hc 6 (by omega)));have x7:wr.cell? ⟨g,k*12+7,none⟩=some (.int .i64 vs[k].first.line):=((hb.cell hgl).trans (hc 7 (by omega)));have x8:wr.cell? ⟨g,k*12+8,none⟩=some (.int .i64 (kindA vs[k].last.k)):=((hb.cell hgl).trans (hc 8 (by omega)));have x9:wr.cell? ⟨g,k*12+9,none⟩=some (.string vs[k].last.s):=((hb.cell hgl).trans (hc 9 (by omega)));have x10:wr.cell? ⟨g,k*12+10,none⟩=some (.int .i64 vs[k].last.n):=((hb.cell hgl).trans (hc 10 (by omega)));have x11:wr.cell? ⟨g,k*12+11,none⟩=some (.int .i64 vs[k].last.line):=((hb.cell hgl).trans (hc 11 (by omega)));have hnr:=(hb.cell (p:=⟨nb,0,none⟩) hnl).trans hn;have HN:=hide hnr;have hgk:(vs.take m)[k]'(by rw [HTL.out];exact hlt)=vs[k]:=by simp
   have HGK:=hide hgk;clear hc hb hnr hgk;go_wp2_with fail;refine (varEq_any wr vs[k] nb n HN.out).mono ?_;rintro e w1 ⟨rfl,hb1⟩;have HB1:=hide (HB.out.trans (hb1.mono HB.out.size));clear hb1
   cases hq:sameV n vs[k] with
   | true =>
    have HQ:=hide hq;clear hq;go_wp2_with fail;go_ret;refine ⟨k,rfl,?_,HB1.out⟩;rw [HA.out,Hx.any_hit (sameV n) (vs.take m) k (by rw [HTL.out];exact hlt) (by rw [HGK.out];exact HQ.out)];simp
   | false =>
    have HQ:=hide hq;clear hq;go_wp2_with fail
    go_roundw
    case rel=>exact ⟨k+1,by omega,by go_num,HB1.out,by rw [HA.out,Hx.any_step (sameV n) (vs.take m) k (by rw [HTL.out];exact hlt) (by rw [HGK.out];exact HQ.out)]⟩
    case measure=>simp [intOf];omega
  ·go_wp2_with fail
   go_ret;refine ⟨-1,rfl,?_,HB.out⟩;rw [HA.out,Hx.any_end (sameV n) (vs.take m) k (by rw [HTL.out];omega)];rfl
end
section
open Go.RowKit
def VSl (w:World) (sv:Value) (m:Nat) (vs:List VarA):Prop :=
 (sv=.slice none 0 0/\m=0)\/∃ (g cap:Nat) (hml:m<=vs.length),sv=.slice (some ⟨g,0,none⟩) m cap/\(0<m->g<w.heap.size)/\∀ i (hi:i<m),∀ k,k<12->w.cell? ⟨g,i*12+k,none⟩=(varC (vs[i]'(by omega)))[k]?
theorem VSl.below {w w':World} {sv:Value} {m:Nat} {vs:List VarA} (h:VSl w sv m vs) (hb:Below w.heap.size w w'):VSl w' sv m vs:=by
 rcases h with h | ⟨g,cap,hml,e,hg,hc⟩
 ·exact .inl h
 ·exact .inr ⟨g,cap,hml,e,fun h0=>Nat.lt_of_lt_of_le (hg h0) hb.size,fun i hi k hk=>(hb.cell (hg (by omega))).trans (hc i hi k hk)⟩
theorem indexVar_nil (w:World) (nb:Nat) :
  Calls Tryz.prog 224 #[.slice none 0 0,.func (.func 201) #[] #[.pointer (some ⟨nb,0,none⟩)]] w fun e w'=>e=.returned (.int .i64 (-1))/\Below w.heap.size w w':=by
 go_enter Tryz.func224,Tryz.ntmps224;go_wp2_with fail
 go_loopw [8] (fun v8 wr=>v8=.int .i64 0/\Below w.heap.size w wr) (fun _ _=>0)
 case atStart=>exact ⟨rfl,Below.refl _ _⟩
 case round =>
  obtain ⟨rfl,hb⟩:=hrel;go_wp2_with fail;go_ret;exact ⟨rfl,hb⟩
theorem indexVar_all (w:World) (sv:Value) (m nb:Nat) (vs:List VarA) (n:ByteArray) (h:VSl w sv m vs) (hn:w.cell? ⟨nb,0,none⟩=some (.string n)) (hm:m<=3001) :
  Calls Tryz.prog 224 #[sv,.func (.func 201) #[] #[.pointer (some ⟨nb,0,none⟩)]] w fun e w'=>∃ r:Int,e=.returned (.int .i64 r)/\decide (0<=r)=(vs.take m).any (sameV n)/\Below w.heap.size w w':=by
 rcases h with ⟨rfl,rfl⟩ | ⟨g,cap,hml,rfl,hg,hc⟩
 ·refine Calls.mono (indexVar_nil w nb) ?_
  rintro e w' ⟨rfl,hb⟩;exact ⟨-1,rfl,by simp,hb⟩
 ·exact indexVar_any w g cap m nb vs n hml hg hc hn hm
theorem containsVar_any (w:World) (sv:Value) (m nb:Nat) (vs:List VarA) (n:ByteArray) (h:VSl w sv m vs) (hn:w.cell? ⟨nb,0,none⟩=some (.string n)) (hm:m<=3001) :
  Calls Tryz.prog 200 #[sv,.func (.func 201) #[] #[.pointer (some ⟨nb,0,none⟩)]] w fun e w'=>e=.returned (.bool ((vs.take m).any (sameV n)))/\Below w.heap.size w w':=by
 have HI:=hide (indexVar_all w sv m nb vs n h hn hm);clear h;go_enter Tryz.func200,Tryz.ntmps200;go_wp2_with fail;refine HI.out.mono ?_;rintro e w1 ⟨r,rfl,hr,hb⟩;have HR:=hide hr;have HB:=hide hb;clear hr hb;go_wp2_with fail;go_ret;exact ⟨ret_bool HR.out,HB.out⟩
theorem hasVar_any (w:World) (sv:Value) (m:Nat) (vs:List VarA) (n:ByteArray) (h:VSl w sv m vs) (hm:m<=3001) :
  Calls Tryz.prog 157 #[sv,.string n] w fun e w'=>e=.returned (.bool ((vs.take m).any (sameV n)))/\Below w.heap.size w w':=by
 have HC:=hide (containsVar_any (w.alloc (.cells #[.string n] 9)) sv m w.heap.size vs n (h.below ((Below.refl _ _).alloc (Nat.le_refl _) _)) (by simp) hm);clear h;go_enter Tryz.func157,Tryz.ntmps157;go_wp2_with fail;refine HC.out.mono ?_;rintro e w1 ⟨rfl,hb⟩;have HB:=hide hb;clear hb;go_wp2_with fail;go_ret;exact ⟨rfl,((Below.refl w.heap.size w).alloc (Nat.le_refl _) _).trans (HB.out.mono (by simp))⟩
end
section
open Go.RowKit
def sameM (n:ByteArray) (g:MG):Bool:=g.a.name.s.toList == n.toList
theorem modeEq_any (w:World) (mb nb:Nat) (s n:ByteArray) (hs:w.cell? ⟨mb,1,none⟩=some (.string s)) (hn:w.cell? ⟨nb,0,none⟩=some (.string n)) :
  Calls Tryz.prog 203 #[.pointer (some ⟨mb,0,none⟩),.pointer (some ⟨nb,0,none⟩)] w fun e w'=>e=.returned (.bool (s.toList == n.toList))/\Below w.heap.size w w':=by
 go_enter Tryz.func203,Tryz.ntmps203;go_wp2_with fail
 go_quiet (fail)
 go_wp2_with fail;go_ret;exact ⟨rfl,⟨rfl,rfl,rfl,Nat.le_refl _,fun _ _=>rfl⟩⟩
def MSl (w:World) (sv:Value) (m:Nat) (gs:List MG):Prop :=
 (sv=.slice none 0 0/\m=0)\/∃ (g cap:Nat) (hml:m<=gs.length),sv=.slice (some ⟨g,0,none⟩) m cap/\(0<m->g<w.heap.size)/\∀ i (hi:i<m),w.cell? ⟨g,i,none⟩=some (.pointer (some ⟨(gs[i]'(by omega)).blk,0,none⟩))/\w.cell? ⟨(gs[i]'(by omega)).blk,1,none⟩=some (.string (gs[i]'(by omega)).a.name.s)/\(gs[i]'(by omega)).blk<w.heap.size
theorem MSl.below {w w':World} {sv:Value} {m:Nat} {gs:List MG} (h:MSl w sv m gs) (hb:Below w.heap.size w w'):MSl w' sv m gs:=by
 rcases h with h | ⟨g,cap,hml,e,hg,hc⟩
 ·exact .inl h
 ·exact .inr ⟨g,cap,hml,e,fun h0=>Nat.lt_of_lt_of_le (hg h0) hb.size,fun i hi=>⟨(hb.cell (hg (by omega))).trans (hc i hi).1,(hb.cell (hc i hi).2.2).trans (hc i hi).2.1,Nat.lt_of_lt_of_le (hc i hi).2.2 hb.size⟩⟩
theorem indexMode_any (w:World) (g cap m nb:Nat) (gs:List MG) (n:ByteArray) (hml:m<=gs.length) (hg:0<m->g<w.heap.size)
  (hv:∀ i (hi:i<m),w.cell? ⟨g,i,none⟩=some (.pointer (some ⟨(gs[i]'(by omega)).blk,0,none⟩))/\w.cell? ⟨(gs[i]'(by omega)).blk,1,none⟩=some (.string (gs[i]'(by omega)).a.name.s)/\(gs[i]'(by omega)).blk<w.heap.size) (hn:w.cell? ⟨nb,0,none⟩=some (.string n)) (hm:m<=3001) :
  Calls Tryz.prog 168 #[.slice (some ⟨g,0,none⟩) m cap,.func (.func 203) #[] #[.pointer (some ⟨nb,0,none⟩)]] w fun e w'=>∃ r:Int,e=.returned (.int .i64 r)/\decide (0<=r)=(gs.take m).any (sameM n)/\Below w.heap.size w w':=by
 have HV:=hide hv;have hnl:nb<w.heap.size:=World.block_lt_of_cell? w ⟨nb,0,none⟩ hn;have htl:(gs.take m).length=m:=by simp;omega
 have HTL:=hide htl;clear hv htl;go_enter Tryz.func168,Tryz.ntmps168;go_wp2_with fail
 go_loopw [8] (fun v8 wr=>∃ k:Nat,k<=m/\v8=.int .i64 k/\Below w.heap.size w wr/\(gs.take m).any (sameM n)=((gs.take m).drop k).any (sameM n)) (fun v8 _=>m-(intOf v8).toNat)
 case atStart=>exact ⟨0,by omega,rfl,Below.refl _ _,rfl⟩
 case round =>
  obtain ⟨k,hk,rfl,hb,ha⟩:=hrel;have HA:=hide ha;have HB:=hide hb;have hsz:=hb.size;clear ha
  by_cases hlt:k<m
  ·obtain ⟨c0,c1,c2⟩:=HV.out k hlt
   have hgl:=hg (by omega);have hl:k<gs.length:=by omega
   have hki:(k:Int)<m:=by omega
   have hk0:(0:Int)<=k:=by omega
   have x0:=(hb.cell (p:=⟨g,k,none⟩) hgl).trans c0;have x1:=(hb.cell (p:=⟨gs[k].blk,1,none⟩) c2).trans c1;have hnr:=(hb.cell (p:=⟨nb,0,none⟩) hnl).trans hn;have HN:=hide hnr;have HX:=hide x1;have hgk:(gs.take m)[k]'(by rw [HTL.out];exact hlt)=gs[k]:=by simp
   have HGK:=hide hgk;clear c0 c1 hb hnr hgk x1;go_wp2_with fail;refine (modeEq_any wr gs[k].blk nb gs[k].a.name.s n HX.out HN.out).mono ?_;rintro e w1 ⟨rfl,hb1⟩;have HB1:=hide (HB.out.trans (hb1.mono HB.out.size));clear hb1
   cases hq:(gs[k].a.name.s.toList == n.toList) with
   | true =>
    have HQ:Hid (sameM n gs[k]=true):=hide hq;clear hq;go_wp2_with fail;go_ret;refine ⟨k,rfl,?_,HB1.out⟩;rw [HA.out,Hx.any_hit (sameM n) (gs.take m) k (by rw [HTL.out];exact hlt) (by rw [HGK.out];exact HQ.out)];simp
   | false =>
    have HQ:Hid (sameM n gs[k]=false):=hide hq;clear hq;go_wp2_with fail
    go_roundw
    case rel=>exact ⟨k+1,by omega,by go_num,HB1.out,by rw [HA.out,Hx.any_step (sameM n) (gs.take m) k (by rw [HTL.out];exact hlt) (by rw [HGK.out];exact HQ.out)]⟩
    case measure=>simp [intOf];omega
  ·go_wp2_with fail
   go_ret;refine ⟨-1,rfl,?_,HB.out⟩;rw [HA.out,Hx.any_end (sameM n) (gs.take m) k (by rw [HTL.out];omega)];rfl
theorem indexMode_nil (w:World) (nb:Nat) :
  Calls Tryz.prog 168 #[.slice none 0 0,.func (.func 203) #[] #[.pointer (some ⟨nb,0,none⟩)]] w fun e w'=>e=.returned (.int .i64 (-1))/\Below w.heap.size w w':=by
 go_enter Tryz.func168,Tryz.ntmps168;go_wp2_with fail
 go_loopw [8] (fun v8 wr=>v8=.int .i64 0/\Below w.heap.size w wr) (fun _ _=>0)
 case atStart=>exact ⟨rfl,Below.refl _ _⟩
 case round =>
  obtain ⟨rfl,hb⟩:=hrel;go_wp2_with fail;go_ret;exact ⟨rfl,hb⟩
theorem indexMode_all (w:World) (sv:Value) (m nb:Nat) (gs:List MG) (n:ByteArray) (h:MSl w sv m gs) (hn:w.cell? ⟨nb,0,none⟩=some (.string n)) (hm:m<=3001) :
  Calls Tryz.prog 168 #[sv,.func (.func 203) #[] #[.pointer (some ⟨nb,0,none⟩)]] w fun e w'=>∃ r:Int,e=.returned (.int .i64 r)/\decide (0<=r)=(gs.take m).any (sameM n)/\Below w.heap.size w w':=by
 rcases h with ⟨rfl,rfl⟩ | ⟨g,cap,hml,rfl,hg,hc⟩
 ·refine Calls.mono (indexMode_nil w nb) ?_
  rintro e w' ⟨rfl,hb⟩;exact ⟨-1,rfl,by simp,hb⟩
 ·exact indexMode_any w g cap m nb gs n hml hg hc hn hm
theorem containsMode_any (w:World) (sv:Value) (m nb:Nat) (gs:List MG) (n:ByteArray) (h:MSl w sv m gs) (hn:w.cell? ⟨nb,0,none⟩=some (.string n)) (hm:m<=3001) :
  Calls Tryz.prog 202 #[sv,.func (.func 203) #[] #[.pointer (some ⟨nb,0,none⟩)]] w fun e w'=>e=.returned (.bool ((gs.take m).any (sameM n)))/\Below w.heap.size w w':=by
 have HI:=hide (indexMode_all w sv m nb gs n h hn hm);clear h;go_enter Tryz.func202,Tryz.ntmps202;go_wp2_with fail;refine HI.out.mono ?_;rintro e w1 ⟨r,rfl,hr,hb⟩;have HR:=hide hr;have HB:=hide hb;clear hr hb;go_wp2_with fail;go_ret;exact ⟨ret_bool HR.out,HB.out⟩
theorem hasMode_any (w:World) (sv:Value) (m:Nat) (gs:List MG) (n:ByteArray) (h:MSl w sv m gs) (hm:m<=3001) :
  Calls Tryz.prog 159 #[sv,.string n] w fun e w'=>e=.returned (.bool ((gs.take m).any (sameM n)))/\Below w.heap.size w w':=by
 have HC:=hide (containsMode_any (w.alloc (.cells #[.string n] 9)) sv m w.heap.size gs n (h.below ((Below.refl _ _).alloc (Nat.le_refl _) _)) (by simp) hm);clear h;go_enter Tryz.func159,Tryz.ntmps159;go_wp2_with fail;refine HC.out.mono ?_;rintro e w1 ⟨rfl,hb⟩;have HB:=hide hb;clear hb;go_wp2_with fail;go_ret;exact ⟨rfl,((Below.refl w.heap.size w).alloc (Nat.le_refl _) _).trans (HB.out.mono (by simp))⟩
end
end Go.Proofs.YtdjaiolfdbamcaaGreatDoor
