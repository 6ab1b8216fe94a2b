/- The walk of appendRow. -/
import Derived.Test.YtdjaiolfdbamcaaGreatDoorZWCE3
import Derived.Test.YtdjaiolfdbamcaaGreatDoorZMRa
set_option maxRecDepth 20000
set_option maxHeartbeats 4000000
namespace Go.Proofs.YtdjaiolfdbamcaaGreatDoor
variable {X Y w:World}{B b c g n:Nat}{xs:List Value}{gs:List MG}
section
open Go.RowKit
attribute [local go_sem↓] Go.wp_at_zero Go.wp_at_succ
def rOk(vs:List az)(gs:List MG)(r:Hx.bD):Prop:=Ke vs r.g/\∀a,r.dest=some a->gs.any (dV a.s)=true
theorem zD(c wb tb base:Nat)(vt vv vm lv:Value)(vs:List az)(gs:List MG)(cR:sg vs gs)(r:Hx.bD)(w:World)(v:Value)(n:Nat)(xs:List Value)(h:Ix w c wb tb base vt vv vm lv vs gs)(hr:rOk vs gs r)(ho:w.ownsRow c 5 1 v n xs)(hn:n+(Cx.bO vs (gs.map (·.a)) r).length<=80000):
  Calls Tryz.prog 121 #[.pointer (some ⟨wb,0,none⟩),v,.agg (fO r).toArray] w λe w'=>∃v',e=.returned v'/\Gr c w w' 5 1 v v' (n+(Cx.bO vs (gs.map (·.a)) r).length) (xs++(Cx.bO vs (gs.map (·.a)) r).map Cx.bV):=by
 obtain⟨wh,g,dest,gd,wM,ud⟩:=r;obtain⟨Tl,xl,ck⟩:=bI g;have hBr:Below w.heap.size w ((w.alloc (.cells (fO ⟨wh,g,dest,gd,wM,ud⟩).toArray 232)).alloc (.cells #[.int .u8 0] 5)):=((ag _ _).trans ((ag _ _).mono (by simp)));have hz:((w.alloc (.cells (fO ⟨wh,g,dest,gd,wM,ud⟩).toArray 232)).alloc (.cells #[.int .u8 0] 5)).heap.size=w.heap.size+2:=by simp
 have hRB:((w.alloc (.cells (fO ⟨wh,g,dest,gd,wM,ud⟩).toArray 232)).alloc (.cells #[.int .u8 0] 5)).heap[w.heap.size]?=some (.cells (fO ⟨wh,g,dest,gd,wM,ud⟩).toArray 232 (0,0)):=((ag _ _).block w.heap.size (by simp)).trans (heap_alloc_new w _);have hEB:((w.alloc (.cells (fO ⟨wh,g,dest,gd,wM,ud⟩).toArray 232)).alloc (.cells #[.int .u8 0] 5)).heap[w.heap.size+1]?=some (.cells #[.int .u8 0] 5 (0,0)):=by
  have:=heap_alloc_new (w.alloc (.cells (fO ⟨wh,g,dest,gd,wM,ud⟩).toArray 232)) (.cells #[.int .u8 0] 5);simpa using this
 obtain⟨W0,hW0⟩:∃W0,W0=(w.alloc (.cells (fO ⟨wh,g,dest,gd,wM,ud⟩).toArray 232)).alloc (.cells #[.int .u8 0] 5):=⟨_,rfl⟩;rw[<-hW0]at hBr hz hRB hEB
 have HG:=ae (λY hY=>by
  have:=wv c wb tb base vt vv vm lv vs gs cR g Y v n xs (h.below hY) hr.1 (ah ho hY) (by grind[Cx.bO])
  rw[ck]at this;exact this)
 have xi:=λk hk=>(ho.lt k hk).2
 obtain⟨i0,dl,eu,dA,eg⟩:=info_parts Tryz.infoByte;have hle:=h.le
 cases dest with
 |none=>
  have fz:Cx.bO vs (gs.map (·.a)) ⟨wh,g,none,gd,wM,ud⟩=Cx.aY vs g++[2]++Cx.two 1++[0]:=rfl;rw[fz]at hn|-;rw[show(fO ⟨wh,g,none,gd,wM,ud⟩).toArray=#[.int .i64 (ao wh.k),.string wh.s,.int .i64 wh.n,.int .i64 wh.line,.iface Tl xl,.bool true,.int .i64 0,.string ⟨#[]⟩,.int .i64 0,.int .i64 0] by rw[<-ck];rfl]at hW0 hRB|-;obtain⟨av,cv,rfl,_,_⟩:=aj ho;clear h ho hr fz ck;go_enter Tryz.func121,Tryz.ntmps121;go_upto_region 4 with(fail);rw[<-hW0];clear hW0;have r4:=oh hRB;have hlen:n+(Cx.aY vs g).length<=79000+1000:=by simp at hn;omega
  have hEl:w.heap.size+1<W0.heap.size:=by omega
  have hEv:∀j u,([.int .u8 0])[j]?=some u->W0.cell? ⟨w.heap.size+1,j,none⟩=some u:=λj u hu=>by rw[Lib.cell_of_heap hEB j];grind
  clear hn hEB hRB;go_wp2_with fail;refine(HG.out _ hBr).mono ?_;rintro e w1 ⟨v1,rfl,gh⟩;obtain⟨iH,nG,bH⟩:=j6 gh hEl (λk hk=>by grind);obtain⟨a1,c1,rfl,_,_⟩:=aj gh.own;have uv:=ae (gh.after hBr);have gI:=uv.out.kept.size;clear gh HG;go_wp2_with (at_builtin;refine wpList_append_own_at _ rfl _ _ 64 rfl c 5 i0 _ 1 1 Tryz.underlying64 dl eu dA eg rfl (by decide) _ (n+(Cx.aY vs g).length) _ rfl (ah uv.out.own (ag _ _)) ⟨w1.heap.size,0,none⟩ 1 1 [.int .u8 2] rfl rfl (aF _ _ rfl [_] _) (eI rfl) ?c3 ?c4 ?c5 ?_)
  case c3=>grind[maxLen]
  case c4=>omega
  case c5=>simp;omega
  intro v2 w2 aJ ax _ bu;have iC:=eF aJ ax (by omega);obtain⟨lQ,oR,aT⟩:=j6 iC bH nG;have zl:=ae (uv.out.trans iC);have jT:=zl.out.kept.size;obtain⟨a2,c2,rfl,_,_⟩:=aj iC.own;clear aJ ax bu iC uv;go_wp2_with fail;refine(eV w2 c _ _ _ 1 zl.out.own (by omega) (by omega)).mono ?_;rintro e w3 ⟨v3,rfl,sN⟩;obtain⟨lA,ZU,eC⟩:=j6 sN aT oR;have Iz:=ae (zl.out.trans sN);have oS:=Iz.out.kept.size;obtain⟨a3,c3,rfl,_,_⟩:=aj sN.own
  have HEV:Hid (∀j u,([.int .u8 0])[j]?=some u->w3.cell? ((⟨w.heap.size+1,0,none⟩:Addr).add j)=some u):=ae (λj u hu=>by
   grind[Addr.add])
  clear sN zl iH lQ lA nG oR ZU bH aT eC;go_wp2_with (at_builtin;refine wpList_append_own_at _ rfl _ _ 64 rfl c 5 i0 _ 1 1 Tryz.underlying64 dl eu dA eg rfl (by decide) _ (n+(Cx.aY vs g).length+1+2) _ rfl Iz.out.own ⟨w.heap.size+1,0,none⟩ 1 1 [.int .u8 0] rfl rfl HEV.out ?c2 ?c3 ?c4 ?c5 ?_)
  case c2=>intro u hu;simp at hu;subst hu;rfl
  case c3=>grind[maxLen]
  case c4=>omega
  case c5=>omega
  intro v4 w4 aJ ax _ bu;have hG4:=Iz.out.trans (dO aJ ax bu)
  have HG4:Hid (Gr c w w4 5 1 (.slice av n cv) v4 (n+(Cx.aY vs g++[2]++Cx.two 1++[0]).length) (xs++(Cx.aY vs g++[2]++Cx.two 1++[0]).map Cx.bV)):=ae (by
   grind[List.append_assoc,Cx.aY,Cx.two,Cx.bV])
  clear aJ ax bu hG4 Iz;go_wp2_with fail;go_ret;exact⟨_,rfl,HG4.out⟩
 |some a=>
  have NA:Cx.iY (gs.map (·.a)) ⟨wh,g,some a,gd,wM,ud⟩=[1,UInt8.ofNat (Cx.numberOf (gs.map (·.a)) (Cx.fE (gs.map (·.a)) a.s))]:=rfl;have nO:=hr.2 a rfl;have OX:=List.findIdx_lt_length_of_exists (List.any_eq_true.1 nO);have hmx:Cx.fE (gs.map (·.a)) a.s<gs.length:=by rw[Cx.fE,yt];exact OX
  have HF:=ae (λY hY=>TY Y base tb vt vv vm vs gs _ (h.pt.below hY) (by have:=cR.af;omega) a.s nO);have HN:=ae (λY hY=>sM Y c wb tb base vt vv vm lv vs gs (h.below hY) cR _ hmx);have fz:Cx.bO vs (gs.map (·.a)) ⟨wh,g,some a,gd,wM,ud⟩=Cx.aY vs g++[2]++Cx.two 2++[1,UInt8.ofNat (Cx.numberOf (gs.map (·.a)) (Cx.fE (gs.map (·.a)) a.s))]:=rfl;rw[fz]at hn|-;generalize Cx.numberOf (gs.map (·.a)) (Cx.fE (gs.map (·.a)) a.s)=nr at*;generalize bl gs (Cx.fE (gs.map (·.a)) a.s)=mb at*;rw[show(fO ⟨wh,g,some a,gd,wM,ud⟩).toArray=#[.int .i64 (ao wh.k),.string wh.s,.int .i64 wh.n,.int .i64 wh.line,.iface Tl xl,.bool false,.int .i64 (ao a.k),.string a.s,.int .i64 a.n,.int .i64 a.line] by rw[<-ck];rfl]at hW0 hRB|-;have FW:=Nat.lt_of_lt_of_le h.lt h.le;have xw:W0.cell? ⟨wb,0,none⟩=some (.pointer (some ⟨tb,0,none⟩)):=(hBr.cell FW).trans (Lib.cell_of_heap h.box 0);have x7:=ae7 hRB;have hwW:wb<W0.heap.size:=by omega
  have hrW:w.heap.size<W0.heap.size:=by omega
  obtain⟨av,cv,rfl,_,_⟩:=aj ho;have hlen:n+(Cx.aY vs g).length<=79000+1000:=by simp at hn;omega
  clear h ho hr fz ck NA nO OX hmx hn;unfold dz at HF HN;go_enter Tryz.func121,Tryz.ntmps121;go_upto_region 3 with(fail);rw[<-hW0];clear hW0
  go_region_held3 (λY=>Y.cell? ⟨wb,0,none⟩=some (.pointer (some ⟨tb,0,none⟩))/\Y.cell? ⟨w.heap.size,7,none⟩=some (.string a.s)) (first|go_keep|(exact⟨by with_reducible assumption,by with_reducible assumption⟩))
   (first
    |(go_at_call 170;refine(HF.out _ ?_).mono ?_;exact hBr.trans ((bm _).mono hBr.size);rintro e wf ⟨rfl,hbf⟩;have hBf:=hBr.trans (((bm W0).trans (hbf.mono (bm W0).size)).mono hBr.size);have yw:=(hbf.cell hwW).trans xw;have y7:=(hbf.cell hrW).trans x7;have hsf:=hbf.size)
    |(go_at_call 80;refine(HN.out _ hBf).mono ?_;rintro e wn ⟨rfl,TX⟩;have zw:=(TX.cell (Nat.lt_of_lt_of_le hwW hsf)).trans yw;have z7:=(TX.cell (Nat.lt_of_lt_of_le hrW hsf)).trans y7))
  have hBn:=hBf.trans (TX.mono (by have:=hBf.size;omega));have hBW:Below w.heap.size w (wn.alloc (.cells #[.int .u8 1,.int .u8 (IntKind.u8.wrap nr)] 5)):=hBn.trans ((ag _ _).mono hBn.size);have hEv:∀j u,([.int .u8 1,.int .u8 ((nr)%256)])[j]?=some u->(wn.alloc (.cells #[.int .u8 1,.int .u8 (IntKind.u8.wrap nr)] 5)).cell? ⟨wn.heap.size,j,none⟩=some u:=λj u hu=>by
   have hwr:IntKind.u8.wrap (nr)=(nr)%256:=rfl
   simp_all
  have hEl:wn.heap.size<(wn.alloc (.cells #[.int .u8 1,.int .u8 (IntKind.u8.wrap nr)] 5)).heap.size:=by simp
  have tI:=hBn.size;have r4:(wn.alloc (.cells #[.int .u8 1,.int .u8 (IntKind.u8.wrap nr)] 5)).cell? ⟨w.heap.size,4,none⟩=some (.iface Tl xl):=((ag wn _).cell (Nat.lt_of_lt_of_le (Nat.lt_of_lt_of_le hrW hsf) TX.size)).trans ((TX.cell (Nat.lt_of_lt_of_le hrW hsf)).trans ((hbf.cell hrW).trans (Lib.cell_of_heap hRB 4)));clear hbf TX hBf yw y7 zw z7 xw x7 hRB hEB hBr HF HN;generalize wn.alloc (.cells #[.int .u8 1,.int .u8 (IntKind.u8.wrap nr)] 5)=W at*;obtain⟨EB,hEB⟩:∃EB,EB=wn.heap.size:=⟨_,rfl⟩;rw[<-hEB]at hEv hEl tI|-;clear hEB;go_wp2_with fail;refine(HG.out _ hBW).mono ?_;rintro e w1 ⟨v1,rfl,gh⟩;obtain⟨iH,nG,bH⟩:=j6 gh hEl (λk hk=>by grind);obtain⟨a1,c1,rfl,_,_⟩:=aj gh.own;have uv:=ae (gh.after hBW);have gI:=uv.out.kept.size;clear gh HG;go_wp2_with (at_builtin;refine wpList_append_own_at _ rfl _ _ 64 rfl c 5 i0 _ 1 1 Tryz.underlying64 dl eu dA eg rfl (by decide) _ (n+(Cx.aY vs g).length) _ rfl (ah uv.out.own (ag _ _)) ⟨w1.heap.size,0,none⟩ 1 1 [.int .u8 2] rfl rfl (aF _ _ rfl [_] _) (eI rfl) ?c3 ?c4 ?c5 ?_)
  case c3=>grind[maxLen]
  case c4=>omega
  case c5=>simp;omega
  intro v2 w2 aJ ax _ bu;have iC:=eF aJ ax (by omega);obtain⟨lQ,oR,aT⟩:=j6 iC bH nG;have zl:=ae (uv.out.trans iC);have jT:=zl.out.kept.size;obtain⟨a2,c2,rfl,_,_⟩:=aj iC.own;clear aJ ax bu iC uv;go_wp2_with fail;refine(eV w2 c _ _ _ 2 zl.out.own (by omega) (by omega)).mono ?_;rintro e w3 ⟨v3,rfl,sN⟩;obtain⟨lA,ZU,eC⟩:=j6 sN aT oR;have Iz:=ae (zl.out.trans sN);have oS:=Iz.out.kept.size;obtain⟨a3,c3,rfl,_,_⟩:=aj sN.own
  have HEV:Hid (∀j u,([.int .u8 1,.int .u8 ((nr)%256)])[j]?=some u->w3.cell? ((⟨EB,0,none⟩:Addr).add j)=some u):=ae (λj u hu=>by
   grind[Addr.add])
  clear sN zl iH lQ lA nG oR ZU bH aT eC;go_wp2_with (at_builtin;refine wpList_append_own_at _ rfl _ _ 64 rfl c 5 i0 _ 1 1 Tryz.underlying64 dl eu dA eg rfl (by decide) _ (n+(Cx.aY vs g).length+1+2) _ rfl Iz.out.own ⟨EB,0,none⟩ 2 2 [.int .u8 1,.int .u8 ((nr)%256)] rfl rfl HEV.out ?c2 ?c3 ?c4 ?c5 ?_)
  case c2=>intro u hu;simp at hu;rcases hu with rfl|rfl<;>rfl
  case c3=>grind[maxLen]
  case c4=>omega
  case c5=>omega
  intro v4 w4 aJ ax _ bu;have hG4:=Iz.out.trans (dO aJ ax bu)
  have HG4:Hid (Gr c w w4 5 1 (.slice av n cv) v4 (n+(Cx.aY vs g++[2]++Cx.two 2++[1,UInt8.ofNat nr]).length) (xs++(Cx.aY vs g++[2]++Cx.two 2++[1,UInt8.ofNat nr]).map Cx.bV)):=ae (by
   grind[List.append_assoc,Cx.aY,Cx.two,UInt8.ofNat,Cx.bV,Cx.mx])
  clear aJ ax bu hG4 Iz;go_wp2_with fail;go_ret;exact⟨_,rfl,HG4.out⟩
theorem dF{b' e size:Nat}{v:Value}(h:w.ownsRow b e size v n xs)(hb:b'<=b):w.ownsRow b' e size v n xs:=by
 refine⟨h.1,?_⟩;rcases h.2 with hn|⟨g,cap,cur,e1,e2,rest⟩
 ·grind
 ·exact .inr ⟨g,cap,cur,e1,Nat.le_trans hb e2,rest⟩
theorem Ix.mono{c' wb tb base:Nat}{vt vv vm lv:Value}{vs:List az}(h:Ix w c wb tb base vt vv vm lv vs gs)(hc:c<=c')(hw:c'<=w.heap.size):Ix w c' wb tb base vt vv vm lv vs gs:=by
 obtain⟨gl,cap,e,hl,hcc⟩:=h.lv;exact⟨h.pt.mono (λk hk=>Nat.lt_of_lt_of_le hk hc),h.box,⟨gl,cap,e,Nat.lt_of_lt_of_le hl hc,hcc⟩,Nat.lt_of_lt_of_le h.lt hc,hw⟩
def eY(vs:List az)(ms:List Hx.MA)(l:List Nat):List UInt8:=l.flatMap λj=>(Cx.rowsOf ms j).flatMap (Cx.bO vs ms)
theorem ID(vs:List az)(ms:List Hx.MA)(l:List Nat)(i:Nat)(hi:i<l.length):eY vs ms (l.take (i+1))=eY vs ms (l.take i)++(Cx.rowsOf ms l[i]).flatMap (Cx.bO vs ms):=by
 grind[List.take_add_one,List.getElem?_eq_getElem,eY]
theorem pL{α β:Type}(f:α->List β)(l:List α)(i:Nat)(hi:i<l.length):(l.take (i+1)).flatMap f=(l.take i).flatMap f++f l[i]:=by
 grind[List.take_add_one,List.getElem?_eq_getElem]
theorem E0{α β:Type}(f:α->List β)(l:List α)(i:Nat):((l.take i).flatMap f).length<=(l.flatMap f).length:=by
 grind[List.take_append_drop,List.length_append]
theorem wQ(hl:Links gs):∀i,i<gs.length->∀j∈Cx.path (gs.map (·.a)) i,j<gs.length:=by
 intro i
 induction i using Nat.strongRecOn with
 |_ i ih=>
  intro hi j hj;have ho:=jR hl hi;rw[mL hl hi]at hj
  grind
def SY(vs:List az)(gs:List MG):Prop:=∀m∈gs,m.a.rows.length<=10000/\∀r∈m.a.rows,rOk vs gs r
theorem aaO{j:Nat}(hj:j<gs.length):Cx.rowsOf (gs.map (·.a)) j=gs[j].a.rows:=by simp[Cx.rowsOf,hj]
theorem T4(r:Hx.bD):∃(k0:Int)(s0:ByteArray)(n0 l0:Int)(T:TypeId)(x:Value)(b:Bool)(k1:Int)(s1:ByteArray)(n1 l1:Int),fO r=[.int .i64 k0,.string s0,.int .i64 n0,.int .i64 l0,.iface T x,.bool b,.int .i64 k1,.string s1,.int .i64 n1,.int .i64 l1]:=by
 obtain⟨wh,g,dest,_,_⟩:=r;obtain⟨T,x,hg⟩:=bI g
 cases dest with
 |none=>simp_all[fO,oW]
 |some t=>simp_all[fO,oW]
theorem IC(c wb tb base:Nat)(vt vv vm lv:Value)(vs:List az)(gs:List MG)(cR:sg vs gs)(w:World)(h:Ix w c wb tb base vt vv vm lv vs gs)(hr:SY vs gs)(i:Nat)(hi:i<gs.length)(hn:(Cx.program vs (gs.map (·.a)) i).length<=80000):
  Calls Tryz.prog 81 #[.pointer (some ⟨wb,0,none⟩),dz (bl gs i)] w λe w'=>∃v',e=.returned v'/\w'.ownsRow w.heap.size 5 1 v' (Cx.program vs (gs.map (·.a)) i).length ((Cx.program vs (gs.map (·.a)) i).map Cx.bV)/\Below w.heap.size w w':=by
 have HP:=ae (IE base tb vt vv vm vs gs _ cR.kt (by have:=cR.af;omega) i hi w h.pt);have tS:=wQ cR.kt i hi;have hpn:=sQ cR.kt i hi;have iq:=cR.af;have adR:Cx.program vs (gs.map (·.a)) i=eY vs (gs.map (·.a)) (Cx.path (gs.map (·.a)) i)++[0]:=rfl;have HPR:=ae adR;have hpt:∀k,(eY vs (gs.map (·.a)) ((Cx.path (gs.map (·.a)) i).take k)).length+1<=80000:=λk=>by
  grind[eY,Cx.program,Cx.path,E0,Cx.rowsOf,Cx.bO]
 have IF:=ae hpt;have Zi:=ae tS;have HE:=ae h;have HR:=ae hr;obtain⟨i0,dl,eu,dA,eg⟩:=info_parts Tryz.infoByte;clear adR hpt tS hr;generalize hpp:Cx.path (gs.map (·.a)) i=kJ at*;have hcw:=h.le;clear h;go_enter Tryz.func81,Tryz.ntmps81;go_wp2_with fail;refine HP.out.mono ?_;rintro e w1 ⟨v1,rfl,jQ,bH⟩;have hE1:=(HE.out.below bH).mono (by have:=bH.size;omega) (Nat.le_refl _);have HE1:=ae hE1;obtain⟨a1,c1,rfl,_,_⟩:=aj jQ;have oX:∀k (hk:k<kJ.length),∃pb,a1=some ⟨pb,0,none⟩/\pb<w1.heap.size/\w1.cell? ⟨pb,k,none⟩=some (.pointer (some ⟨bl gs kJ[k],0,none⟩)):=by
  intro k hk;obtain⟨pb,cap,oR,_,hl,_,_,hcc⟩:=aR jQ (by omega)
  cases oR
  exact⟨pb,rfl,hl,(hcc k (by omega)).trans (by simp[hk,dz])⟩
 have HC:=ae oX;have b6:=ae bH;have gI:=bH.size;clear oX jQ bH hE1 HP HE;go_wp2_with fail
 go_loopg [5,13] (kJ.length) (λk v5 v13 wr=>∃q:Nat,q+k=kJ.length/\v13=.int .i64 q/\Below w1.heap.size w1 wr/\wr.ownsRow w1.heap.size 5 1 v5 (eY vs (gs.map (·.a)) (kJ.take q)).length ((eY vs (gs.map (·.a)) (kJ.take q)).map Cx.bV))
 case atStart=>exact⟨0,by omega,rfl,Below.refl _ _,World.ownsRow_nil _ _ _ _⟩
 case round=>
  obtain⟨q,hq,rfl,hb,ho⟩:=hrel;have HB:=ae hb;have HO:=ae ho;have hsr:=hb.size
  by_cases hlt:q<kJ.length
  ·have hqi:(q:Int)<kJ.length:=by omega
   have hq0:(0:Int)<=q:=by omega
   obtain⟨pb,rfl,hpb,NC⟩:=HC.out q hlt;have iP:=Zi.out _ (List.getElem_mem hlt);have xp:=(hb.cell hpb).trans NC;have hstep:=ID vs (gs.map (·.a)) kJ q hlt;rw[aaO iP]at hstep;have lj:=ae hstep;have hmx:=IF.out (q+1);rw[hstep,List.length_append]at hmx;have hTr:=HE1.out.pt.below hb;obtain⟨ar,cr,Lx,Tw⟩:=hTr.dS iP;have c7:wr.cell? ⟨bl gs kJ[q],7,none⟩=some (.slice ar gs[kJ[q]].a.rows.length cr):=by
    rw[kU iP];exact((hTr.bG iP).1 7 (by omega)).trans (by show some gs[kJ[q]].vr=_;rw[Lx])
   obtain⟨hrn,G6⟩:=HR.out gs[kJ[q]] (List.getElem_mem iP);have HRO:=ae G6;have aks:∀k (hk:k<gs[kJ[q]].a.rows.length),∃gr,ar=some ⟨gr,0,none⟩/\gr<w1.heap.size/\∀k',k'<10->w1.cell? ⟨gr,k*10+k',none⟩=(fO gs[kJ[q]].a.rows[k])[k']?:=by
    intro k hk;obtain⟨ar',cr',T8,af0⟩:=HE1.out.pt.dS iP;obtain⟨gr,e1,h1,h2⟩:=af0 k hk;rw[Lx]at T8
    cases T8
    exact⟨gr,e1,h1,h2⟩
   have T9:=ae aks;clear NC hstep hb ho hTr Tw aks Lx G6;generalize bl gs kJ[q]=bj at*;generalize gs[kJ[q]].a.rows=rows at*;generalize eY vs (gs.map (·.a)) (kJ.take q)=acc at*;go_wp2_with fail
   go_loopg [5,22] (rows.length) (λk v5 v22 wi=>∃r:Nat,r+k=rows.length/\v22=.int .i64 r/\Below w1.heap.size w1 wi/\wi.ownsRow w1.heap.size 5 1 v5 (acc++(rows.take r).flatMap (Cx.bO vs (gs.map (·.a)))).length ((acc++(rows.take r).flatMap (Cx.bO vs (gs.map (·.a)))).map Cx.bV))
   case atStart=>exact⟨0,by omega,rfl,HB.out,by simpa using HO.out⟩
   case round=>
    obtain⟨r,hr,rfl,hb,ho⟩:=hrel;have HBi:=ae hb;have HOi:=ae ho;have Ua:=hb.size
    by_cases F3:r<rows.length
    ·have hri:(r:Int)<rows.length:=by omega
     have ny:(0:Int)<=r:=by omega
     obtain⟨gr,rfl,mK,Dq⟩:=T9.out r F3;have Lt:=pL (Cx.bO vs (gs.map (·.a))) rows r F3;have hfl:=E0 (Cx.bO vs (gs.map (·.a))) rows (r+1);have HFT:=ae Lt;rw[Lt,List.length_append]at hfl;have G6:=HRO.out rows[r] (List.getElem_mem F3);have hmi:(acc++(rows.take r).flatMap (Cx.bO vs (gs.map (·.a)))).length+(Cx.bO vs (gs.map (·.a)) rows[r]).length<=80000:=by rw[List.length_append];omega
     have CK:=ae (λY hY=>
      zD w1.heap.size wb tb base vt vv vm lv vs gs cR rows[r] Y u5 _ _ (HE1.out.below (HBi.out.trans (hY.mono Ua))) G6 (ah HOi.out hY) hmi)
     have hcc:=λk hk=>(hb.cell mK).trans (Dq k hk)
     obtain⟨k0,s0,n0,l0,Tg,xg,b0,k1,s1,n1,l1,hd⟩:=T4 rows[r];rw[hd]at hcc CK;have z0:wr.cell? ⟨gr,r*10,none⟩=some (.int .i64 k0):=hcc 0 (by omega);have z1:wr.cell? ⟨gr,r*10+1,none⟩=some (.string s0):=hcc 1 (by omega);have z2:wr.cell? ⟨gr,r*10+2,none⟩=some (.int .i64 n0):=hcc 2 (by omega);have z3:wr.cell? ⟨gr,r*10+3,none⟩=some (.int .i64 l0):=hcc 3 (by omega);have z4:wr.cell? ⟨gr,r*10+4,none⟩=some (.iface Tg xg):=hcc 4 (by omega);have z5:wr.cell? ⟨gr,r*10+5,none⟩=some (.bool b0):=hcc 5 (by omega);have z6:wr.cell? ⟨gr,r*10+6,none⟩=some (.int .i64 k1):=hcc 6 (by omega);have z7:wr.cell? ⟨gr,r*10+7,none⟩=some (.string s1):=hcc 7 (by omega);have z8:wr.cell? ⟨gr,r*10+8,none⟩=some (.int .i64 n1):=hcc 8 (by omega);have z9:wr.cell? ⟨gr,r*10+9,none⟩=some (.int .i64 l1):=hcc 9 (by omega);clear hcc Dq hd Lt G6 hb ho;go_wp2_with fail;refine(CK.out _ (ag _ _)).mono ?_;rintro e w2 ⟨v2,rfl,hG⟩;have HG:=ae (hG.after (ag _ _));have dH:=ae (HBi.out.trans (HG.out.kept.toBelow (λk e=>(HOi.out.lt k e).1) Ua))
     have lu:Hid (w2.ownsRow w1.heap.size 5 1 v2 (acc++(rows.take (r+1)).flatMap (Cx.bO vs (gs.map (·.a)))).length ((acc++(rows.take (r+1)).flatMap (Cx.bO vs (gs.map (·.a)))).map Cx.bV)):=ae (by
      rw[HFT.out,<-List.append_assoc,List.length_append,List.map_append];exact HG.out.own)
     clear hG CK z0 z1 z2 z3 z4 z5 z6 z7 z8 z9;go_wp2_with fail
     go_roundg (rows.length-(r+1))
     case measure=>omega
     case rel=>exact⟨r+1,by omega,by go_num,dH.out,lu.out⟩
    ·obtain rfl:r=rows.length:=by omega
     rw[List.take_length]at HOi;go_wp2_with fail
     go_roundg (kJ.length-(q+1))
     case measure=>omega
     case rel=>exact⟨q+1,by omega,by go_num,HBi.out,by rw[lj.out];grind⟩
  ·obtain rfl:q=kJ.length:=by omega
   rw[List.take_length]at HO;have IG:=IF.out kJ.length;rw[List.take_length]at IG;obtain⟨L,hL⟩:∃L,L=(eY vs (gs.map (·.a)) kJ).length:=⟨_,rfl⟩;obtain⟨ys,hys⟩:∃ys,ys=(eY vs (gs.map (·.a)) kJ).map Cx.bV:=⟨_,rfl⟩;rw[<-hL,<-hys]at HO;rw[<-hL]at IG;have HPO:Hid ((Cx.program vs (gs.map (·.a)) i).length=L+1/\(Cx.program vs (gs.map (·.a)) i).map Cx.bV=ys++[.int .u8 0]):=ae ⟨by rw[HPR.out,List.length_append,hL];rfl,by rw[HPR.out,List.map_append,hys];rfl⟩;have HOa:=ae (ah HO.out (ag wr (.cells #[.int .u8 0] 5)));obtain⟨a5,c5,rfl,_,_⟩:=aj HO.out;clear hb ho hL hys HPR IF Zi HR HC HE1 hn;go_wp2_with (at_builtin;refine wpList_append_own_at _ rfl _ _ 64 rfl w1.heap.size 5 i0 _ 1 1 Tryz.underlying64 dl eu dA eg rfl (by decide) _ L ys rfl HOa.out ⟨wr.heap.size,0,none⟩ 1 1 [.int .u8 0] rfl rfl (aF _ _ rfl [_] _) (eI rfl) ?c3 ?c4 ?c5 ?_)
   case c3=>grind[maxLen]
   case c4=>omega
   case c5=>omega
   intro v9 w9 aJ ax _ bu;have hG:=eF aJ ax (by omega);have kh:=ae (b6.out.trans ((HB.out.trans (hG.kept.toBelow (λk e=>(HO.out.lt k e).1) hsr)).mono gI));have lq:=ae (dF hG.own gI);clear aJ ax bu hG;go_wp2_with fail;go_ret;exact⟨_,rfl,by rw[HPO.out.1,HPO.out.2];exact lq.out,kh.out⟩
end
section
open Go.RowKit
def oY(Y:World)(b:Nat):Prop:=Y.heap[b]?=some (.cells #[] 3 (0,0))
theorem oY.new(h:b=X.heap.size):oY (X.alloc (.cells #[] 3)) b:=by subst h;exact heap_alloc_new X _
theorem oY.old{o:Obj}(h:oY X b):oY (X.alloc o) b:=by
 have hl:=(Array.getElem?_eq_some_iff.1 h).1;exact((ag X o).block b hl).trans h
theorem oY.drew(h:oY X b):oY X.drew b:=h
theorem oY.bel(k:Below X.heap.size X Y)(h:oY X b):oY Y b:=(k.block b (Array.getElem?_eq_some_iff.1 h).1).trans h
theorem oY.lt(h:oY X b):b<X.heap.size:=(Array.getElem?_eq_some_iff.1 h).1
theorem oY.grown(k:X.grownBy Y (some c))(hn:b≠c)(h:oY X b):oY Y b:=(k.block b h.lt (by grind)).trans h
theorem oY.own(h:oY X b)(hb:B<=b):X.ownsRow B 3 1 (.slice (some ⟨b,0,none⟩) 0 0) 0 []:=⟨rfl,.inr ⟨b,0,#[],rfl,hb,h,Nat.le_refl _,by omega,rfl,rfl⟩⟩
theorem Tryz.infoIntT:(Tryz.prog.info? 3).map (λi=>(i.zero,i.size,i.bytes))=some (some (.int .i64 0),1,8):=by kernel_rfl
theorem oZ{Z:World}(h:Below w.heap.size w Y)(k:Y.grownBy Z (some b))(hb:w.heap.size<=b):Below w.heap.size w Z:=
 ⟨k.os.trans h.os,k.tape.trans h.tape,k.output.trans h.output,Nat.le_trans h.size k.size,λi hi=>(k.block i (Nat.lt_of_lt_of_le hi h.size) (by grind)).trans (h.block i hi)⟩
theorem iD(h:Below w.heap.size w X)(o:Obj):Below w.heap.size w (X.alloc o):=h.alloc h.size o
theorem ints_at{o:Nat}{l:List Int}(h:∀i (hi:i<l.length),w.cell? ⟨g,o+i,none⟩=some (.int .i64 l[i]))(hg:g<w.heap.size)(hb:Below w.heap.size w Y):∀j u,(l.map (Value.int .i64))[j]?=some u->Y.cell? ((⟨g,o,none⟩:Addr).add j)=some u:=by
 intro j u hu;rw[List.getElem?_map]at hu
 cases hl:l[j]? with
 |none=>grind
 |some x=>
  rw[hl]at hu;simp only [Option.map_some,Option.some.injEq]at hu;obtain⟨hj,rfl⟩:=List.getElem?_eq_some_iff.1 hl;rw[<-hu];have:=(hb.cell hg).trans (h j hj)
  grind[Addr.add]
theorem sG(l:List Int):∀u∈l.map (Value.int .i64),u.oneCell'=true:=by
 intro u hu;obtain⟨x,_,rfl⟩:=List.mem_map.1 hu;rfl
theorem Ub{Y1 w3 Y2 w4:World}{v3 v4:Value}(h1:w3.ownsRow B 3 1 v3 n xs)(a1:v3.ownBlock=some b\/v3.ownBlock=some Y1.heap.size)(Xg:b≠c)(k2:Below w3.heap.size w3 Y2)(hc:c<Y1.heap.size\/w3.heap.size<=c)
  (g2:Y2.grownBy w4 (some c)) (a2:v4.ownBlock=some c\/v4.ownBlock=some Y2.heap.size):w4.ownsRow B 3 1 v3 n xs/\(∀k,v3.ownBlock=some k->v4.ownBlock≠some k):=by
 have hk:∀k,v3.ownBlock=some k->k<w3.heap.size/\k≠c:=by
  intro k e;have hl:=(h1.lt k e).2;refine⟨hl,?_⟩;rcases a1 with e1|e1
  ·grind
  ·grind
 have uQ:Kp (λk=>k=c) Y2 w4:=⟨g2.os,g2.tape,g2.output,g2.size,λk hk hn=>g2.block k hk (by grind)⟩;refine⟨uQ.own (ah h1 k2) (λk e=>(hk k e).2),λk e e2=>?_⟩;have:=hk k e;have:=k2.size
 grind
def f5(w:World)(g:Nat)(c0 c1 c2 c3 c4:Value):World:=((((w.setCell ⟨g,0,none⟩ c0).setCell ⟨g,1,none⟩ c1).setCell ⟨g,2,none⟩ c2).setCell ⟨g,3,none⟩ c3).setCell ⟨g,4,none⟩ c4
theorem jI{x0 x1 x2 x3 x4 a b c d e:Value}{T:TypeId}(h:w.heap[g]?=some (.cells #[x0,x1,x2,x3,x4] T (0,0))):(f5 w g a b c d e).heap[g]?=some (.cells #[a,b,c,d,e] T (0,0)):=
 aE (o:=4) (aE (o:=3) (aE (o:=2) (aE (o:=1) (aE (o:=0) h))))
theorem kV(w:World)(g:Nat)(c0 c1 c2 c3 c4:Value):Kp (λk=>k=g) w (f5 w g c0 c1 c2 c3 c4):=
 (((((Kp.refl (λk=>k=g) w).setCell (p:=⟨g,0,none⟩) (.inl rfl) c0).setCell (p:=⟨g,1,none⟩) (.inl rfl) c1).setCell (p:=⟨g,2,none⟩) (.inl rfl) c2).setCell (p:=⟨g,3,none⟩) (.inl rfl) c3).setCell (p:=⟨g,4,none⟩) (.inl rfl) c4
end
section
open Go.RowKit
attribute [local go_sem↓] Go.wp_at_zero Go.wp_at_succ
theorem Uc(w:World)(code:Int)(s:ByteArray)(g cap h n:Nat)(l m:List Int)(hs:s.size<=281474976710656)(hg:g<w.heap.size)(hn:n=2*h)(hl:l.length=h)(hm:m.length=h)(hh:h<=1000)(II:n<=cap)
  (hc:∀i (hi:i<l.length),w.cell? ⟨g,0+i,none⟩=some (.int .i64 l[i])) (hd:∀i (hi:i<m.length),w.cell? ⟨g,h+i,none⟩=some (.int .i64 m[i])):
  Calls Tryz.prog 118 #[.int .i64 code,.string s,.slice (some ⟨g,0,none⟩) n cap] w λe w'=>∃v u,e=.returned (.agg #[.int .i64 code,.int .i64 0,.string s,v,u])/\w'.ownsRow w.heap.size 3 1 v h (l.map (.int .i64))/\w'.ownsRow w.heap.size 3 1 u h (m.map (.int .i64))/\(∀k,v.ownBlock=some k->u.ownBlock≠some k)/\Below w.heap.size w w':=by
 have e1:Int.tdiv (n:Int) 2=h:=by rw[Int.tdiv_eq_ediv_of_nonneg (by omega)];omega
 have hhn:(h:Int)<=n:=by omega
 have hhc:(h:Int)<=cap:=by omega
 have ql:(n:Int)<=cap:=by omega
 have hnh:n-h=h:=by omega
 have Kw:(l.map (Value.int .i64)).length=h*1:=by simp[hl]
 have Zs:(m.map (Value.int .i64)).length=(n-h)*1:=by simp[hm,hnh]
 have HNH:=ae hnh;have D3:(if cap=h then some (⟨g,0,none⟩:Addr)else some ⟨g,h,none⟩)=some ⟨g,h,none⟩:=by
  by_cases e:cap=h
  ·simp
  ·grind
 obtain⟨i0,dl,eu,dA,eg⟩:=info_parts Tryz.infoIntT;have rG:Below w.heap.size w (w.alloc (.cells #[.int .i64 0,.int .i64 0,.string ⟨#[]⟩,.slice none 0 0,.slice none 0 0] 34)):=ag _ _;have hXB:=heap_alloc_new w (.cells #[.int .i64 0,.int .i64 0,.string ⟨#[]⟩,.slice none 0 0,.slice none 0 0] 34);have hXs:(w.alloc (.cells #[.int .i64 0,.int .i64 0,.string ⟨#[]⟩,.slice none 0 0,.slice none 0 0] 34)).heap.size=w.heap.size+1:=by simp
 obtain⟨X,hX⟩:∃X,X=w.alloc (.cells #[.int .i64 0,.int .i64 0,.string ⟨#[]⟩,.slice none 0 0,.slice none 0 0] 34):=⟨_,rfl⟩;rw[<-hX]at rG hXB hXs;have hgX:g<X.heap.size:=by omega
 have qN:w.heap.size<X.heap.size:=by omega
 have HC:=ae (λi hi=>(rG.cell hg).trans (hc i hi));have HD:=ae (λi hi=>(rG.cell hg).trans (hd i hi));have HX:=ae rG;have rE:=ae hXB;have CK:=ae (λY=>O6 Y s hs);have iq:0+h<=maxLen:=by unfold maxLen;omega
 have qP:(0+h)*8<=140737488355328:=by omega
 have aaQ:0+(n-h)<=maxLen:=by unfold maxLen;omega
 have Pr:(0+(n-h))*8<=140737488355328:=by omega
 clear hXB rG hc hd hn hl hm hnh;go_enter Tryz.func118,Tryz.ntmps118;go_upto_region 2 with(fail);rw[<-hX];clear hX
 go_region_law (first
  |(refine aD rfl _ _ 32 rfl X.heap.size 3 i0 _ 1 8 Tryz.underlying32 dl eu dA eg rfl (by decide) (.slice (some ⟨_,0,none⟩) 0 0) 0 [] rfl (oY.own (by repeat(first|(with_reducible refine oY.new ?_;with_reducible rfl)|(with_reducible refine oY.new ?_;omega)|(with_reducible refine oY.new ?_;simp;done)|(with_reducible refine oY.new ?_;simp;omega)|(with_reducible refine oY.old ?_)|(with_reducible refine oY.bel bH ?_)|(with_reducible refine oY.drew ?_))) (by(try dsimp only);omega)) ⟨g,0,none⟩ h _ (l.map (.int .i64)) rfl Kw (ints_at HC.out hgX (by first|with_reducible exact lh|with_reducible exact iD lh _|with_reducible exact iD (iD lh _) _)) (sG l) iq qP (by first|with_reducible exact lh.size|with_reducible exact(iD lh _).size|with_reducible exact(iD (iD lh _) _).size) ?_;intro v3 w3 IJ ux aku;have zq:Below X.heap.size X w3:=oZ (by first|with_reducible exact lh|with_reducible exact iD lh _|with_reducible exact iD (iD lh _) _) ux (by(try dsimp only);omega);obtain⟨a3,c3,rfl,_,_⟩:=aj IJ;have oS:=ux.size;(try simp at oS))
  |(refine aD rfl _ _ 32 rfl X.heap.size 3 i0 _ 1 8 Tryz.underlying32 dl eu dA eg rfl (by decide) (.slice (some ⟨_,0,none⟩) 0 0) 0 [] rfl (oY.own (by repeat(first|(with_reducible refine oY.new ?_;with_reducible rfl)|(with_reducible refine oY.new ?_;omega)|(with_reducible refine oY.new ?_;simp;done)|(with_reducible refine oY.new ?_;simp;omega)|(with_reducible refine oY.old ?_)|(with_reducible refine oY.grown ux (by(try dsimp only);omega) ?_)|(with_reducible refine oY.bel bH ?_)|(with_reducible refine oY.drew ?_))) (by(try dsimp only);omega)) ⟨g,h,none⟩ (n-h) _ (m.map (.int .i64)) rfl Zs (ints_at HD.out hgX (by first|with_reducible exact zq|with_reducible exact iD zq _)) (sG m) aaQ Pr (by first|with_reducible exact zq.size|with_reducible exact(iD zq _).size) ?_;intro v4 w4 lC Ly akv;have hw4:Below X.heap.size X w4:=oZ (by first|with_reducible exact zq|with_reducible exact iD zq _) Ly (by(try dsimp only);omega);obtain⟨fZ,nM⟩:=Ub IJ aku (by(try dsimp only);omega) (by first|with_reducible exact Below.refl _ _|with_reducible exact ag _ _) (by first|with_reducible exact .inr (Nat.le_refl _)|(left;dsimp only;omega)|(left;omega)|(left;simp;done)|(left;simp;omega)) Ly akv;obtain⟨a4,c4,rfl,_,_⟩:=aj lC;have Tp:=(hw4.block w.heap.size qN).trans rE.out;obtain⟨y0,y1,y2,y3,y4⟩:=eN Tp;obtain⟨q0,q1,q2,q3⟩:=ZI Tp;have q4:w4.frozen? ⟨w.heap.size,4,none⟩=false:=Lib.frozen_of_heap Tp 4)
  |(go_simp;go_at_call 54;refine(CK.out _).mono ?_;rintro e w1 ⟨rfl,bH⟩;have lh:Below X.heap.size X w1:=Below.trans (by first|with_reducible exact(Below.refl _ _).drew|with_reducible exact(iD (Below.refl _ _) _).drew|with_reducible exact(iD (iD (Below.refl _ _) _) _).drew) (bH.mono (by simp;try omega));have gI:=bH.size;(try simp at gI)))
 all_goals
  have nY:Hid (Below w.heap.size w (f5 w4 w.heap.size (.int .i64 code) (.int .i64 0) (.string s) (.slice a3 h c3) (.slice a4 (n-h) c4))):=ae ((HX.out.trans (hw4.mono (by omega))).trans ((kV _ _ _ _ _ _ _).toBelow (λk e=>by omega) (by have:=hw4.size;omega)));have nZ:Hid ((f5 w4 w.heap.size (.int .i64 code) (.int .i64 0) (.string s) (.slice a3 h c3) (.slice a4 (n-h) c4)).ownsRow w.heap.size 3 1 (.slice a3 h c3) h (l.map (.int .i64))):=ae ((kV _ _ _ _ _ _ _).own (dF (by simpa using fZ) (by omega)) (λk hk e=>by have:=(fZ.lt k (by simpa using hk)).1;omega))
  have lu:Hid ((f5 w4 w.heap.size (.int .i64 code) (.int .i64 0) (.string s) (.slice a3 h c3) (.slice a4 (n-h) c4)).ownsRow w.heap.size 3 1 (.slice a4 (n-h) c4) h (m.map (.int .i64))):=ae (by
   have:=(kV w4 w.heap.size (.int .i64 code) (.int .i64 0) (.string s) (.slice a3 h c3) (.slice a4 (n-h) c4)).own (dF (b':=w.heap.size) (by simpa using lC) (by omega)) (λk hk e=>by have:=(lC.lt k (by simpa using hk)).1;omega);rw[HNH.out]at this|-
   exact this)
  have Kc:=ae nM;have HY:=ae (jI (a:=.int .i64 code) (b:=.int .i64 0) (c:=.string s) (d:=.slice a3 h c3) (e:=.slice a4 (n-h) c4) Tp);clear IJ lC fZ ux Ly aku akv nM Tp lh zq hw4 bH gI oS;go_wp2_with fail;show bodyPost _ _ _ _ _ (f5 w4 w.heap.size (.int .i64 code) (.int .i64 0) (.string s) (.slice a3 h c3) (.slice a4 (n-h) c4));generalize f5 w4 w.heap.size (.int .i64 code) (.int .i64 0) (.string s) (.slice a3 h c3) (.slice a4 (n-h) c4)=Y at*;clear y0 y1 y2 y3 y4 q0 q1 q2 q3 q4;obtain⟨y0,y1,y2,y3,y4⟩:=eN HY.out;refine bodyPost_ret (v:=.agg #[.int .i64 code,.int .i64 0,.string s,.slice a3 h c3,.slice a4 (n-h) c4]) (by simp[results,Tryz.results118,go_sem,y0,y1,y2,y3,y4]) rfl ?_;exact⟨_,_,rfl,nZ.out,lu.out,by simpa using Kc.out,nY.out⟩
