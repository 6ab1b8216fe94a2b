/- The walks of helmref's Case and Open. -/
import Derived.Test.YtdjaiolfdbamcaaGreatDoorZWRCc
import Derived.Test.YtdjaiolfdbamcaaGreatDoorZBWa
set_option maxRecDepth 20000
set_option maxHeartbeats 4000000
namespace Go.Proofs.YtdjaiolfdbamcaaGreatDoor
variable {base bx gt:Nat}{vt:Value}{ts:List Hx.Tok}{s:Hx.St}{F:Nat->Prop}{vs:List az}{ms:List Hx.MA}{w w':World}{xs:List Int}{gs:List MG}
section
open Go.RowKit
attribute [local go_sem↓] Go.wp_at_zero Go.wp_at_succ
theorem Eh{w0:World}{ab an:Option Addr}{bs ns:List Int}(hC:JCx w0 base bx vt gt ts s F vs ab an bs ns)(hA:ACx ts s vs ms)(k:Nat)(hk:k<ms.length)(cb cn:Nat)(w:World)(hp:Below w0.heap.size w0 w):
  Calls Tryz.prog 65 #[.pointer (some ⟨bx,0,none⟩),.int .i64 k,.slice ab bs.length cb,.slice an ns.length cn] w λe w'=>e=.returned (.tuple #[.int .i64 (jA vs (bs++ns) s ms k ms.length k).1,.int .i64 (jA vs (bs++ns) s ms k ms.length k).2])/\Below w.heap.size w w':=by
 have HAK:=ae (Qu hC hA k cb cn ms.length k (by omega) (by omega) w hp);generalize jA vs (bs++ns) s ms k ms.length k=p at*;clear hC hA hp;go_enter Tryz.func65,Tryz.ntmps65;go_wp2_with fail;refine HAK.out.mono ?_;rintro e w1 ⟨rfl,hb⟩;have HB:=ae hb;clear hb;go_wp2_with fail
 go_ret2
 exact⟨rfl,HB.out⟩
theorem uu{n c:Nat}{a:Option Addr}(h:w.ownsRow base 3 1 (.slice a n c) n (xs.map (.int .i64)))(hn:n=xs.length):Xt w a xs:=by
 intro i hi;obtain⟨g,cap,e,_,_,_,_,hc⟩:=aR h (by omega)
 grind
structure Kg(w:World)(base bx:Nat)(vt:Value)(gt:Nat)(ts:List Hx.Tok)(s:Hx.St)(F:Nat->Prop)(vs:List az)(ms:List Hx.MA)(L:List AQ):Prop where
 jU:db w base bx vt gt ts s F
 tok:br w gt ts
 Pk:ACx ts s vs ms
 atoms:s.atoms=L.map AQ.gy
 vars:s.vars=vs.map az.p
 ab4:L.length<=8
 Iu:vs.length<=3
 names:∀j (hj:j<vs.length),(vs.take j).any (bK vs[j].name.s)=false
 rng:∀j (hj:j<vs.length),-1000<=vs[j].first.n/\vs[j].last.n<=1000
theorem br.aep{G:Nat->Prop}(h:br w gt ts)(hk:Kp G w w')(hG:¬G gt):br w' gt ts:=λj hj=>by
 obtain⟨t0,t1,t2,t3⟩:=h j hj;have hlt:gt<w.heap.size:=World.block_lt_of_cell? w ⟨gt,j*4,none⟩ t0;exact⟨(hk.cell hlt hG).trans t0,(hk.cell hlt hG).trans t1,(hk.cell hlt hG).trans t2,(hk.cell hlt hG).trans t3⟩
theorem Kg.below{L:List AQ}(h:Kg w base bx vt gt ts s F vs ms L)(hb:Below w.heap.size w w'):Kg w' base bx vt gt ts s F vs ms L:=
 ⟨h.jU.below hb,h.tok.aep (Kp.aK (F:=λ_=>False) hb) (λh=>h),h.Pk,h.atoms,h.vars,h.ab4,h.Iu,h.names,h.rng⟩
theorem Kg.bound{L:List AQ}(h:Kg w base bx vt gt ts s F vs ms L)(was:Bool):
  (∀c∈(List.range vs.length).map (λv=>Cx.EM vs (L.map (fU vs)) v was),c.length<=17)/\(∀i,(Cx.combine (((List.range vs.length).map (λv=>Cx.EM vs (L.map (fU vs)) v was)).take i)).length<=100000000)/\(Cx.bM vs (L.map (fU vs)) was).length<=100000000:=by
 have h17:∀c∈(List.range vs.length).map (λv=>Cx.EM vs (L.map (fU vs)) v was),c.length<=17:=by
  intro c hc;obtain⟨v,_,rfl⟩:=List.mem_map.1 hc;exact Cx.ag0 vs _ v was (by simpa using h.ab4)
 have hb:∀i,(Cx.combine (((List.range vs.length).map (λv=>Cx.EM vs (L.map (fU vs)) v was)).take i)).length<=100000000:=λi=>by
  refine Nat.le_trans (Cx.xX h17 i) (Nat.le_trans (Nat.pow_le_pow_right (by decide) (show _<=3 from ?_)) (by decide));have:=h.Iu
  grind
 have:=hb vs.length;rw[List.take_of_length_le (by simp)]at this;exact⟨h17,hb,this⟩
theorem Kg.samples{L:List AQ}(h:Kg w base bx vt gt ts s F vs ms L)(was:Bool):
  Calls Tryz.prog 95 #[.pointer (some ⟨bx,0,none⟩),.bool was] w λe w'=>∃u,e=.returned u/\(∃vals,LO w' w.heap.size u (Cx.bM vs (L.map (fU vs)) was) vals)/\Below w.heap.size w w':=
 JA w base bx vt gt ts s F vs L h.jU h.tok h.atoms h.vars h.ab4 h.names h.rng h.Iu was _ rfl (λc hc=>Nat.le_trans ((h.bound was).1 c hc) (by decide)) (h.bound was).2.1
theorem vI(vs:List az)(K:List Cx.PK)(was:Bool):∀l∈Cx.bM vs K was,l.length=vs.length:=λl hl=>(Cx.jN vs.length _ (by simp) l hl).1
theorem VA{L:List AQ}(h:Kg w base bx vt gt ts s F vs ms L):
  Calls Tryz.prog 62 #[.pointer (some ⟨bx,0,none⟩)] w λe w'=>∃r:Nat,e=.returned (.int .i64 r)/\yX ms.length (Cx.bM vs (L.map (fU vs)) true).length (Cx.bM vs (L.map (fU vs)) false).length (λa=>je s a) (Vz vs s ms (Cx.bM vs (L.map (fU vs)) true) (Cx.bM vs (L.map (fU vs)) false)) r/\Below w.heap.size w w':=by
 have tH:=ae (h.samples true);have Dl:Hid (∀W,Below w.heap.size w W->Calls Tryz.prog 95 #[.pointer (some ⟨bx,0,none⟩),.bool false] W λe w'=>∃u,e=.returned u/\(∃vals,LO w' W.heap.size u (Cx.bM vs (L.map (fU vs)) false) vals)/\Below W.heap.size W w'):=ae (λW hW=>(h.below hW).samples false);have HL1:=ae (vI vs (L.map (fU vs)) true);have HL2:=ae (vI vs (L.map (fU vs)) false);have XG:=h.Pk.agX;have hls:=(h.bound true).2.2;have qm:=(h.bound false).2.2;have iq:s.af.length=ms.length:=by rw[h.Pk.af,List.length_map]
 have HH:=ae h;clear h;generalize Cx.bM vs (L.map (fU vs)) true=ls at*;generalize Cx.bM vs (L.map (fU vs)) false=mm at*;go_enter Tryz.func62,Tryz.ntmps62;go_wp2_with fail;refine tH.out.mono ?_;rintro e w1 ⟨u,rfl,⟨us,hU⟩,bH⟩;obtain⟨a1,c1,rfl,_,_⟩:=aj hU.own;have Dl:=ae (Dl.out w1 bH);have HU:=ae hU;have b6:=ae bH;clear hU bH tH;go_wp2_with fail;refine Dl.out.mono ?_;rintro e w2 ⟨u,rfl,⟨vv,hV⟩,aT⟩;obtain⟨a2,c2,rfl,_,_⟩:=aj hV.own;have HU2:=ae (HU.out.below aT);have HV:=ae hV;have dH:=ae (b6.out.trans (aT.mono b6.out.size));have HO:=ae (HH.out.below dH.out);clear hV aT Dl HU b6 HH;obtain⟨av,cv,m2,_⟩:=HO.out.jU.mode;rw[iq]at m2;have lb:bx<w2.heap.size:=World.block_lt_of_cell? w2 ⟨bx,2,none⟩ m2;go_wp2_with fail
 go_loopg [5,6] ms.length (λm v5 v6 wr=>∃k e:Nat,k+m=ms.length/\v5=.int .i64 e/\v6=.int .i64 k/\Below w2.heap.size w2 wr/\OI ms.length ls.length mm.length (λa=>je s a) (Vz vs s ms ls mm) e k 0 0)
 case atStart=>exact⟨0,0,by omega,rfl,rfl,Below.refl _ _,OI.start⟩
 case round=>
  obtain⟨k,e,hk,rfl,rfl,eS,hI⟩:=hrel;have y2:=(eS.cell lb).trans m2;have HI:=ae hI;have HB:=ae eS;have HLF:=ae (Ei wr base bx vt gt ts s F k (HO.out.jU.below eS) (by omega));clear hI eS
  by_cases hlt:k<ms.length
  ·have mQ:(k:Int)<ms.length:=by omega
   go_wp2_with fail;refine HLF.out.mono ?_;rintro e' w' ⟨rfl,Og⟩;rw[Og];clear Og w' HLF
   cases pP:je s k with
   |false=>
    have HN:=ae (HI.out.skip pP);clear pP;go_wp2_with fail
    go_loopg [5,8] 0 (λ_ v5 v8 wq=>v5=.int .i64 e/\v8=.int .i64 0/\wq=wr)
    case atStart=>simp
    case round=>
     obtain⟨rfl,rfl,rfl⟩:=hrel;go_wp2_with fail
     go_roundg (ms.length-(k+1))
     case measure=>omega
     case rel=>exact⟨k+1,e,by omega,rfl,by go_num,HB.out,HN.out⟩
   |true=>
    go_wp2_with fail
    go_loopg [5,8] ls.length (λm v5 v8 wq=>∃i e:Nat,i+m=ls.length/\v5=.int .i64 e/\v8=.int .i64 i/\Below w2.heap.size w2 wq/\OI ms.length ls.length mm.length (λa=>je s a) (Vz vs s ms ls mm) e k i 0)
    case atStart=>exact⟨0,e,by omega,rfl,rfl,HB.out,HI.out⟩
    case round=>
     obtain⟨i,e,hi,rfl,rfl,eS,hI⟩:=hrel;have HI:=ae hI;have HB:=ae eS;clear hI eS
     by_cases oA:i<ls.length
     ·have J6:(i:Int)<ls.length:=by omega
      have dl:(0:Int)<=i:=by omega
      obtain⟨gU,azM,hU,_,hgU,_,_,hUc⟩:=aR HU2.out.own (by omega)
      cases hU
      have hui:i<us.length:=by rw[HU2.out.len];exact oA
      have Rk:=HU2.out.ni i hui oA;have x0:=(hUc i (by omega)).trans (List.getElem?_eq_getElem hui);obtain⟨ab,cb,hab,_,_⟩:=aj Rk;rw[hab]at x0 Rk;have HON:=ae (uu Rk rfl);have eS:=HL1.out ls[i] (List.getElem_mem oA);have HBL:=ae eS;have zi:ls.getD i []=ls[i]:=by simp[oA]
      have TN:=ae zi;clear hUc hab Rk eS zi;generalize ls[i]=xb at*;go_wp2_with fail
      go_loopg [5,9] mm.length (λm v5 v9 wq=>∃j e:Nat,j+m=mm.length/\v5=.int .i64 e/\v9=.int .i64 j/\Below w2.heap.size w2 wq/\OI ms.length ls.length mm.length (λa=>je s a) (Vz vs s ms ls mm) e k i j)
      case atStart=>exact⟨0,e,by omega,rfl,rfl,HB.out,HI.out⟩
      case round=>
       obtain⟨j,e,hj,rfl,rfl,eS,hI⟩:=hrel;have HI:=ae hI
       by_cases iP:j<mm.length
       ·have Kv:(j:Int)<mm.length:=by omega
        have zg:(0:Int)<=j:=by omega
        obtain⟨gV,azO,hV,_,hgV,_,_,hVc⟩:=aR HV.out.own (by omega)
        cases hV
        have hvj:j<vv.length:=by rw[HV.out.len];exact iP
        have Rk:=HV.out.ni j hvj iP;have z0:=(hVc j (by omega)).trans (List.getElem?_eq_getElem hvj);obtain⟨an,cn,Xn,_,_⟩:=aj Rk;rw[Xn]at z0 Rk;have hsn:=uu Rk rfl;have qf:=HL2.out mm[j] (List.getElem_mem iP);have hcd:Vz vs s ms ls mm k i j=(jA vs (xb++mm[j]) s ms k ms.length k).2:=by
         unfold Vz;rw[TN.out];simp[iP]
        generalize mm[j]=xn at*
        have RP:Hid (∀Y,Below wr.heap.size wr Y->Calls Tryz.prog 65 #[.pointer (some ⟨bx,0,none⟩),.int .i64 k,.slice ab xb.length cb,.slice an xn.length cn] Y λe w'=>e=.returned (.tuple #[.int .i64 (jA vs (xb++xn) s ms k ms.length k).1,.int .i64 (jA vs (xb++xn) s ms k ms.length k).2])/\Below Y.heap.size Y w'):=ae (λY hY=>
         Eh ⟨HO.out.jU,HO.out.tok,HO.out.vars,HO.out.Iu,HBL.out,qf,HON.out,hsn⟩ HO.out.Pk k hlt cb cn Y (eS.trans (hY.mono eS.size)))
        have t0:=(eS.cell hgU).trans x0;have t1:=(eS.cell hgV).trans z0;have MU:=ae hcd;have HB:=ae eS;have lU:=Nat.lt_of_lt_of_le hgU eS.size;have lV:=Nat.lt_of_lt_of_le hgV eS.size;clear eS hsn qf hcd Rk Xn hVc z0 hI;generalize jA vs (xb++xn) s ms k ms.length k=pp at*;obtain⟨pt,pe⟩:=pp;go_upto_region 14 with(fail)
        go_region_held3 (λW=>W.cell? ⟨gU,i,none⟩=some (.slice ab xb.length cb)/\W.cell? ⟨gV,j,none⟩=some (.slice an xn.length cn)) (first|go_keep|(exact⟨by with_reducible assumption,by with_reducible assumption⟩))
         ((go_at_call 65;(with_reducible refine(RP.out _ ?_).mono ?_);exact⟨rfl,rfl,rfl,Nat.le_refl _,λ_ _=>rfl⟩;rintro e w5 ⟨rfl,oy⟩;have q0:=(oy.cell lU).trans t0;have q1:=(oy.cell lV).trans t1))
        all_goals
         have vT:=ae (HB.out.trans (Below.mono ⟨oy.os,oy.tape,oy.output,oy.size,oy.block⟩ HB.out.size));clear oy q0 q1 t0 t1
         by_cases h6:pe=6
         ·have h6':((pe:Int)==6)=true:=by simp;omega
          have HR:Hid (yX ms.length ls.length mm.length (λa=>je s a) (Vz vs s ms ls mm) pe):=ae (.inl ⟨h6,k,i,j,hlt,pP,oA,iP,by rw[MU.out];exact h6⟩);have Ga:=ae (dH.out.trans (vT.out.mono dH.out.size));clear h6;go_wp2_with fail;go_ret;exact⟨pe,rfl,HR.out,Ga.out⟩
         ·have h6':((pe:Int)==6)=false:=by simp;omega
          have HN:=ae (HI.out.step hlt pP oA iP (by rw[MU.out];exact h6));rw[MU.out]at HN;clear h6
          by_cases h7:pe=7
          ·have h7':((pe:Int)==7)=true:=by simp;omega
           have Nw:(if(pt,pe).2=7 then 7 else e)=pe:=by simp[h7]
           rw[Nw]at HN;clear h7 Nw;go_wp2_with fail
           go_roundg (mm.length-(j+1))
           case measure=>omega
           case rel=>exact⟨j+1,pe,by omega,rfl,by go_num,vT.out,HN.out⟩
          ·have h7':((pe:Int)==7)=false:=by simp;omega
           have Nw:(if(pt,pe).2=7 then 7 else e)=e:=by simp[h7]
           rw[Nw]at HN;clear h7 Nw;go_wp2_with fail
           go_roundg (mm.length-(j+1))
           case measure=>omega
           case rel=>exact⟨j+1,e,by omega,rfl,by go_num,vT.out,HN.out⟩
       ·have Kv:¬(j:Int)<mm.length:=by omega
        obtain rfl:j=mm.length:=by omega
        have HN:=ae HI.out.row;have HB:=ae eS;clear hI eS;go_wp2_with fail
        go_roundg (ls.length-(i+1))
        case measure=>omega
        case rel=>exact⟨i+1,e,by omega,rfl,by go_num,HB.out,HN.out⟩
     ·have J6:¬(i:Int)<ls.length:=by omega
      obtain rfl:i=ls.length:=by omega
      have HN:=ae HI.out.mode;go_wp2_with fail
      go_roundg (ms.length-(k+1))
      case measure=>omega
      case rel=>exact⟨k+1,e,by omega,rfl,by go_num,HB.out,HN.out⟩
  ·have mQ:¬(k:Int)<ms.length:=by omega
   obtain rfl:k=ms.length:=by omega
   have HD:=ae HI.out.done;have Ga:=ae (dH.out.trans (HB.out.mono dH.out.size));go_wp2_with fail;go_ret;exact⟨e,rfl,HD.out,Ga.out⟩
end
section
theorem vJ:∀(gs:List MG),(∀j (hj:j<gs.length),(gs.take j).any (dV gs[j].a.name.s)=false)->((gs.map (·.a)).map (·.name.s)).Nodup:=by
 intro gs h;rw[List.nodup_iff_pairwise_ne,List.pairwise_iff_getElem];intro i j hi hj Kd e;simp only [List.length_map]at hi hj;simp only [List.getElem_map]at e;have h1:=h j hj;rw[List.any_eq_false]at h1;have h2:=h1 gs[i] (by grind[List.mem_iff_getElem])
 grind[dV]
theorem Ej(gs:List MG):(Cx.dD (gs.map (·.a))).length=(gs.flatMap (·.a.rows)).length:=by
 unfold Cx.dD
 induction gs<;>grind
theorem VB{s:ByteArray}(ht:gM s ts)(hD:Io ts vs (gs.map (·.a)))(hL:Links gs)(hA:gA vs gs):
  ∃(n:Nat)(S:Hx.St)(L:List AQ),Hx.dk n ts (-1) 0 false Hx.St.zero=some S/\(fi S).code=0/\Cx.KeysOf vs (gs.map (·.a)) (L.map (fU vs))/\∀(w:World)(base bx gt:Nat)(vt:Value)(F:Nat->Prop),db w base bx vt gt ts (fi S) F->br w gt ts->Kg w base bx vt gt ts (fi S) F vs (gs.map (·.a)) L:=by
 obtain⟨hTD,n,qo⟩:=hD;obtain⟨h1,h2,_,n',S',hS',h0⟩:=ht;have hSS:=Np hS' qo;rw[hSS]at h0;obtain⟨arM,IW,azS⟩:=DF vs gs hL;obtain⟨hEq,_,_⟩:=xJ vs gs hL;have NC:(jl vs gs).cl.1=0:=by rw[<-hEq.1,h0];rfl
 obtain⟨L,e1,e2⟩:=arM.rel;obtain⟨k1,k2⟩:=OP NC;have hF:=hA.rc;obtain⟨l1,l2,l3⟩:=Qt ((fY Hx.St.zero vs).cT (gs.map (·.a)));obtain⟨Fh,_⟩:=Hx.yc s.data.toList (by simp;omega) ts h2;have kA:∀m∈gs.map (·.a),∀r∈m.rows,dZ vs (cK vs gs 0 gs (de vs 0 vs ⟨0,[],(0,0)⟩)) r.g:=by
  intro m hm r hr;obtain⟨g,hg,rfl⟩:=List.mem_map.1 hm;exact k2 g hg r hr
 have hmm:gs.map (·.a.p)=(gs.map (·.a)).map Hx.MA.p:=by simp
 refine⟨n,_,L,qo,h0,ab1 e2 kA,λw base bx gt vt F hT hK=>⟨hT,hK,⟨by grind,by simpa using hF.af,λm hm=>?_,λi hi=>?_,Fh.oM,λm hm r hr=>?_⟩,by grind,by grind[Mr],by grind,hF.vars,λj hj=>(hF.var j hj).1,λj hj=>?_⟩⟩
 ·obtain⟨g,hg,rfl⟩:=List.mem_map.1 hm
  have:=hF.rows;obtain⟨j,hj,rfl⟩:=List.getElem_of_mem hg;have h3:∀(l:List MG)(g:MG),g∈l->g.a.rows.length<=(l.flatMap (·.a.rows)).length:=by
   intro l
   induction l with
   |nil=>simp
   |cons x l ih=>
    grind
  grind
 ·simp only [List.length_map]at hi
  have:=(hL i gs[i].key (by simp[hi])).lt
  grind[MG.key]
 ·obtain⟨t,m',e,r',_,_,hmd,_⟩:=hTD
  obtain⟨k,k',hrd⟩:=ab0 hmd m hm r hr;obtain⟨q1,q2⟩:=Mq hrd (kA m hm r hr).ok;refine⟨q1,q2,λt ht=>?_⟩;obtain⟨g,hg,rfl⟩:=List.mem_map.1 hm;obtain⟨_,_,hd⟩:=hF.row;have hb:=(hd g hg r hr).2;unfold cg at hb;rw[ht]at hb;simp only [Bool.not_eq_false']at hb;obtain⟨x,hx,hxe⟩:=List.any_eq_true.1 hb;exact List.findIdx_lt_length_of_exists ⟨x.a,List.mem_map.2 ⟨x,hx,rfl⟩,hxe⟩
 ·obtain⟨_,b1,b2,_⟩:=hF.var j hj
  grind[Bool.or_eq_false_iff,decide_eq_false_iff_not,iA]
def Cx.DZ(vs:List az)(ms:List Hx.MA):Int:=match Cx.find vs ms with|none=>0|some x=>x.1
theorem Qv{L:List AQ}{r:Nat}(hO:Kg w base bx vt gt ts s F vs (gs.map (·.a)) L)(hL:Links gs)(hF:un vs gs)(hK:Cx.KeysOf vs (gs.map (·.a)) (L.map (fU vs)))
  (h:yX (gs.map (·.a)).length (Cx.bM vs (L.map (fU vs)) true).length (Cx.bM vs (L.map (fU vs)) false).length (λa=>je s a) (Vz vs s (gs.map (·.a)) (Cx.bM vs (L.map (fU vs)) true) (Cx.bM vs (L.map (fU vs)) false)) r):(r:Int)=Cx.DZ vs (gs.map (·.a)):=by
 rw[ab3 hO.Pk.af hO.Pk.out (by rw[Ej];have:=hF.rows;omega) (vJ gs hF.mode) (λi hi j hj=>by
  simp only [List.length_map]at hi|-
  exact wQ hL i hi j hj) h]
 refine Cx.OH (λi hi=>?_) hK;unfold Cx.fj Cx.fT;rw[List.getElem?_eq_getElem hi];exact(hF.var i hi).2.2.2
end
section
open Go.RowKit
theorem Ir(s:ByteArray)(w:World)(hs:s.size<=maxLen)(code line:Nat)(hf:kE s code line)(hc:code≠0):
  Calls Tryz.prog 38 #[.string s] w λe w'=>e=.returned (.tuple #[.pointer none,.agg (ay code line)])/\Below w.heap.size w w':=by
 have Fd:=ae (JC s (w.alloc (.cells (ay 0 0) 34)) hs code line hf hc);have b6:Hid (Below w.heap.size w (w.alloc (.cells (ay 0 0) 34))):=ae (ag _ _);have og:=ae (heap_alloc_new w (.cells (ay 0 0) 34));have vR:Hid ((w.alloc (.cells (ay 0 0) 34)).heap.size=w.heap.size+1):=ae (by simp);clear hf hc hs;rw[show(ay 0 0:Array Value)=#[.int .i64 0,.int .i64 0,.string ⟨#[]⟩,.slice none 0 0,.slice none 0 0]from rfl]at Fd b6 og vR;go_enter Tryz.func38,Tryz.ntmps38;go_wp2_with fail;generalize w.alloc (.cells #[.int .i64 0,.int .i64 0,.string ⟨#[]⟩,.slice none 0 0,.slice none 0 0] 34)=W1 at*;refine Fd.out.mono ?_;rintro e w2 ⟨rfl,aT⟩;have jT:=aT.size;have hz:=vR.out;have mY:=(aT.block w.heap.size (by omega)).trans og.out;have kc:=b6.out.trans (aT.mono (by omega));have ym:=heap_alloc_new w2 (.cells (ay code line) 34);have rG:=((ag w2 (.cells (ay code line) 34)).block w.heap.size (by omega)).trans mY;have mc:=kc.alloc (by omega) (.cells (ay code line) 34);clear aT kc mY Fd;unfold ay at ym rG mc|-;go_wp2_with fail;generalize w2.alloc (.cells #[.int .i64 code,.int .i64 line,.string ⟨#[]⟩,.slice none 0 0,.slice none 0 0] 34)=X at*;obtain⟨a0,a1,a2,a3,a4,_,_,_,_,_⟩:=f9 (c:=code) (l:=line) ym;obtain⟨y0,y1,y2,y3,y4,z0,z1,z2,z3,z4⟩:=f9 (c:=0) (l:=0) rG;have fM:Hid (Below w.heap.size w X.drew):=ae ⟨mc.os,mc.tape,mc.output,mc.size,mc.block⟩;clear rG ym mc
 go_region
 all_goals
  go_wp2_with fail;refine bodyPost_ret (v:=.tuple #[.pointer none,.agg #[.int .i64 code,.int .i64 line,.string ⟨#[]⟩,.slice none 0 0,.slice none 0 0]]) (by simp[results,Tryz.results38,go_sem, *]) rfl ?_;exact⟨rfl,dh fM.out⟩
theorem It(s:ByteArray)(w:World)(ts:List Hx.Tok)(vs:List az)(gs:List MG)(ht:gM s ts)(hD:Io ts vs (gs.map (·.a)))(hL:Links gs)(hA:gA vs gs):
  Calls Tryz.prog 38 #[.string s] w λe w'=>∃bx r:Nat,e=.returned (.tuple #[.pointer (some ⟨bx,0,none⟩),.agg (ay r 0)])/\(r:Int)=Cx.DZ vs (gs.map (·.a))/\(∃base gt vt F S L,Kg w' base bx vt gt ts S F vs (gs.map (·.a)) L/\Cx.KeysOf vs (gs.map (·.a)) (L.map (fU vs)))/\Below w.heap.size w w':=by
 obtain⟨n,S,L,qo,h0,hK,hO⟩:=VB ht hD hL hA;have Fd:=ae (JE s (w.alloc (.cells (ay 0 0) 34)) ts ht n S qo h0);have b6:Hid (Below w.heap.size w (w.alloc (.cells (ay 0 0) 34))):=ae (ag _ _);have og:=ae (heap_alloc_new w (.cells (ay 0 0) 34));have vR:Hid ((w.alloc (.cells (ay 0 0) 34)).heap.size=w.heap.size+1):=ae (by simp);have HO:=ae hO;have HK:=ae hK;have HL:=ae hL;have HF:=ae hA.rc;clear ht hD hL hA qo h0 hK hO;rw[show(ay 0 0:Array Value)=#[.int .i64 0,.int .i64 0,.string ⟨#[]⟩,.slice none 0 0,.slice none 0 0]from rfl]at Fd b6 og vR;go_enter Tryz.func38,Tryz.ntmps38;go_wp2_with fail;generalize w.alloc (.cells #[.int .i64 0,.int .i64 0,.string ⟨#[]⟩,.slice none 0 0,.slice none 0 0] 34)=W1 at*;refine Fd.out.mono ?_;rintro e w2 ⟨bx,gt,cap,base,rfl,R4,vh,hm,⟨F,hT⟩,aT⟩;have jT:=aT.size;have hz:=vR.out;have mY:=(aT.block w.heap.size (by omega)).trans og.out;have kc:=b6.out.trans (aT.mono (by omega));have hXO:=(HO.out w2 base bx gt _ F hT hm).below (ag w2 (.cells (ay 0 0) 34));have rG:=((ag w2 (.cells (ay 0 0) 34)).block w.heap.size (by omega)).trans mY;have mc:=kc.alloc (by omega) (.cells (ay 0 0) 34);have TH:(w2.alloc (.cells (ay 0 0) 34)).heap.size=w2.heap.size+1:=by simp
 clear aT kc mY Fd hT hm HO;unfold ay at rG mc hXO TH;go_wp2_with fail;generalize w2.alloc (.cells #[.int .i64 0,.int .i64 0,.string ⟨#[]⟩,.slice none 0 0,.slice none 0 0] 34)=X at*;have HOP:=ae (VA hXO);have HXO:=ae hXO;have Ps:=ae rG;have fM:=ae mc;clear hXO rG mc;go_wp2_with fail;refine HOP.out.mono ?_;rintro e w3 ⟨r,rfl,hr,eC⟩;have rG:=(eC.block w.heap.size (by omega)).trans Ps.out;obtain⟨y0,y1,y2,y3,y4,z0,z1,z2,z3,z4⟩:=f9 (c:=0) (l:=0) rG;have HC:=ae (Qv HXO.out HL.out HF.out HK.out hr);have hO3:=HXO.out.below eC;have ji:=ae (fM.out.trans (eC.mono fM.out.size));have mH:=ae hO3;have oS:=eC.size;clear rG eC hr HOP hO3;go_wp2_with fail;refine bodyPost_ret (v:=.tuple #[.pointer (some ⟨bx,0,none⟩),.agg #[.int .i64 r,.int .i64 0,.string ⟨#[]⟩,.slice none 0 0,.slice none 0 0]]) (by simp[results,Tryz.results38,go_sem, *]) rfl ?_;have Kj:=kF (Kp.refl (λk=>k=w.heap.size) w3) (.inl rfl) (.int .i64 r) (.int .i64 0) (.string ⟨#[]⟩) (.slice none 0 0) (.slice none 0 0);exact⟨bx,r,rfl,HC.out,⟨base,gt,_,F,_,L,⟨mH.out.jU.kept Kj (λk hk e=>by omega),mH.out.tok.aep Kj (by omega),mH.out.Pk,mH.out.atoms,mH.out.vars,mH.out.ab4,mH.out.Iu,mH.out.names,mH.out.rng⟩,HK.out⟩,dh ji.out⟩
theorem Nu{code:Int}{nm:ByteArray}(hL:Links gs)(hF:un vs gs)(hm:s.af=(gs.map (·.a)).map Hx.MA.p)(hv:s.vars=vs.map az.p)(hw:∀q∈Cx.bS vs (gs.map (·.a)),q.which<2*vs.length)(h:Cx.find vs (gs.map (·.a))=some (code,nm,xs)):
  ∃k,k<gs.length/\je s k=true/\xs.length=2*vs.length/\(∀j (hj:j<gs.length),gs[j].a.name.s=nm↔j=k)/\gS s (xs.take vs.length)=true/\gS s (xs.drop vs.length)=true/\((jA vs xs s (gs.map (·.a)) k gs.length k).2:Int)=code:=by
 obtain⟨_,⟨k,hk,hn,hx,hc⟩,_⟩:=Cx.qx (λi hi=>by
  unfold Cx.fj Cx.fT;rw[List.getElem?_eq_getElem hi]
  exact(hF.var i hi).2.2.2) hw h
 simp only at hn hx hc;have Ng:=lH hk;have hnd:=vJ gs hF.mode;have hnk:nm=gs[k].a.name.s:=by rw[hn];simp[Cx.nameOf,Ng]
 have hlen:=hx.len;have vW:∀i (hi:i<vs.length),Cx.fj vs i=vs[i].first.n:=λi hi=>by simp[Cx.fj,hi]
 have Nd:∀i (hi:i<vs.length),Cx.fT vs i=vs[i].last.n:=λi hi=>by simp[Cx.fT,hi]
 have alP:∀ys:List Int,ys.length=vs.length->(∀i (hi:i<ys.length) (qe:i<vs.length),vs[i].first.n<=ys[i]/\ys[i]<=vs[i].last.n)->gS s ys=true:=by
  intro ys hl hy;unfold gS;rw[hv,List.length_map,hl,beq_self_eq_true,Bool.true_and,List.all_eq_true];intro q hq;obtain⟨i,hi,rfl⟩:=List.getElem_of_mem hq;simp only [List.length_zip,List.length_map]at hi;have:=hy i (by omega) (by omega);simp only [List.getElem_zip,List.getElem_map,yY,az.p];rw[decide_eq_true this.1,decide_eq_true this.2];rfl
 refine⟨k,Ng,?_,hlen,λj hj=>?_,alP _ (by grind) (λi hi qe=>?_),alP _ (by grind) (λi hi qe=>?_),?_⟩
 ·grind[Cx.leaves,Cx.dR,NV]
 ·rw[hnk]
  constructor
  ·grind[absurd,Nat.lt_trichotomy,List.pairwise_iff_getElem]
  grind
 ·have h1:=hx.lo i (by omega)
  have h2:=hx.hi i (by omega)
  grind[Nat.mod_eq_of_lt]
 ·have h1:=hx.lo (vs.length+i) (by omega)
  have h2:=hx.hi (vs.length+i) (by omega);rw[Nat.add_mod_left,Nat.mod_eq_of_lt qe,vW i qe]at h1;rw[Nat.add_mod_left,Nat.mod_eq_of_lt qe,Nd i qe]at h2
  grind
 ·have:=Cx.xT vs (gs.map (·.a)) (by rw[Ej];have:=hF.rows;omega) hnd k (λj hj=>by simp only [List.length_map];exact wQ hL k Ng j hj) xs
  rw[hc]at this;rw[this]
  have:=JB vs xs s (gs.map (·.a)) k (λi hi=>by
   simp only [List.length_map]at hi;have:=(hL i gs[i].key (by simp[hi])).lt
   grind[MG.key]) k k gs.length (by grind) (Nat.le_refl _) Ng
  exact this
theorem jB{sa:Option Addr}(h:Xt w sa xs)(hb:Below w.heap.size w w'):Xt w' sa xs:=λi hi=>by
 obtain⟨g,o,e,hc⟩:=h i hi;exact⟨g,o,e,(hb.cell (World.block_lt_of_cell? w _ hc)).trans hc⟩
theorem Pl{L:List AQ}(h:Kg w base bx vt gt ts s F vs (gs.map (·.a)) L)(hL:Links gs)(hF:un vs gs)(hw:∀q∈Cx.bS vs (gs.map (·.a)),q.which<2*vs.length)(code:Int)(nm:ByteArray)(xs:List Int)(hf:Cx.find vs (gs.map (·.a))=some (code,nm,xs))
  (b1 b2 cv cu:Nat) (av au:Option Addr) (hv:w.ownsRow b1 3 1 (.slice av vs.length cv) vs.length ((xs.take vs.length).map (.int .i64))) (hu:w.ownsRow b2 3 1 (.slice au vs.length cu) vs.length ((xs.drop vs.length).map (.int .i64))):
  Calls Tryz.prog 39 #[.pointer (some ⟨bx,0,none⟩),.agg #[.int .i64 code,.int .i64 0,.string nm,.slice av vs.length cv,.slice au vs.length cu]] w λe w'=>e=.returned (.bool true)/\Below w.heap.size w w':=by
 obtain⟨k,hk,pP,hlen,nU,gI,jT,hcd⟩:=Nu hL hF h.Pk.af h.vars hw hf;have e1:(xs.take vs.length).length=vs.length:=by simp;omega
 have e2:(xs.drop vs.length).length=vs.length:=by simp;omega
 have HV:=ae (uu hv e1.symm);have HU:=ae (uu hu e2.symm);have HX:=ae (List.take_append_drop vs.length xs);have XG:=h.Pk.agX;have hvf:=h.Iu;have iq:s.af.length=gs.length:=by rw[h.Pk.af];simp
 have Lp:Hid (Below w.heap.size w (w.alloc (.cells #[.int .i64 code,.int .i64 0,.string nm,.slice av vs.length cv,.slice au vs.length cu] 34))):=ae (ag _ _);have HW0:=ae (heap_alloc_new w (.cells #[.int .i64 code,.int .i64 0,.string nm,.slice av vs.length cv,.slice au vs.length cu] 34));simp only [List.length_map]at XG;obtain⟨X,hX⟩:∃X,X=w.alloc (.cells #[.int .i64 code,.int .i64 0,.string nm,.slice av vs.length cv,.slice au vs.length cu] 34):=⟨_,rfl⟩;rw[<-hX]at Lp HW0;have HO:=ae (h.below Lp.out);have zh:=ae nU;have MU:=ae hcd;have tH:=ae gI;have Dl:=ae jT;have hMD:=HO.out.jU.mode;rw[HO.out.Pk.af]at hMD;obtain⟨am,cm,m2,rI⟩:=hMD;simp only [List.length_map]at m2
 have Xy:Hid (∀j (hj:j<gs.length),∃gm,am=some ⟨gm,0,none⟩/\X.cell? ⟨gm,j*5,none⟩=some (.string gs[j].a.name.s)):=ae (λj hj=>by
  grind[Hx.MA.p])
 have f2:=jr HW0.out;have HLF:Hid (∀(j:Nat) Y,Below X.heap.size X Y->Calls Tryz.prog 63 #[.pointer (some ⟨bx,0,none⟩),.int .i64 j] Y λe w'=>e=.returned (.bool (je s j))/\w'=Y):=ae (λj Y hY=>Ei _ base bx vt gt ts s F j (HO.out.jU.below hY) (by omega));have arN:=ae pP;clear rI nU hcd gI jT h hv hu hf hw hF hL pP;go_enter Tryz.func39,Tryz.ntmps39;go_upto_region 1 with(fail);rw[<-hX];clear hX;go_wp2_with fail
 go_loopg [5,6] gs.length (λm v5 v6 wr=>∃(j q:Nat),j+m=gs.length/\v5=.int .i64 (if k<j then(k:Int)else-1)/\v6=.int .i64 j/\wr=X.drewN q)
 case atStart=>exact⟨0,0,by omega,rfl,rfl,rfl⟩
 case round=>
  obtain⟨j,q,hj,rfl,rfl,rfl⟩:=hrel
  by_cases iP:j<gs.length
  ·have Kv:(j:Int)<gs.length:=by omega
   have zg:(0:Int)<=j:=by omega
   obtain⟨gm,rfl,e0⟩:=Xy.out j iP
   by_cases N9:j=k
   ·have hn:(gs[j].a.name.s.toList==nm.toList)=true:=by rw[(zh.out j iP).2 N9];simp
    have Rc:=ae (HLF.out j);have kq:=arN.out;rw[<-N9]at kq;rw[kq]at Rc;have HV5:Hid (((if k<j+1 then(k:Int)else-1))=(j)):=ae (by omega);clear kq N9;generalize gs[j].a.name.s=nj at*;go_upto_region 5 with(fail)
    go_quiet (first|(go_at_call 63;refine(Rc.out _ ?_).mono (λ_ _ h=>⟨h.1,_,h.2⟩);exact⟨rfl,rfl,rfl,Nat.le_refl _,λ_ _=>rfl⟩))
    go_wp2_with fail
    go_roundg (gs.length-(j+1))
    case measure=>omega
    case rel=>exact⟨j+1,_,by omega,by rw[HV5.out],by go_num,rfl⟩
   ·have hn:(gs[j].a.name.s.toList==nm.toList)=false:=by
     rw[beq_eq_false_iff_ne];exact λe=>N9 ((zh.out j iP).1 (IK (by rw[<-Lib.toList_data,<-Lib.toList_data];exact e)))
    have HV5:Hid (((if k<j+1 then(k:Int)else-1))=if k<j then(k:Int)else-1):=ae (by
     omega)
    clear N9;generalize gs[j].a.name.s=nj at*;generalize (if k<j then(k:Int)else-1)=v5 at*;go_upto_region 5 with(fail)
    go_quiet (fail)
    go_wp2_with fail
    go_roundg (gs.length-(j+1))
    case measure=>omega
    case rel=>exact⟨j+1,_,by omega,by rw[HV5.out],by go_num,rfl⟩
  ·have Kv:¬(j:Int)<gs.length:=by omega
   have hkj:(if k<j then(k:Int)else-1)=k:=by rw[if_pos (by omega)]
   rw[hkj];have HOQ:=ae (HO.out.below (below_drewN (Below.refl _ _) q));have f0:(X.drewN q).cell? ⟨w.heap.size,0,none⟩=some (.int .i64 code):=Lib.cell_of_heap HW0.out 0;have f3:(X.drewN q).cell? ⟨w.heap.size,3,none⟩=some (.slice av vs.length cv):=Lib.cell_of_heap HW0.out 3;have f4:(X.drewN q).cell? ⟨w.heap.size,4,none⟩=some (.slice au vs.length cu):=Lib.cell_of_heap HW0.out 4;have hlw:w.heap.size<(X.drewN q).heap.size:=(Array.getElem?_eq_some_iff.1 HW0.out).1;have NK:=ae (below_drewN Lp.out q);have m2':(X.drewN q).cell? ⟨bx,2,none⟩=_:=m2;clear hkj f2 m2;generalize X.drewN q=Y at*;have HVY:=ae (jB HV.out NK.out);have HUY:=ae (jB HU.out NK.out);have P5:=vK Y base bx vt gt ts s F av cv _ HOQ.out.jU (by rw[HOQ.out.vars,List.length_map];omega) HVY.out;rw[e1,tH.out]at P5;have P5:=ae P5;go_wp2_with fail;refine P5.out.mono ?_;rintro e w3 ⟨rfl,eC⟩;have HSB:=vK w3 base bx vt gt ts s F au cu _ (HOQ.out.jU.below eC) (by rw[HOQ.out.vars,List.length_map];omega) (jB HUY.out eC);rw[e2,Dl.out]at HSB;have HSB:=ae HSB;have g0:=(eC.cell hlw).trans f0;have g3:=(eC.cell hlw).trans f3;have g4:=(eC.cell hlw).trans f4;have mH:=ae (HOQ.out.below eC);have HV3:=ae (jB HVY.out eC);have HU3:=ae (jB HUY.out eC);have XD:=Nat.lt_of_lt_of_le hlw eC.size;have ji:=ae (NK.out.trans (eC.mono NK.out.size));clear f0 f3 f4 eC P5 HOQ HVY HUY NK hlw m2';go_wp2_with fail;refine HSB.out.mono ?_;rintro e w4 ⟨rfl,er⟩;have f0:=(er.cell XD).trans g0;have f3:=(er.cell XD).trans g3;have f4:=(er.cell XD).trans g4;have Nz:=mH.out.below er;have RP:=Eh ⟨Nz.jU,Nz.tok,Nz.vars,Nz.Iu,e1,e2,jB HV3.out er,jB HU3.out er⟩ Nz.Pk k (by simpa using hk) cv cu w4 (Below.refl _ _);rw[HX.out,e1,e2,List.length_map]at RP;have RP:=ae RP;have PU:=Nat.lt_of_lt_of_le XD er.size;have nY:=ae (ji.out.trans (er.mono ji.out.size));have jf:¬(k:Int)<0:=by omega
   generalize jA vs xs s (gs.map (·.a)) k gs.length k=pp at*;obtain⟨pt,pe⟩:=pp;clear g0 g3 g4 er HSB mH Nz HV3 HU3 XD ji;go_wp2_with fail;refine RP.out.mono ?_;rintro e w5 ⟨rfl,oy⟩;have g0:=(oy.cell PU).trans f0;have vT:=ae (nY.out.trans (oy.mono nY.out.size));have Nw:(code==(pe))=true:=by rw[MU.out.symm];simp
   clear f0 f3 f4 oy RP;go_wp2_with fail;refine(Zn w5 code).mono ?_;rintro e w6 ⟨rfl,hw6⟩;rw[hw6];clear hw6 w6;go_wp2_with fail;go_ret;exact⟨rfl,vT.out⟩
