/- The walk of the document's own ReadImage. -/
import Derived.Test.YtdjaiolfdbamcaaGreatDoorZBWb
set_option maxRecDepth 20000
set_option maxHeartbeats 4000000
namespace Go.Proofs.YtdjaiolfdbamcaaGreatDoor
open Go.RowKit
attribute [local go_sem↓] Go.wp_at_zero Go.wp_at_succ
theorem RS(s:List UInt8)(k:Nat):Mx.pr s k<65536:=by
 have h1:=(Mx.bt s k).toNat_lt;have h2:=(Mx.bt s (k+1)).toNat_lt
 grind[Mx.pr,Mx.two]
theorem Dp(l:List UInt8):0<=Cx.Dg l/\Cx.Dg l<4294967296:=by
 rw[Kx.MS];have:=Nat.xor_lt_two_pow (Kr l) (show 4294967295<2^32 by decide);omega
theorem aeU{s:List UInt8}{n:Nat}(h:s.length=n+4):(Cx.fd (s.take n)=s.drop n)↔((Mx.pr s n:Nat):Int)+65536*((Mx.pr s (n+2):Nat):Int)=Cx.Dg (s.take n):=by
 obtain⟨x,hx⟩:∃x,x=Cx.Dg (s.take n):=⟨_,rfl⟩;have hr:=Dp (s.take n);have hd:s.drop n=[Mx.bt s n,Mx.bt s (n+1),Mx.bt s (n+2),Mx.bt s (n+3)]:=by
  rw[Mx.ak s n (by omega),Mx.ak s (n+1) (by omega),Mx.ak s (n+2) (by omega),Mx.ak s (n+3) (by omega),List.drop_of_length_le (by omega)]
 unfold Cx.fd Mx.pr Mx.two;rw[hd,<-hx];rw[<-hx]at hr;have b0:=(Mx.bt s n).toNat_lt;have b1:=(Mx.bt s (n+1)).toNat_lt;have b2:=(Mx.bt s (n+2)).toNat_lt;have b3:=(Mx.bt s (n+3)).toNat_lt;have key:∀(d:Int)(b:UInt8),0<d->(Cx.lR x d=b↔x/d%256=(b.toNat)):=by
  intro d b hd;have h1:=Int.emod_nonneg (x/d) (show(256)≠0 by decide);have h2:=Int.emod_lt_of_pos (x/d) (show(0)<256 by decide);unfold Cx.lR;constructor
  ·grind[UInt8.toNat_ofNat',Nat.mod_eq_of_lt]
  ·simp_all
 simp only [List.cons.injEq,and_true]
 grind
theorem Tryz.infoLeafB:(Tryz.prog.info? 119).map (λi=>(i.zero,i.size,i.bytes))=some (some (.agg #[.string ⟨#[]⟩,.string ⟨#[]⟩]),2,32):=by kernel_rfl
def RT(q:List UInt8×List UInt8):List Value:=[.string ⟨q.1.toArray⟩,.string ⟨q.2.toArray⟩]
structure RIm(W:World)(xb:Nat)(im:Mx.Zd)(vlo vhi vlv:Value):Prop where
 box:W.heap[xb]?=some (.cells #[vlo,vhi,.int .i64 (im.first:Int),vlv] 122 (0,0))
 lo:∃b,W.ownsRow b 3 1 vlo im.vars.length (im.vars.map λq=>.int .i64 q.1)
 hi:∃b,W.ownsRow b 3 1 vhi im.vars.length (im.vars.map λq=>.int .i64 q.2)
 lv:∃b,W.ownsRow b 119 2 vlv im.leaves.length (im.leaves.flatMap RT)
def aoG(s:ByteArray)(w:World)(e:Ending)(w':World):Prop:=Below w.heap.size w w'/\match Mx.ku s.data.toList with
 |none=>∃pv,e=.returned (.tuple #[.pointer pv,.bool false])
 |some im=>∃xb vlo vhi vlv,e=.returned (.tuple #[.pointer (some ⟨xb,0,none⟩),.bool true])/\RIm w' xb im vlo vhi vlv/\w.heap.size<=xb
theorem zt(s:ByteArray)(w:World)(hs:s.size<=1000000000):
  Calls Tryz.prog 41 #[.string s] w λe w'=>aoG s w e w':=by
 obtain⟨p,hp⟩:∃p,p=s.data.toList:=⟨_,rfl⟩;have tS:p.length=s.size:=by rw[hp];simp
 have F2:Hid (s.data.toList=p):=ae hp.symm;have fR:Hid (∀k,byteOf s k=Mx.bt p k):=ae (λk=>by rw[hp];rfl);have KC:Hid (∀k (hk:k<s.size),s[k]=Mx.bt p k):=ae (λk hk=>by rw[mf s k hk,hp];rfl);have hT5:s.size≥5->((s.extract 0 5).toList==[72,69,76,77,49])=(p.take 5==Mx.hd):=by
  intro h;rw[Lib.toList_data,hp];simp[ByteArray.data_extract,Mx.hd]
 clear hp
 by_cases hA:60000<s.size\/s.size<12
 ·have HN:Hid (Mx.ku p=none):=ae (by unfold Mx.ku;rw[if_pos (by omega)])
  clear hT5
  by_cases h6:60000<s.size
  ·have h6i:(60000:Int)<s.size:=by omega
   go_enter Tryz.func41,Tryz.ntmps41;go_wp2_with fail;refine bodyPost_ret (v:=.tuple #[.pointer none,.bool false]) (by simp[results,Tryz.results41,go_sem]) rfl ?_;refine⟨Below.refl _ _,?_⟩;rw[F2.out,HN.out];exact⟨none,rfl⟩
  ·have h6i:¬(60000:Int)<s.size:=by omega
   have h12:(s.size:Int)<12:=by omega
   go_enter Tryz.func41,Tryz.ntmps41;go_wp2_with fail;refine bodyPost_ret (v:=.tuple #[.pointer none,.bool false]) (by simp[results,Tryz.results41,go_sem]) rfl ?_;refine⟨Below.refl _ _,?_⟩;rw[F2.out,HN.out];exact⟨none,rfl⟩
 ·have h6i:¬(60000:Int)<s.size:=by omega
  have h12:¬(s.size:Int)<12:=by omega
  have h5:=hT5 (by omega);clear hT5
  cases hh:(p.take 5==Mx.hd)with
  |false=>
   rw[hh]at h5;have HN:Hid (Mx.ku p=none):=ae (by unfold Mx.ku;rw[if_pos (.inr (.inr (by simpa using hh)))]);clear hh;go_enter Tryz.func41,Tryz.ntmps41;go_wp2_with fail;refine bodyPost_ret (v:=.tuple #[.pointer none,.bool false]) (by simp[results,Tryz.results41,go_sem]) rfl ?_;refine⟨Below.refl _ _,?_⟩;rw[F2.out,HN.out];exact⟨none,rfl⟩
  |true=>
   rw[hh]at h5;have HHD:Hid (p.take 5=Mx.hd):=ae (by simpa using hh);clear hh;obtain⟨n,hn⟩:∃n,n=s.size-4:=⟨_,rfl⟩;have hni:IntKind.i64.wrap ((s.size)-4)=n:=by rw[IntWalk.i64_in _ (by omega)];omega
   have awM:(s.size:Int)-4=n:=by omega
   go_enter Tryz.func41,Tryz.ntmps41;obtain⟨n2,MW⟩:∃n2,n2=n+2:=⟨_,rfl⟩;have mh:IntKind.i64.wrap ((n)+2)=n2:=by rw[IntWalk.i64_in _ (by omega)];omega
   have Ex:(0:Int)<=n:=by omega
   have hns:(n:Int)<=s.size:=by omega
   have hC1:Hid (∀W,Calls Tryz.prog 66 #[.string s,.int .i64 n] W λe w'=>e=.returned (.int .i64 (Mx.pr p n))/\Below W.heap.size W w'):=ae (λW=>by have h:=od s n W (by omega) hs;rw[fR.out,fR.out]at h;exact h);have hC2:Hid (∀W,Calls Tryz.prog 66 #[.string s,.int .i64 n2] W λe w'=>e=.returned (.int .i64 (Mx.pr p n2))/\Below W.heap.size W w'):=ae (λW=>by have h:=od s n2 W (by omega) hs;rw[fR.out,fR.out]at h;exact h);have hC3:Hid (∀W,Calls Tryz.prog 67 #[.string (s.extract 0 n)] W λe w'=>e=.returned (.int .u32 (Cx.Dg (p.take n)))/\w'=W):=ae (λW=>by have h:=Ze (s.extract 0 n) W (by simp;omega);rw[show(s.extract 0 n).data.toList=p.take n by rw[<-F2.out];simp[]]at h;exact h);have HSM:Hid ((Cx.fd (p.take n)=p.drop n)↔((Mx.pr p n))+65536*((Mx.pr p n2))=Cx.Dg (p.take n)):=ae (by rw[MW];exact aeU (by omega));have Dq:=Dp (p.take n);have rD:=RS p n;have nD:=RS p n2;generalize Mx.pr p n=a1 at*;generalize Mx.pr p n2=a2 at*;generalize Cx.Dg (p.take n)=cr at*;have HN2:=ae MW;have Kb:=ae hn;clear MW hn;go_wp2_with fail
   go_region_held3 (λ_=>True) (first|go_keep|trivial)
    (first
     |(go_at_call 66;with_reducible refine(hC1.out _).mono ?_;rintro e w1 ⟨rfl,bH⟩)
     |(go_at_call 66;with_reducible refine(hC2.out _).mono ?_;rintro e w2 ⟨rfl,aT⟩)
     |(go_at_call 67;with_reducible refine(hC3.out _).mono ?_;rintro e w3 ⟨rfl,zq⟩))
   have Xj:IntKind.u32.wrap (IntKind.u32.wrap (a1)+IntKind.u32.wrap (IntKind.u32.wrap (a2)*65536))=(a1)+65536*(a2):=by
    rw[IntWalk.u32_in (a1) (by omega),IntWalk.u32_in (a2) (by omega),IntWalk.u32_in ((a2)*65536) (by omega),IntWalk.u32_in _ (by omega)];omega
   rw[Xj];have dH:Hid (Below w.heap.size w w2):=ae ((bm w).trans ((bH.trans (aT.mono bH.size)).mono (bm w).size));clear bH aT Xj zq hC1 hC2 hC3
   cases hq:((a1:Int)+65536*(a2:Int) !=cr)with
   |true=>
    have HN:Hid (Mx.ku p=none):=ae (by
     unfold Mx.ku
     rw[if_neg (by rintro(h|h|h);omega;omega;exact h HHD.out),if_pos (by
      intro h;rw[tS,<-Kb.out]at h;have:=HSM.out.1 h;rw[this]at hq
      simp at hq)])
    clear hq;go_wp2_with fail;refine bodyPost_ret (v:=.tuple #[.pointer none,.bool false]) (by simp[results,Tryz.results41,go_sem]) rfl ?_;refine⟨dH.out,?_⟩;rw[F2.out,HN.out];exact⟨none,rfl⟩
   |false=>
    have Xk:Hid (¬Cx.fd (p.take (p.length-4))≠p.drop (p.length-4)):=ae (by
     intro h;rw[tS,<-Kb.out]at h
     exact h (HSM.out.2 (by simpa using hq)))
    clear hq HSM Dq rD nD;have Zv:(5:Int)<s.size:=by omega
    have x5:=KC.out 5 (by omega);have aiX:=(Mx.bt p 5).toNat_lt;obtain⟨v,hv⟩:∃v,v=(Mx.bt p 5).toNat:=⟨_,rfl⟩
    have Xl:Hid (Mx.ku p=if 3<v\/n<6+4*v+2 then none else if 12<(Mx.bt p (6+4*v)).toNat\/(Mx.bt p (6+4*v)).toNat<=(Mx.bt p (6+4*v+1)).toNat then none
     else match Mx.fA p n (Mx.bt p (6+4*v)).toNat (2*v) (Mx.bt p (6+4*v)).toNat (6+4*v+2)with
      |none=>none
      |some (ls,e)=>if e=n then some ⟨Mx.gT p v,ls,(Mx.bt p (6+4*v+1)).toNat⟩else none):=ae (by
     unfold Mx.ku
     rw[if_neg (by rintro(h|h|h);omega;omega;exact h HHD.out),if_neg Xk.out,tS,<-Kb.out,hv];rfl)
    rw[<-hv]at aiX;have hvi:((Mx.bt p 5).toNat:Int)=v:=by rw[hv]
    have Zw:=ae hv;clear hv;obtain⟨k,hk⟩:∃k,k=6+4*v:=⟨_,rfl⟩;have rM:(6:Int)+4*(v:Int)=k:=by omega
    have awN:n<=s.size:=by omega
    rw[<-hk]at Xl;have HKV:=ae hk;obtain⟨X,hX⟩:∃X,X=w2.alloc (.cells #[.slice none 0 0,.slice none 0 0,.int .i64 0,.slice none 0 0] 122):=⟨_,rfl⟩;have fM:Hid (Below w.heap.size w X):=ae (by rw[hX];exact dH.out.alloc dH.out.size _);have rE:Hid (X.heap[w2.heap.size]?=some (.cells #[.slice none 0 0,.slice none 0 0,.int .i64 0,.slice none 0 0] 122 (0,0))):=ae (by rw[hX];exact heap_alloc_new _ _);have QR:Hid (X.heap.size=w2.heap.size+1):=ae (by rw[hX];simp);have HX:=ae hX;have hws:=dH.out.size;clear hX hk
    by_cases xi:3<v
    ·have aoI:(3:Int)<v:=by omega
     have HN:Hid (Mx.ku p=none):=ae (by rw[Xl.out,if_pos (.inl xi)]);go_wp2_with fail;rw[<-HX.out];refine bodyPost_ret (v:=.tuple #[.pointer none,.bool false]) (by simp[results,Tryz.results41,go_sem]) rfl ?_;refine⟨fM.out,?_⟩;rw[F2.out,HN.out];exact⟨none,rfl⟩
    ·have aoI:¬(3:Int)<v:=by omega
     by_cases hkn:n<k+2
     ·have aoJ:(n)<(k:Int)+2:=by omega
      have HN:Hid (Mx.ku p=none):=ae (by rw[Xl.out,if_pos (.inr hkn)]);go_wp2_with fail;rw[<-HX.out];refine bodyPost_ret (v:=.tuple #[.pointer none,.bool false]) (by simp[results,Tryz.results41,go_sem]) rfl ?_;refine⟨fM.out,?_⟩;rw[F2.out,HN.out];exact⟨none,rfl⟩
     ·have aoJ:¬(n)<(k:Int)+2:=by omega
      have mR:Hid (Mx.ku p=if 12<(Mx.bt p k).toNat\/(Mx.bt p k).toNat<=(Mx.bt p (k+1)).toNat then none
       else match Mx.fA p n (Mx.bt p k).toNat (2*v) (Mx.bt p k).toNat (k+2)with
        |none=>none
        |some (ls,e)=>if e=n then some ⟨Mx.gT p v,ls,(Mx.bt p (k+1)).toNat⟩else none):=ae (by rw[Xl.out,if_neg (by omega)])
      clear Xl;go_wp2_with fail;rw[<-HX.out];clear x5 hvi;obtain⟨ii0,dl,eu,dA,eg⟩:=info_parts Tryz.infoIntB;have Gu:=ae dl;have Gv:=ae eu;have Gw:=ae dA;have Gx:=ae eg;clear dl eu dA eg
      go_loopg [8] v (λm v8 wr=>∃(i:Nat)(L H:Value),i+m=v/\v8=.int .i64 i/\Below w2.heap.size w2 wr/\wr.heap[w2.heap.size]?=some (.cells #[L,H,.int .i64 0,.slice none 0 0] 122 (0,0))/\wr.ownsRow (w2.heap.size+1) 3 1 L i ((Mx.gT p i).map λq=>.int .i64 q.1)/\wr.ownsRow (w2.heap.size+1) 3 1 H i ((Mx.gT p i).map λq=>.int .i64 q.2)/\(∀q,L.ownBlock=some q->H.ownBlock≠some q))
      case atStart=>exact⟨0,.slice none 0 0,.slice none 0 0,by omega,rfl,by rw[HX.out];exact ag _ _,rE.out,World.ownsRow_nil _ _ _ _,World.ownsRow_nil _ _ _ _,λq h=>by cases h⟩
      case round=>
       obtain⟨i,L,H,RM,rfl,hb,jX,Xm,Zx,nM⟩:=hrel
       by_cases hlt:i<v
       ·have J6:(i:Int)<v:=by omega
        --atu
        have hb0:=hb;have HB:=ae hb;have Kc:=ae nM;obtain⟨aL,cL,rfl,_,_⟩:=aj Xm;obtain⟨aH,cH,rfl,_,_⟩:=aj Zx;have HOA:=ae Xm;have HOH:=ae Zx;have HIA:=ae jX;have hsA:=bo jX;have aeY:∀q,(Value.slice aL i cL).ownBlock=some q->w2.heap.size<q:=λq e=>by have:=(Xm.lt q e).1;omega
        have iq:i+1<=maxLen:=by unfold maxLen;omega
        have qP:(i+1)*8<=140737488355328:=by omega
        obtain⟨k1,fL⟩:∃k1,k1=6+4*i:=⟨_,rfl⟩;obtain⟨k2,fW⟩:∃k2,k2=8+4*i:=⟨_,rfl⟩;obtain⟨j4,hj4⟩:∃j4,j4=4*i:=⟨_,rfl⟩;have hw4:IntKind.i64.wrap (4*(i:Int))=j4:=by rw[IntWalk.i64_in _ (by omega)];omega
        have hw6:IntKind.i64.wrap (6+(j4:Int))=k1:=by rw[IntWalk.i64_in _ (by omega)];omega
        have hw8:IntKind.i64.wrap (8+(j4:Int))=k2:=by rw[IntWalk.i64_in _ (by omega)];omega
        have HVS:Hid (Mx.gT p (i+1)=Mx.gT p i++[(Mx.Et (Mx.pr p k1),Mx.Et (Mx.pr p k2))]):=ae (by unfold Mx.gT;rw[List.range_succ,List.map_append,fL,fW];rfl);have aiZ:k1+1<s.size:=by omega
        have ai0:k2+1<s.size:=by omega
        have tW:Hid (∀W,Calls Tryz.prog 68 #[.string s,.int .i64 k1] W λe w'=>e=.returned (.int .i64 (Mx.Et (Mx.pr p k1)))/\Below W.heap.size W w'):=ae (λW=>by have h:=qM s k1 W aiZ hs;rw[fR.out,fR.out]at h;exact h);have GF:Hid (∀W,Calls Tryz.prog 68 #[.string s,.int .i64 k2] W λe w'=>e=.returned (.int .i64 (Mx.Et (Mx.pr p k2)))/\Below W.heap.size W w'):=ae (λW=>by have h:=qM s k2 W ai0 hs;rw[fR.out,fR.out]at h;exact h);obtain⟨z1,dA⟩:∃z1,z1=Mx.Et (Mx.pr p k1):=⟨_,rfl⟩;obtain⟨z2,eg⟩:∃z2,z2=Mx.Et (Mx.pr p k2):=⟨_,rfl⟩;rw[<-dA]at tW HVS;rw[<-eg]at GF HVS;have y0:=dt jX;clear Xm Zx jX hb hb0 nM fL fW dA eg aiZ ai0 hj4;go_wp2_with fail
        go_region_law (first|(refine aD rfl _ _ 32 rfl (w2.heap.size+1) 3 ii0 _ 1 8 Tryz.underlying32 Gu.out Gv.out Gw.out Gx.out rfl (by decide) _ i _ rfl (ah hOA (ag _ _)) ⟨_,0,none⟩ 1 1 [.int .i64 z1] rfl rfl (aF _ _ rfl [.int .i64 z1] _) (eI rfl) iq qP (Nat.le_trans h1A (ag _ _).size) ?_;intro v6A w6A GG RU ae0;have hGA:=dO GG RU ae0;obtain⟨Zy,Zz,rfl,_,_⟩:=aj GG;have ZA:=(hGA.kept.block w2.heap.size (Nat.lt_of_lt_of_le h1A (ag _ _).size) (λe=>Nat.lt_irrefl _ (aeY _ e))).trans (((ag w5A _).block w2.heap.size h1A).trans hIA);have y6A:=dt ZA;have f6A:=Lib.frozen_of_heap ZA 0)|(go_simp;go_at_call 68;(with_reducible refine(tW.out _).mono ?_);rintro e w5A ⟨rfl,ai3⟩;have KD:=(bm wr).trans (ai3.mono (bm wr).size);have hIA:=(KD.block w2.heap.size hsA).trans HIA.out;have z0A:=dt hIA;have hOA:=ah HOA.out KD;have h1A:=Nat.lt_of_lt_of_le hsA KD.size;have z1A:=((ag w5A (.cells #[.int .i64 z1] 3)).cell h1A).trans z0A))
        all_goals
         have hkA:Kp (λq=>q=w2.heap.size) w6A (w6A.setCell ⟨w2.heap.size,0,none⟩ (.slice Zy (i+1) Zz)):=gX w6A w2.heap.size 0 _;have lS:Below wr.heap.size wr (w5A.alloc (.cells #[.int .i64 z1] 3)):=KD.alloc KD.size _;have ae1:∀q,(Value.slice aH i cH).ownBlock=some q->w2.heap.size<q/\q<wr.heap.size:=λq e=>by have:=HOH.out.lt q e;omega
         obtain⟨W1,ov⟩:∃W1,W1=w6A.setCell ⟨w2.heap.size,0,none⟩ (.slice Zy (i+1) Zz):=⟨_,rfl⟩;rw[<-ov]at hkA|-;have ZB:Hid (W1.heap[w2.heap.size]?=some (.cells #[.slice Zy (i+1) Zz,.slice aH i cH,.int .i64 0,.slice none 0 0] 122 (0,0))):=ae (by rw[ov];exact aE ZA);have HOB:Hid (W1.ownsRow (w2.heap.size+1) 3 1 (.slice aH i cH) i ((Mx.gT p i).map λq=>.int .i64 q.2)):=ae (hkA.own (hGA.kept.own (ah HOH.out lS) (λq e h=>Kc.out q h e)) (λq e h=>by have:=(ae1 q e).1;omega));have ai4:Hid (W1.ownsRow (w2.heap.size+1) 3 1 (.slice Zy (i+1) Zz) (i+1) ((Mx.gT p (i+1)).map λq=>.int .i64 q.1)):=ae (by rw[HVS.out,List.map_append];exact hkA.own GG (λq e h=>by have:=(GG.lt q e).1;omega))
         have ai5:Hid (∀q,(Value.slice Zy (i+1) Zz).ownBlock=some q->(Value.slice aH i cH).ownBlock≠some q):=ae (λq e h=>by
          rcases ae0 with h2|h2
          ·rw[h2]at e;exact Kc.out q e h
          ·rw[h2]at e
           have:=(ae1 q h).2;have:=KD.size;simp at e
           omega)
         have b6:Hid (Below w2.heap.size w2 W1):=ae ((HB.out.trans (lS.mono HB.out.size)).trans ((hGA.kept.toBelow (B:=w2.heap.size) (λq e=>by have:=aeY q e;omega) (Nat.le_trans HB.out.size lS.size)).trans (hkA.toBelow (B:=w2.heap.size) (λq e=>by omega) (Nat.le_trans (Nat.le_trans HB.out.size lS.size) hGA.kept.size))));have hsB:w2.heap.size<W1.heap.size:=bo ZB.out;have ai6:=λq e=>(ae1 q e).1
         have y1:=fS ZB.out;clear GG RU ae0 hGA ZA y6A f6A ai3 KD hIA z0A hOA h1A z1A hkA lS ov y0 hsA aeY HOA HIA Kc HOH HB;go_wp2_with fail
         go_region_law (first|(refine aD rfl _ _ 32 rfl (w2.heap.size+1) 3 ii0 _ 1 8 Tryz.underlying32 Gu.out Gv.out Gw.out Gx.out rfl (by decide) _ i _ rfl (ah hOB (ag _ _)) ⟨_,0,none⟩ 1 1 [.int .i64 z2] rfl rfl (aF _ _ rfl [.int .i64 z2] _) (eI rfl) iq qP (Nat.le_trans h1B (ag _ _).size) ?_;intro v6B w6B GH RV ae2;have hGB:=dO GH RV ae2;obtain⟨a6B,c6B,rfl,_,_⟩:=aj GH;have ZC:=(hGB.kept.block w2.heap.size (Nat.lt_of_lt_of_le h1B (ag _ _).size) (λe=>Nat.lt_irrefl _ (ai6 _ e))).trans (((ag w5B _).block w2.heap.size h1B).trans hIB);have y6B:=fS ZC;have f6B:w6B.frozen? ⟨w2.heap.size,1,none⟩=false:=Lib.frozen_of_heap ZC 1)|(go_simp;go_at_call 68;(with_reducible refine(GF.out _).mono ?_);rintro e w5B ⟨rfl,ajc⟩;have KE:=(bm W1).trans (ajc.mono (bm W1).size);have hIB:=(KE.block w2.heap.size hsB).trans ZB.out;have z0B:=fS hIB;have hOB:=ah HOB.out KE;have h1B:=Nat.lt_of_lt_of_le hsB KE.size;have z1B:=((ag w5B (.cells #[.int .i64 z2] 3)).cell (p:=⟨w2.heap.size,1,none⟩) h1B).trans z0B))
         all_goals
          have hkB:Kp (λq=>q=w2.heap.size) w6B (w6B.setCell ⟨w2.heap.size,1,none⟩ (.slice a6B (i+1) c6B)):=gX w6B w2.heap.size 1 _;have hBB:Below W1.heap.size W1 (w5B.alloc (.cells #[.int .i64 z2] 3)):=KE.alloc KE.size _;have ajf:∀q,(Value.slice Zy (i+1) Zz).ownBlock=some q->w2.heap.size<q/\q<W1.heap.size:=λq e=>by have:=ai4.out.lt q e;omega
          obtain⟨W2,QV⟩:∃W2,W2=w6B.setCell ⟨w2.heap.size,1,none⟩ (.slice a6B (i+1) c6B):=⟨_,rfl⟩;rw[<-QV]at hkB|-;have rO:Hid (W2.heap[w2.heap.size]?=some (.cells #[.slice Zy (i+1) Zz,.slice a6B (i+1) c6B,.int .i64 0,.slice none 0 0] 122 (0,0))):=ae (by rw[QV];exact aE ZC);have aoP:Hid (W2.ownsRow (w2.heap.size+1) 3 1 (.slice Zy (i+1) Zz) (i+1) ((Mx.gT p (i+1)).map λq=>.int .i64 q.1)):=ae (hkB.own (hGB.kept.own (ah ai4.out hBB) (λq e h=>ai5.out q e h)) (λq e h=>by have:=(ajf q e).1;omega));have aoQ:Hid (W2.ownsRow (w2.heap.size+1) 3 1 (.slice a6B (i+1) c6B) (i+1) ((Mx.gT p (i+1)).map λq=>.int .i64 q.2)):=ae (by rw[HVS.out,List.map_append];exact hkB.own GH (λq e h=>by have:=(GH.lt q e).1;omega))
          have aoR:Hid (∀q,(Value.slice Zy (i+1) Zz).ownBlock=some q->(Value.slice a6B (i+1) c6B).ownBlock≠some q):=ae (λq e h=>by
           rcases ae2 with h2|h2
           ·rw[h2]at h;exact ai5.out q e h
           ·rw[h2]at h
            have:=(ajf q e).2;have:=KE.size;simp at h
            omega)
          have nV:Hid (Below w2.heap.size w2 W2):=ae ((b6.out.trans (hBB.mono b6.out.size)).trans ((hGB.kept.toBelow (B:=w2.heap.size) (λq e=>by have:=ai6 q e;omega) (Nat.le_trans b6.out.size hBB.size)).trans (hkB.toBelow (B:=w2.heap.size) (λq e=>by omega) (Nat.le_trans (Nat.le_trans b6.out.size hBB.size) hGB.kept.size))));clear GH RV ae2 hGB ZC y6B f6B ajc KE hIB z0B hOB h1B z1B hkB hBB QV y1;go_wp2_with fail
          go_roundg (v-(i+1))
          case measure=>omega
          case rel=>exact⟨i+1,_,_,by omega,by go_num,nV.out,rO.out,aoP.out,aoQ.out,aoR.out⟩
       ·have J6:¬(i:Int)<v:=by omega
        obtain rfl:i=v:=by omega
        obtain⟨k1,fL⟩:∃k1,k1=k+1:=⟨_,rfl⟩;obtain⟨k2,fW⟩:∃k2,k2=k+2:=⟨_,rfl⟩;have lh:IntKind.i64.wrap ((k:Int)+1)=k1:=by rw[IntWalk.i64_in _ (by omega)];omega
        have mh:(k:Int)+2=k2:=by omega
        have J8:k+1<n/\k1<s.size/\k2<=n:=by omega
        obtain⟨awW,aoS,aoT⟩:=J8;have Gt:(k:Int)<s.size:=by omega
        have jf:(0:Int)<=k:=by omega
        have aiD:(k1:Int)<s.size:=by omega
        have aiE:(0:Int)<=k1:=by omega
        have xk:=KC.out k (by omega);have xk1:=KC.out k1 aoS;rw[<-fL,<-fW]at mR;have iG:=ae fW;clear fL fW;have tX:=(Mx.bt p k).toNat_lt;have awX:=(Mx.bt p k1).toNat_lt;generalize Mx.bt p k=bl at*;generalize Mx.bt p k1=bf at*;have y2:=jr jX;have f2:=Lib.frozen_of_heap jX 2;obtain⟨W3,GI⟩:∃W3,W3=wr.setCell ⟨w2.heap.size,2,none⟩ (.int .i64 (bf.toNat:Int)):=⟨_,rfl⟩;have uQ:Kp (λq=>q=w2.heap.size) wr W3:=by rw[GI];exact gX wr w2.heap.size 2 _
        have h3x:W3.heap[w2.heap.size]?=some (.cells #[L,H,.int .i64 (bf.toNat:Int),.slice none 0 0] 122 (0,0)):=by rw[GI];exact aE jX
        have Dr:=ae h3x;have q2:=jr h3x;have HL3:=ae (uQ.own Xm (λq e h=>by have:=(Xm.lt q e).1;omega));have HH3:=ae (uQ.own Zx (λq e h=>by have:=(Zx.lt q e).1;omega));have ji:=ae (hb.trans (uQ.toBelow (λq e=>by omega) hb.size));have RW:=ae GI;have Kc:=ae nM;clear GI h3x uQ jX Xm Zx hb nM
        by_cases RX:12<bl.toNat
        ·have ajg:(12)<(bl.toNat:Int):=by omega
         have HN:Hid (Mx.ku p=none):=ae (by rw[mR.out,if_pos (.inl RX)]);go_wp2_with fail;rw[<-RW.out];refine bodyPost_ret (v:=.tuple #[.pointer none,.bool false]) (by simp[results,Tryz.results41,go_sem]) rfl ?_;refine⟨dH.out.trans (ji.out.mono dH.out.size),?_⟩;rw[F2.out,HN.out];exact⟨none,rfl⟩
        ·have ajg:¬(12)<(bl.toNat:Int):=by omega
         by_cases hfl:bl.toNat<=bf.toNat
         ·have aoV:(bl.toNat:Int)<=(bf.toNat:Int):=by omega
          have HN:Hid (Mx.ku p=none):=ae (by rw[mR.out,if_pos (.inr hfl)]);go_wp2_with fail;rw[<-RW.out];go_wp2_with fail;refine bodyPost_ret (v:=.tuple #[.pointer none,.bool false]) (by simp[results,Tryz.results41,go_sem]) rfl ?_;refine⟨dH.out.trans (ji.out.mono dH.out.size),?_⟩;rw[F2.out,HN.out];exact⟨none,rfl⟩
         ·have aoV:¬(bl.toNat)<=(bf.toNat:Int):=by omega
          have RY:Hid (Mx.ku p=match Mx.fA p n bl.toNat (2*i) bl.toNat k2 with
           |none=>none
           |some (ls,e)=>if e=n then some ⟨Mx.gT p i,ls,bf.toNat⟩else none):=ae (by rw[mR.out,if_neg (by omega)])
          clear mR;go_wp2_with fail;rw[<-RW.out];go_wp2_with fail
          --atE
          obtain⟨il0,QM,ajh,aji,ajj⟩:=info_parts Tryz.infoLeafB;have aoW:=ae QM;have aoX:=ae ajh;have aoY:=ae aji;have aoZ:=ae ajj;clear QM ajh aji ajj q2 y2 f2 xk xk1;have ajk:=dH;have hi3:i<=3:=by omega
          go_loopg [7,10] bl.toNat (λm v7 v10 wz=>∃(j a:Nat)(Lv:Value)(dn:List (List UInt8×List UInt8)),j+m=bl.toNat/\v10=.int .i64 j/\v7=.int .i64 a/\a<=n/\dn.length=j/\Below w2.heap.size w2 wz/\wz.heap[w2.heap.size]?=some (.cells #[L,H,.int .i64 (bf.toNat:Int),Lv] 122 (0,0))/\wz.ownsRow (w2.heap.size+1) 3 1 L i ((Mx.gT p i).map λq=>.int .i64 q.1)/\wz.ownsRow (w2.heap.size+1) 3 1 H i ((Mx.gT p i).map λq=>.int .i64 q.2)/\wz.ownsRow (w2.heap.size+1) 119 2 Lv j (dn.flatMap RT)/\Mx.fA p n bl.toNat (2*i) bl.toNat k2=(Mx.fA p n bl.toNat (2*i) m a).map (λq=>(dn++q.1,q.2)))
          case atStart=>exact⟨0,k2,.slice none 0 0,[],by omega,rfl,rfl,aoT,rfl,ji.out,Dr.out,HL3.out,HH3.out,World.ownsRow_nil _ _ _ _,by simp⟩
          case round=>
           obtain⟨j,a,Lv,dn,hjm,rfl,rfl,Xn,hdn,hb,jX,Xm,Zx,hoV,F3⟩:=hrel;clear ji Dr HL3 HH3;have HB:=ae hb;have ae3:=ae jX;have HOL:=ae Xm;have HOH:=ae Zx;have HOV:=ae hoV;have Oi:=ae F3;have tV:=ae (ajk.out.trans (hb.mono ajk.out.size));obtain⟨aV,cV,rfl,_,_⟩:=aj hoV;have hsb:=bo jX;clear hb jX Xm Zx hoV F3
           by_cases hlt:j<bl.toNat
           ·have Kv:(j)<(bl.toNat:Int):=by omega
            have zg:(0:Int)<=j:=by omega
            obtain⟨m',F4⟩:∃m',gk=m'+1:=⟨gk-1,by omega⟩
            have Oj:Hid (Mx.uP p n a=none->Mx.ku p=none):=ae (λh=>by
             rw[RY.out,Oi.out,F4];simp only [Mx.fA]
             rw[h];rfl)
            by_cases h1:n<=a
            ·have h1i:(n:Int)<=(a:Int):=by omega
             have HN:=ae (Oj.out (by unfold Mx.uP;rw[if_pos (.inl h1)]));go_wp2_with fail;refine bodyPost_ret (v:=.tuple #[.pointer none,.bool false]) (by simp[results,Tryz.results41,go_sem]) rfl ?_;refine⟨tV.out,?_⟩;rw[F2.out,HN.out];exact⟨none,rfl⟩
            ·have h1i:¬(n:Int)<=(a:Int):=by omega
             have has:(a:Int)<s.size:=by omega
             have ha0:(0:Int)<=a:=by omega
             have xa:=KC.out a (by omega);have lP:=(Mx.bt p a).toNat_lt;obtain⟨c,hc⟩:∃c,c=(Mx.bt p a).toNat:=⟨_,rfl⟩;have vS:((Mx.bt p a).toNat:Int)=c:=by rw[hc]
             have HRF:Hid (Mx.uP p n a=if 8<c\/n<a+1+c+2 then none else if n<a+1+c+2+Mx.pr p (a+1+c)then none else some (((p.drop (a+1)).take c,(p.drop (a+1+c+2)).take (Mx.pr p (a+1+c))),a+1+c+2+Mx.pr p (a+1+c))):=ae (by
              unfold Mx.uP;rw[hc]
              by_cases h:8<(Mx.bt p a).toNat\/n<a+1+(Mx.bt p a).toNat+2
              ·rw[if_pos (.inr h),if_pos h]
              ·rw[if_neg (λh'=>h'.elim (λq=>h1 q) h),if_neg h])
             rw[<-hc]at lP;have HCC:=ae hc;clear hc
             by_cases h8:8<c
             ·have h8i:(8)<(c:Int):=by omega
              have HN:Hid (Mx.ku p=none):=ae (Oj.out (by rw[HRF.out,if_pos (.inl h8)]));go_wp2_with fail;refine bodyPost_ret (v:=.tuple #[.pointer none,.bool false]) (by simp[results,Tryz.results41,go_sem]) rfl ?_;refine⟨tV.out,?_⟩;rw[F2.out,HN.out];exact⟨none,rfl⟩
             ·have h8i:¬(8:Int)<(c:Int):=by omega
              obtain⟨fr,Xo⟩:∃fr,fr=a+1+c:=⟨_,rfl⟩;have aw2:(a:Int)+1+(c:Int)=fr:=by omega
              have ZD:=ae Xo;have ao2:a+1+c=fr->True:=λ_=>trivial
              clear Xo ao2
              by_cases ajn:n<fr+2
              ·have ao3:(n)<(fr:Int)+2:=by omega
               have HN:=ae (Oj.out (by rw[HRF.out,if_pos (.inr (by have:=ZD.out;omega))]));go_wp2_with fail;refine bodyPost_ret (v:=.tuple #[.pointer none,.bool false]) (by simp[results,Tryz.results41,go_sem]) rfl ?_;refine⟨tV.out,?_⟩;rw[F2.out,HN.out];exact⟨none,rfl⟩
              ·have ao3:¬(n)<(fr:Int)+2:=by omega
               have hfs:fr+1<s.size:=by omega
               have hCP:Hid (∀W,Calls Tryz.prog 66 #[.string s,.int .i64 fr] W λe w'=>e=.returned (.int .i64 (Mx.pr p fr))/\Below W.heap.size W w'):=ae (λW=>by have h:=od s fr W hfs hs;rw[fR.out,fR.out]at h;exact h);have aiL:=RS p fr;obtain⟨pp,hpp⟩:∃pp,pp=Mx.pr p fr:=⟨_,rfl⟩;rw[<-hpp]at hCP aiL;rw[<-ZD.out,<-hpp]at HRF;obtain⟨en,hen⟩:∃en,en=fr+2+pp:=⟨_,rfl⟩;have aw4:(fr)+2+(pp:Int)=en:=by omega
               rw[<-hen]at HRF;have Oh:=ae hen;clear hpp hen;go_wp2_with fail;refine(hCP.out wr).mono ?_;rintro e w5 ⟨rfl,oy⟩;have vT:Hid (Below w2.heap.size w2 w5):=ae (HB.out.trans (oy.mono HB.out.size));have HX5:Hid (w5.heap[w2.heap.size]?=some (.cells #[L,H,.int .i64 (bf.toNat:Int),.slice aV j cV] 122 (0,0))):=ae ((oy.block w2.heap.size hsb).trans ae3.out);have HL5:=ae (ah HOL.out oy);have HH5:=ae (ah HOH.out oy);have HV5:=ae (ah HOV.out oy);have ae5:=ae (tV.out.trans (oy.mono tV.out.size));clear oy hCP HB ae3 HOL HOH HOV tV
               by_cases hne:n<en
               ·have ao6:(n)<(en:Int):=by omega
                have HN:=ae (Oj.out (by rw[HRF.out,if_neg (by have:=ZD.out;omega),if_pos hne]));go_wp2_with fail;refine bodyPost_ret (v:=.tuple #[.pointer none,.bool false]) (by simp[results,Tryz.results41,go_sem]) rfl ?_;refine⟨ae5.out,?_⟩;rw[F2.out,HN.out];exact⟨none,rfl⟩
               ·have ao6:¬(n)<(en:Int):=by omega
                --ao7
                obtain⟨Ol,ha1⟩:∃Ol,Ol=a+1:=⟨_,rfl⟩;obtain⟨Xp,wD⟩:∃Xp,Xp=fr+2:=⟨_,rfl⟩;have aw7:IntKind.i64.wrap ((a:Int)+1)=Ol:=by rw[IntWalk.i64_in _ (by omega)];omega
                have aw8:IntKind.i64.wrap ((fr)+2)=Xp:=by rw[IntWalk.i64_in _ (by omega)];omega
                have bH:Ol<=fr/\fr<=s.size/\Xp<=en/\en<=s.size/\en=Xp+pp/\fr=Ol+c:=by have:=ZD.out;have:=Oh.out;omega
                obtain⟨aw9,axa,axb,axc,ajp,ajq⟩:=bH;have ga0:(0:Int)<=Ol:=by omega
                have ga1:(Ol:Int)<=fr:=by omega
                have ga2:(fr:Int)<=s.size:=by omega
                have gf0:(0:Int)<=Xp:=by omega
                have gf1:(Xp:Int)<=en:=by omega
                have gf2:(en:Int)<=s.size:=by omega
                have gfr:(0:Int)<=fr:=by omega
                have gen:(0:Int)<=en:=by omega
                have zh:Hid ((s.extract Ol fr)=⟨((p.drop (a+1)).take c).toArray⟩):=ae (by
                 apply ByteArray.ext;apply Array.ext';rw[ByteArray.data_extract,Array.toList_extract,F2.out,<-ha1,ajq]
                 simp[])
                have HPG:Hid ((s.extract Xp en)=⟨((p.drop (fr+2)).take pp).toArray⟩):=ae (by
                 apply ByteArray.ext;apply Array.ext';rw[ByteArray.data_extract,Array.toList_extract,F2.out,<-wD,ajp]
                 simp[List.extract])
                have ajr:Hid ((s.extract Xp en).size<=1000000000):=ae (by rw[ByteArray.size_extract];omega);have HRT:Hid (Mx.uP p n a=some (((p.drop (a+1)).take c,(p.drop (fr+2)).take pp),en)):=ae (by rw[HRF.out,if_neg (by have:=ZD.out;omega),if_neg hne]);have ao9:Ol+1<=s.size\/True:=.inr trivial;clear ha1 wD ajp ajq ao9;obtain⟨ZE,ZF⟩:∃ZE,ZE=s.extract Ol fr:=⟨_,rfl⟩;obtain⟨RZ,Om⟩:∃RZ,RZ=s.extract Xp en:=⟨_,rfl⟩;obtain⟨W6,hW6⟩:∃W6,W6=w5.alloc (.cells #[.string ZE,.string RZ] 119):=⟨_,rfl⟩;have HW6:=ae hW6;have qQ:Below w5.heap.size w5 W6:=by rw[hW6];exact ag _ _
                have hy6:W6.heap[w5.heap.size]?=some (.cells #[.string ZE,.string RZ] 119 (0,0)):=by rw[hW6];exact heap_alloc_new _ _
                have HB6:=ae qQ;have HY6:=ae hy6;have HEQ:=ae (And.intro ZF Om);clear hW6 qQ hy6;go_wp2_with fail
                go_region
                rw[<-ZF,<-Om,<-HW6.out];obtain⟨Z,hZ⟩:∃Z,Z=W6.drew:=⟨_,rfl⟩;rw[<-hZ];have nV:Hid (Below w5.heap.size w5 Z):=ae (by rw[hZ];exact HB6.out.trans ((bm W6).mono HB6.out.size));have HYZ:Hid (Z.heap[w5.heap.size]?=some (.cells #[.string ZE,.string RZ] 119 (0,0))):=ae (by rw[hZ];exact HY6.out);have y1:=fS HYZ.out;obtain⟨rb,hrb⟩:∃rb,rb=Mx.mW ((p.drop (fr+2)).take pp) bl.toNat (2*i):=⟨_,rfl⟩
                have HCR:=ae (λW=>by
                 have h:=Ob RZ bl.toNat (2*i) W (by rw[Om];exact ajr.out);rw[show RZ.data.toList=(p.drop (fr+2)).take pp by rw[Om,HPG.out],<-hrb,show((2*i:Nat))=2*(i:Int) by omega]at h
                 exact h)
                have HNB:Hid (ZE=⟨((p.drop (a+1)).take c).toArray⟩/\RZ=⟨((p.drop (fr+2)).take pp).toArray⟩):=ae ⟨by rw[ZF];exact zh.out,by rw[Om];exact HPG.out⟩;have HRB:=ae hrb;clear hZ ZF Om HW6 HB6 HY6 HEQ zh HPG ajr hrb;go_wp2_with fail;refine(HCR.out Z).mono ?_;rintro e w7 ⟨rfl,hb7⟩;have KF:=ae (nV.out.trans (hb7.mono nV.out.size));have HY7:=ae ((hb7.block w5.heap.size (bo HYZ.out)).trans HYZ.out);have apb:Hid (Below w.heap.size w w7):=ae (ae5.out.trans (KF.out.mono ae5.out.size));clear hb7 HCR nV HYZ y1;have Zv:=vT.out.size
                cases rb with
                |false=>
                 have HN:Hid (Mx.ku p=none):=ae (by
                  rw[RY.out,Oi.out,F4];simp only [Mx.fA];rw[HRT.out];simp only;rw[<-HRB.out]
                  rfl)
                 go_wp2_with fail;refine bodyPost_ret (v:=.tuple #[.pointer none,.bool false]) (by simp[results,Tryz.results41,go_sem]) rfl ?_;refine⟨apb.out,?_⟩;rw[F2.out,HN.out];exact⟨none,rfl⟩
                |true=>
                 have F0:Hid (Mx.fA p n bl.toNat (2*i) bl.toNat k2=(Mx.fA p n bl.toNat (2*i) m' en).map (λq=>((dn++[((p.drop (a+1)).take c,(p.drop (fr+2)).take pp)])++q.1,q.2))):=ae (by
                  rw[Oi.out,F4];simp only [Mx.fA];rw[HRT.out];simp only;rw[<-HRB.out,if_pos rfl,Option.map_map];congr 1;funext q
                  simp)
                 have hx7:=(KF.out.block w2.heap.size (bo HX5.out)).trans HX5.out;have HX7:=ae hx7;have c3:=rQ hx7;obtain⟨d0,d1⟩:=iQ HY7.out;have hO7:=ah HV5.out KF.out;have ae6:w2.heap.size<w7.heap.size:=bo hx7;have R0:∀q,(Value.slice aV j cV).ownBlock=some q->w2.heap.size<q:=λq e=>by have:=(hO7.lt q e).1;omega
                 have iq:j+1<=maxLen:=by unfold maxLen;omega
                 have qP:(j+1)*32<=140737488355328:=by omega
                 clear hx7;go_wp2_with fail
                 go_region_law (first|(refine aD rfl _ _ 120 rfl (w2.heap.size+1) 119 il0 _ 2 32 Tryz.underlying120 aoW.out aoX.out aoY.out aoZ.out rfl (by decide) _ j _ rfl (ah hO7 ((bm w7).trans ((ag _ _).mono (bm w7).size))) ⟨_,0,none⟩ 1 1 [.string ZE,.string RZ] rfl rfl (aF _ _ rfl [.string ZE,.string RZ] _) (uR rfl rfl) iq qP (Nat.le_trans ae6 (Nat.le_trans (bm w7).size (ag _ _).size)) ?_;intro v8 w8 qr xf RL;have Ew:=dO qr xf RL;obtain⟨a8,c8,rfl,_,_⟩:=aj qr;have ZG:=(Ew.kept.block w2.heap.size (Nat.lt_of_lt_of_le ae6 (Nat.le_trans (bm w7).size (ag _ _).size)) (λe=>Nat.lt_irrefl _ (R0 _ e))).trans (((ag w7.drew _).block w2.heap.size (Nat.lt_of_lt_of_le ae6 (bm w7).size)).trans HX7.out);have y8:=rQ ZG;have f8:=Lib.frozen_of_heap ZG 3))
                 all_goals
                  have QW:Kp (λq=>q=w2.heap.size) w8 (w8.setCell ⟨w2.heap.size,3,none⟩ (.slice a8 (j+1) c8)):=gX w8 w2.heap.size 3 _;have lS:Below w7.heap.size w7 (w7.alloc (.cells #[.string ZE,.string RZ] 119)).drew:=cZ w7 _;have hL7:=ah HL5.out KF.out;have hH7:=ah HH5.out KF.out;obtain⟨W9,hW9⟩:∃W9,W9=w8.setCell ⟨w2.heap.size,3,none⟩ (.slice a8 (j+1) c8):=⟨_,rfl⟩;rw[<-hW9]at QW|-;have HX9:Hid (W9.heap[w2.heap.size]?=some (.cells #[L,H,.int .i64 (bf.toNat:Int),.slice a8 (j+1) c8] 122 (0,0))):=ae (by rw[hW9];exact aE ZG);have HL9:=ae (QW.own (Ew.kept.own (ah hL7 lS) (λq e h=>GJ hL7 hO7 (by decide) q e h)) (λq e h=>by have:=(hL7.lt q e).1;omega));have HH9:=ae (QW.own (Ew.kept.own (ah hH7 lS) (λq e h=>GJ hH7 hO7 (by decide) q e h)) (λq e h=>by have:=(hH7.lt q e).1;omega))
                  have HV9:Hid (W9.ownsRow (w2.heap.size+1) 119 2 (.slice a8 (j+1) c8) (j+1) ((dn++[((p.drop (a+1)).take c,(p.drop (fr+2)).take pp)]).flatMap RT)):=ae (by
                   rw[List.flatMap_append];have h:=QW.own qr (λq e h=>by have:=(qr.lt q e).1;omega);rw[HNB.out.1,HNB.out.2]at h
                   exact h)
                  have kh:Hid (Below w2.heap.size w2 W9):=ae (((vT.out.trans (KF.out.mono Zv)).trans (lS.mono (Nat.le_trans Zv KF.out.size))).trans ((Ew.kept.toBelow (B:=w2.heap.size) (λq e=>by have:=R0 q e;omega) (Nat.le_trans (Nat.le_trans Zv KF.out.size) lS.size)).trans (QW.toBelow (B:=w2.heap.size) (λq e=>by omega) (Nat.le_trans (Nat.le_trans (Nat.le_trans Zv KF.out.size) lS.size) Ew.kept.size))));clear qr xf RL Ew ZG y8 f8 QW lS hL7 hH7 hW9 c3 d0 d1;go_wp2_with fail
                  go_roundg m'
                  case measure=>omega
                  case rel=>exact⟨j+1,en,_,dn++[((p.drop (a+1)).take c,(p.drop (fr+2)).take pp)],by omega,by go_num,by go_num,by omega,by simp[hdn],kh.out,HX9.out,HL9.out,HH9.out,HV9.out,F0.out⟩
           ·have Kv:¬(j:Int)<(bl.toNat:Int):=by omega
            obtain rfl:gk=0:=by omega
            obtain rfl:j=bl.toNat:=by omega
            have Xl:Hid (Mx.ku p=if a=n then some ⟨Mx.gT p i,dn,bf.toNat⟩else none):=ae (by
             rw[RY.out,Oi.out]
             simp[Mx.fA])
            cases he:(a==n)with
            |true=>
             have hei:((a:Int)==(n:Int))=true:=by simp at he|-;omega
             have HN:Hid (Mx.ku p=some ⟨Mx.gT p i,dn,bf.toNat⟩):=ae (by rw[Xl.out,if_pos (by simpa using he)]);clear he;go_wp2_with fail;refine bodyPost_ret (v:=.tuple #[.pointer (some ⟨w2.heap.size,0,none⟩),.bool true]) (by simp[results,Tryz.results41,go_sem]) rfl ?_;refine⟨tV.out,?_⟩;rw[F2.out,HN.out];have kz:(Mx.gT p i).length=i:=by simp[Mx.gT]
             exact⟨w2.heap.size,L,H,_,rfl,⟨ae3.out,⟨_,by rw[kz];exact HOL.out⟩,⟨_,by rw[kz];exact HOH.out⟩,⟨_,by rw[hdn];exact HOV.out⟩⟩,hws⟩
            |false=>
             have hei:((a)==(n:Int))=false:=by simp at he|-;omega
             have HN:Hid (Mx.ku p=none):=ae (by rw[Xl.out,if_neg (by simpa using he)]);clear he;go_wp2_with fail;refine bodyPost_ret (v:=.tuple #[.pointer (some ⟨w2.heap.size,0,none⟩),.bool false]) (by simp[results,Tryz.results41,go_sem]) rfl ?_;refine⟨tV.out,?_⟩;rw[F2.out,HN.out];exact⟨_,rfl⟩
