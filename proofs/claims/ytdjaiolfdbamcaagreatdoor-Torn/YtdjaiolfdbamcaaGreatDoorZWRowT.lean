/- Torn answers true at all numbers: the row, out of the walk; conditions: the listed tables lie as the program's text lays them. -/
import Derived.Test.YtdjaiolfdbamcaaGreatDoorZKTb
import Derived.Test.YtdjaiolfdbamcaaGreatDoorZKTa
import Derived.Test.YtdjaiolfdbamcaaGreatDoorZMW
import Derived.SizedLaws
import Derived.Carry
import Derived.ChangeSlices
import Derived.RowKit2
import Derived.RowKit3
set_option maxRecDepth 100000
namespace Go.Proofs.YtdjaiolfdbamcaaGreatDoor
open Go.ChangeShapes Go.WideShapes Go.ChangeAt Go.WideMaps Go.WideElems Go.RowKit
theorem in64T {n:Int} (h:(Lit.int .i64 n).wf=true) : -9223372036854775808<=n/\n<=9223372036854775807:=by
 simpa [Lit.wf,IntKind.min,IntKind.max,IntKind.signed,IntKind.bits] using h
theorem Tryz.laidOutT:laidOutB Tryz.prog=true:=by kernel_rfl
theorem Tryz.cellsIntT:Tryz.prog.cellsOf 3=1:=by kernel_rfl
theorem Tryz.bytesIntT:Tryz.prog.bytesOf 3=8:=by kernel_rfl
theorem add_atT (b o r:Nat):((⟨b,o,none⟩ : Addr).add r)=⟨b,o+r,none⟩:=by simp [Addr.add]
theorem ints_ofT {H:Type} {enc:TypeId×Value->H} {W:World} {fuel:Nat} {a0:Option Addr} {len cap:Nat} {d:DataW H} {p:List MemPlace} (hf:DataW.trod enc Tryz.prog W 0 (fun _=>true) true fuel 32 (Value.slice a0 len cap).cells.toList=some (d,p))
  (hz:∀ elems spare,d=.slice elems spare->(elems.length+spare.length)*Tryz.prog.bytesOf 3<=reachBytes) :
  ∃ xs:List Int,xs.length=len/\SlI W a0 xs/\(∀ v∈xs,-9223372036854775808<=v/\v<=9223372036854775807)/\xs.length<=1000000000000000000:=by
 rcases open_ints Tryz.underlying32 Tryz.underlying3 Tryz.cellsIntT hf with ⟨hcs0,_⟩ | ⟨a,len',cap',zs,hcs0,_,hl,_,hzs,hd,hc,hw⟩
 ·simp [Value.cells] at hcs0
  obtain ⟨rfl,rfl,rfl⟩:=hcs0;exact ⟨[],rfl,(fun i hi=>absurd hi (by simp)),(fun v hv=>by cases hv),by simp⟩
 ·simp [Value.cells] at hcs0
  obtain ⟨rfl,rfl,rfl⟩:=hcs0;simp only [Prod.mk.injEq] at hd;have hsz:=hz _ _ hd.1;simp only [lits,List.length_map,Tryz.bytesIntT,show reachBytes=140737488351232 from rfl] at hsz;simp only [if_true] at hzs;have hlt:(zs.take len).length=len:=by rw [List.length_take];omega
  rw [hlt] at hsz;refine ⟨zs.take len,hlt,fun i hi=>?_,fun v hv=>in64T (hw v (List.mem_of_mem_take hv)),by rw [hlt];omega⟩;rw [hlt] at hi;have hci:=hc i (by omega);obtain ⟨b,o,sp⟩:=a;have hs:sp=none:=by simpa [Addr.add] using World.cell?_spot (hc 0 (by omega))
  subst hs;rw [add_atT] at hci;refine ⟨b,o,rfl,World.block_lt_of_cell? W ⟨b,o+i,none⟩ hci,?_⟩;rw [hci,List.getElem_take,List.getD_eq_getElem?_getD,List.getElem?_eq_getElem (by omega)];rfl
theorem torn_any (ba ga:Option Addr) (cb cg:Nat) (bs goals:List Int) (modes which:Int) (twice:Bool) (w:World) (hm : -9223372036854775808<=modes/\modes<=9223372036854775807) (hw : -9223372036854775808<=which/\which<=9223372036854775807) (hb:SlI w ba bs) (hbr:∀ v∈bs,-9223372036854775808<=v/\v<=9223372036854775807) (hbn:bs.length<=1000000000000000000)
  (hg:SlI w ga goals) (hgr:∀ v∈goals,-9223372036854775808<=v/\v<=9223372036854775807) (hsg:SignsIs w) (htab:∀ W,Below w.heap.size w W->Lib.TabIs Tryz.prog W "internal/strconv.uint64pow10" .u64 Lib.pow10Tab) :
  Calls Tryz.prog 6 #[.slice ba bs.length cb,.int .i64 modes,.slice ga goals.length cg,.int .i64 which,.bool twice] w fun e w'=>e=.returned (.bool true)/\Below w.heap.size w w' :=
 torn_walk ba ga cb cg bs goals modes which twice w hm hw hb hbr hbn hg hgr (sure_anyT w hsg htab) (fun s hs Y hY=>compile_any s Y hs (hsg.below hY (Nat.le_refl _)) (fun V hV=>htab V (hY.trans (hV.mono hY.size))))
theorem liftedT (os:Os) (started:os.Started) (H:Type) (enc:TypeId×Value->H) :
  ReturnsInHanded {} Tryz.checked os 6 .any (fun w args=>(Rows.tornSpec.pre enc Tryz.prog Tryz.f6 [] false w args/\laidMetH Tryz.prog laidL w)/\sizedMet enc Tryz.prog Tryz.f6 (OpenSpec.ofChange Rows.tornSpec) false w args)
   (Rows.tornSpec.post enc Tryz.prog Tryz.f6 false true false false):=by
 refine returnsInHanded_of_change_and (C:=Tryz.checked) (X:=fun w _=>laidMetH Tryz.prog laidL w) (fun _ _ _ hh h=>h.of_heap hh) own started (by kernel_rfl) Tryz.func6
  (ChangeSpec.witness_shaped (enc:=enc) (C:=Tryz.checked) (os:=os) (X:=fun w _=>laidMetH Tryz.prog laidL w) false (World.doorLaid Tryz.prog 4000 os) #[.slice none 0 0,.int .i64 0,.slice none 0 0,.int .i64 0,.bool false] 8 rfl (World.shaped_of_RefB (by kernel_rfl) (by kernel_rfl)) (by kernel_rfl) (by kernel_rfl) (by kernel_rfl) (door_met os _)) ?_
 intro W base args ds gs before hval0 hW _ hwt hL _;have hval:∀ (j:Nat) t v,Tryz.f6.params[j]? = some t->args[j]? = some v->Value.okWide Tryz.prog W .any base t v:=hval0;have hW':=hW;obtain ⟨p,q,hA0,hV,rfl,_,_⟩:=hW;have hA:DataW.TrodAll enc Tryz.prog W 0 (fun _=>true) true Tryz.f6.params.toList args.toList ds p:=hA0;rw [Tryz.params6] at hA hval;obtain ⟨v0,vs0,d0,ds0,p0,q0,hargs,rfl,rfl,h0,hr0⟩:=trodAll_cons hA;obtain ⟨v1,vs1,d1,ds1,p1,q1,rfl,rfl,rfl,h1,hr1⟩:=trodAll_cons hr0;obtain ⟨v2,vs2,d2,ds2,p2,q2,rfl,rfl,rfl,h2,hr2⟩:=trodAll_cons hr1;obtain ⟨v3,vs3,d3,ds3,p3,q3,rfl,rfl,rfl,h3,hr3⟩:=trodAll_cons hr2;obtain ⟨v4,vs4,d4,ds4,p4,q4,rfl,rfl,rfl,h4,hr4⟩:=trodAll_cons hr3;obtain ⟨rfl,rfl,rfl⟩:=trodAll_nil hr4;obtain rfl:args=#[v0,v1,v2,v3,v4]:=by cases args;simp_all
 clear hargs hr0 hr1 hr2 hr3 hr4;obtain ⟨rfl,rfl⟩:=trodVars_none hV;obtain ⟨n1,rfl,rfl,rfl,hn1⟩:=open_int Tryz.underlying3 (hval 1 3 v1 rfl rfl) h1;obtain ⟨n3,rfl,rfl,rfl,hn3⟩:=open_int Tryz.underlying3 (hval 3 3 v3 rfl rfl) h3;obtain ⟨b4,rfl,rfl,rfl⟩:=open_bool Tryz.underlying4 (hval 4 4 v4 rfl rfl) h4;obtain ⟨hsg,htab⟩:=of_laid hL;obtain ⟨a0,len0,cap0,rfl⟩:=okWide_slice Tryz.underlying32 (hval 0 32 v0 rfl rfl);obtain ⟨a2,len2,cap2,rfl⟩:=okWide_slice Tryz.underlying32 (hval 2 32 v2 rfl rfl);have h0k:=h0;have h2k:=h2;obtain ⟨fuel0,hf0⟩:=h0;obtain ⟨fuel2,hf2⟩:=h2;clear hA0 hval0;simp only [List.append_nil] at hW';have hlt0:∀ x∈p0,x.block<W.heap.size:=fun x hx=>hW'.lt x (by simp [hx])
 have hlt2:∀ x∈p2,x.block<W.heap.size:=fun x hx=>hW'.lt x (by simp [hx])
 obtain ⟨bs,hlen0,hsl0,hxr0,hbn⟩:=ints_ofT hf0 (by
  intro elems spare hd;subst hd
  exact sized_slice hwt (j:=0) (t:=32) (e:=3) (by rw [Tryz.params6];rfl) rfl Tryz.underlying32)
 obtain ⟨goals,hlen2,hsl2,hxr2,_⟩:=ints_ofT hf2 (by
  intro elems spare hd;subst hd
  exact sized_slice hwt (j:=2) (t:=32) (e:=3) (by rw [Tryz.params6];rfl) rfl Tryz.underlying32)
 subst hlen0;subst hlen2;refine (torn_any a0 a2 cap0 cap2 bs goals n1 n3 b4 W (in64T hn1) (in64T hn3) hsl0 hxr0 hbn hsl2 hxr2 hsg (tab_below htab)).mono fun e W' ⟨he,hnx⟩=>?_
 subst he;refine ⟨_,rfl,_,_,_,[],p0++([]++(p2++([]++[]))),[],hW',?_,?_,rfl,hnx.frame _,fun h=>by cases h⟩
 ·exact trodAll_mk1 (shut_bool Tryz.underlying4 _)
 ·exact ⟨p0,[]++(p2++([]++[])),Below.trod Tryz.laidOutT (by kernel_rfl) (of_decide_eq_true (by kernel_rfl)) h0k hnx hlt0,trodAll_mk4 (shut_int Tryz.underlying3 hn1) (Below.trod Tryz.laidOutT (by kernel_rfl) (of_decide_eq_true (by kernel_rfl)) h2k hnx hlt2) (shut_int Tryz.underlying3 hn3) (shut_bool Tryz.underlying4 _),rfl⟩
theorem torn_row:Rows.TornSaid :=
 OpenClaim.holds_of_wide 6 Tryz.f6 rfl rfl rfl rfl rfl rfl rfl ⟨rfl,rfl,rfl,rfl,rfl⟩ rfl rfl rfl rfl rfl (by kernel_rfl) Tryz.func6 (by kernel_rfl)
  (of_decide_eq_true (by kernel_rfl)) (by unfold Func.isWrapper;first | (rw [if_pos (by decide +kernel)];kernel_rfl) | (rw [if_neg (by decide +kernel)];exact ⟨rfl,rfl⟩))
  (fun os started H enc _=>liftedT os started H enc)
theorem torn_holds:Rows.TornCardSaid :=
 Claim7.holds_tied_plain_at .later [] [.data,.data,.data,.sentinel,.sentinel,.data] true (true, "95890675905a8cc456eadb4e1d19b9f0a6989685e6490d47f9a3da056d9b1655") true
  torn_row (fun _ h=>by cases h) (by kernel_rfl) (fun _ h=>by cases h) torn_row_tie rfl ⟨rfl,rfl⟩ (by kernel_rfl) rfl
  (fun f fn hf hfn=>by
   obtain rfl:f=6:=Option.some.inj ((show Tryz.prog.funcNamed "helm/helmkeep.Torn" = some 6 by kernel_rfl).symm.trans hf) |>.symm;obtain rfl:fn=Tryz.f6:=(Option.some.inj (Tryz.func6.symm.trans hfn)).symm
   exact ⟨by kernel_rfl,fun j t ht=>by
    rw [Tryz.params6] at ht;have hm:t∈[32,3,32,3,4]:=by simpa using Array.mem_of_getElem? ht
    have hall:([32,3,32,3,4].all fun u=>!Tryz.prog.wantsStandIn u)=true:=by kernel_rfl
    exact (show Tryz.prog.wantsStandIn t=false by simpa using List.all_eq_true.1 hall t hm)⟩)
  (by kernel_rfl)
#print axioms torn_holds
end Go.Proofs.YtdjaiolfdbamcaaGreatDoor
