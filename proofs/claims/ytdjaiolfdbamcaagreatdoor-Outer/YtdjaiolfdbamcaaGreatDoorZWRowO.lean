/- Outer answers true at all numbers and samples: the row, out of the walk; conditions: the listed tables lie as the program's text lays them. -/
import Derived.Test.YtdjaiolfdbamcaaGreatDoorZKOc
import Derived.Test.YtdjaiolfdbamcaaGreatDoorZMW
import Derived.SizedLaws
import Derived.Carry
import Derived.ChangeSlices
import Derived.RowKit2
import Derived.RowKit3
set_option maxRecDepth 100000
namespace Go.Proofs.YtdjaiolfdbamcaaGreatDoor
open Go.ChangeShapes Go.WideShapes Go.ChangeAt Go.WideMaps Go.WideElems Go.RowKit
theorem in64O {n:Int} (h:(Lit.int .i64 n).wf=true) : -9223372036854775808≤n∧n≤9223372036854775807:=by
 simpa [Lit.wf,IntKind.min,IntKind.max,IntKind.signed,IntKind.bits] using h
theorem Tryz.laidOutO:laidOutB Tryz.prog=true:=by kernel_rfl
theorem Tryz.cellsIntO:Tryz.prog.cellsOf 3=1:=by kernel_rfl
theorem add_atO (b o r:Nat):((⟨b,o,none⟩ : Addr).add r)=⟨b,o+r,none⟩:=by simp [Addr.add]
theorem ints_of {H:Type} {enc:TypeId×Value→H} {W:World} {fuel:Nat} {a0:Option Addr} {len cap:Nat} {d:DataW H} {p:List MemPlace} (hf:DataW.trod enc Tryz.prog W 0 (fun _=>true) true fuel 32 (Value.slice a0 len cap).cells.toList=some (d,p)) :
  ∃ xs:List Int,xs.length=len∧SlI W a0 xs∧∀ v∈xs,-9223372036854775808≤v∧v≤9223372036854775807:=by
 rcases open_ints Tryz.underlying32 Tryz.underlying3 Tryz.cellsIntO hf with ⟨hcs0,_⟩ | ⟨a,len',cap',zs,hcs0,_,hl,_,hz,_,hc,hw⟩
 ·simp [Value.cells] at hcs0
  obtain ⟨rfl,rfl,rfl⟩:=hcs0
  exact ⟨[],rfl,(fun i hi=>absurd hi (by simp)),(fun v hv=>by cases hv)⟩
 ·simp [Value.cells] at hcs0
  obtain ⟨rfl,rfl,rfl⟩:=hcs0
  simp only [if_true] at hz
  have hlt:(zs.take len).length=len:=by rw [List.length_take];omega
  refine ⟨zs.take len,hlt,fun i hi=>?_,fun v hv=>in64O (hw v (List.mem_of_mem_take hv))⟩
  rw [hlt] at hi
  have hci:=hc i (by omega)
  obtain ⟨b,o,sp⟩:=a
  have hs:sp=none:=by simpa [Addr.add] using World.cell?_spot (hc 0 (by omega))
  subst hs
  rw [add_atO] at hci
  refine ⟨b,o,rfl,World.block_lt_of_cell? W ⟨b,o+i,none⟩ hci,?_⟩
  rw [hci,List.getElem_take,List.getD_eq_getElem?_getD,List.getElem?_eq_getElem (by omega)];rfl
theorem outer_any (lim goal:Int) (sa:Option Addr) (cs:Nat) (xs:List Int) (w:World) (h1 : -9223372036854775808≤lim∧lim≤9223372036854775807) (h2 : -9223372036854775808≤goal∧goal≤9223372036854775807) (hx:SlI w sa xs) (hxr:∀ v∈xs,-9223372036854775808≤v∧v≤9223372036854775807) (hsg:SignsIs w) (htab:∀ W,Below w.heap.size w W→Lib.TabIs Tryz.prog W "internal/strconv.uint64pow10" .u64 Lib.pow10Tab) :
  Calls Tryz.prog 9 #[.int .i64 lim,.int .i64 goal,.slice sa xs.length cs] w fun e w'=>e=.returned (.bool true)∧Below w.heap.size w w' :=
 outer_walk lim goal sa cs xs w h1 h2 hx hxr (awake_any w hsg htab) (fun s S hT hy hs Y hY=>machineT_any s S hT hy hs Y (hsg.below hY (Nat.le_refl _)) (fun V hV=>htab V (hY.trans (hV.mono hY.size))))
theorem liftedO (os:Os) (started:os.Started) (H:Type) (enc:TypeId×Value→H) :
  ReturnsInHanded {} Tryz.checked os 9 .any (fun w args=>(Rows.outerSpec.pre enc Tryz.prog Tryz.f9 [] false w args∧laidMetH Tryz.prog laidL w)∧sizedMet enc Tryz.prog Tryz.f9 (OpenSpec.ofChange Rows.outerSpec) false w args)
   (Rows.outerSpec.post enc Tryz.prog Tryz.f9 false true false false):=by
 refine returnsInHanded_of_change_and (C:=Tryz.checked) (X:=fun w _=>laidMetH Tryz.prog laidL w) (fun _ _ _ hh h=>h.of_heap hh) own started (by kernel_rfl) Tryz.func9
  (ChangeSpec.witness_shaped (enc:=enc) (C:=Tryz.checked) (os:=os) (X:=fun w _=>laidMetH Tryz.prog laidL w) false (World.doorLaid Tryz.prog 4000 os) #[.int .i64 0,.int .i64 0,.slice none 0 0] 8 rfl (World.shaped_of_RefB (by kernel_rfl) (by kernel_rfl)) (by kernel_rfl) (by kernel_rfl) (by kernel_rfl) (door_met os _)) ?_
 intro W base args ds gs before hval0 hW _ _ hL _
 have hval:∀ (j:Nat) t v,Tryz.f9.params[j]? = some t→args[j]? = some v→Value.okWide Tryz.prog W .any base t v:=hval0
 have hW':=hW
 obtain ⟨p,q,hA0,hV,rfl,_,_⟩:=hW
 have hA:DataW.TrodAll enc Tryz.prog W 0 (fun _=>true) true Tryz.f9.params.toList args.toList ds p:=hA0
 rw [Tryz.params9] at hA hval
 obtain ⟨v0,v1,v2,d0,d1,d2,p0,p1,p2,rfl,rfl,rfl,h0,h1,h2⟩:=trodAll_three hA
 obtain ⟨rfl,rfl⟩:=trodVars_none hV
 obtain ⟨n0,rfl,rfl,rfl,hn0⟩:=open_int Tryz.underlying3 (hval 0 3 v0 rfl rfl) h0
 obtain ⟨n1,rfl,rfl,rfl,hn1⟩:=open_int Tryz.underlying3 (hval 1 3 v1 rfl rfl) h1
 obtain ⟨hsg,htab⟩:=of_laid hL
 obtain ⟨a0,len,cap,rfl⟩:=okWide_slice Tryz.underlying32 (hval 2 32 v2 rfl rfl)
 have h2k:=h2
 obtain ⟨fuel,hf⟩:=h2
 clear hA0 hval0
 simp only [List.append_nil] at hW'
 have hlt:∀ x∈p2,x.block<W.heap.size:=fun x hx=>hW'.lt x (by simp [hx])
 obtain ⟨xs,hlen,hsl,hxr⟩:=ints_of hf
 subst hlen
 refine (outer_any n0 n1 a0 cap xs W (in64O hn0) (in64O hn1) hsl hxr hsg (tab_below htab)).mono fun e W' ⟨he,hnx⟩=>?_
 subst he
 refine ⟨_,rfl,_,_,_,[],[]++([]++p2),[],hW',?_,?_,rfl,hnx.frame _,fun h=>by cases h⟩
 ·exact trodAll_mk1 (shut_bool Tryz.underlying4 _)
 ·exact trodAll_mk3 (shut_int Tryz.underlying3 hn0) (shut_int Tryz.underlying3 hn1) (Below.trod Tryz.laidOutO (by kernel_rfl) (of_decide_eq_true (by kernel_rfl)) h2k hnx hlt)
theorem outer_row:Rows.OuterSaid :=
 OpenClaim.holds_of_wide 9 Tryz.f9 rfl rfl rfl rfl rfl rfl rfl ⟨rfl,rfl,rfl,rfl,rfl⟩ rfl rfl rfl rfl rfl (by kernel_rfl) Tryz.func9 (by kernel_rfl)
  (of_decide_eq_true (by kernel_rfl)) (by unfold Func.isWrapper;first | (rw [if_pos (by decide +kernel)];kernel_rfl) | (rw [if_neg (by decide +kernel)];exact ⟨rfl,rfl⟩))
  (fun os started H enc _=>liftedO os started H enc)
theorem outer_holds:Rows.OuterCardSaid :=
 Claim7.holds_tied_plain_at .later [] [.data,.data,.data,.sentinel,.sentinel,.data] true (true, "95890675905a8cc456eadb4e1d19b9f0a6989685e6490d47f9a3da056d9b1655") true
  outer_row (fun _ h=>by cases h) (by kernel_rfl) (fun _ h=>by cases h) outer_row_tie rfl ⟨rfl,rfl⟩ (by kernel_rfl) rfl
  (fun f fn hf hfn=>by
   obtain rfl:f=9:=Option.some.inj ((show Tryz.prog.funcNamed "helm/helmkeep.Outer" = some 9 by kernel_rfl).symm.trans hf) |>.symm
   obtain rfl:fn=Tryz.f9:=(Option.some.inj (Tryz.func9.symm.trans hfn)).symm
   exact ⟨by kernel_rfl,fun j t ht=>by
    rw [Tryz.params9] at ht
    have hm:t∈[3,3,32]:=by simpa using Array.mem_of_getElem? ht
    have hall:([3,3,32].all fun u=>!Tryz.prog.wantsStandIn u)=true:=by kernel_rfl
    exact (show Tryz.prog.wantsStandIn t=false by simpa using List.all_eq_true.1 hall t hm)⟩)
  (by kernel_rfl)
#print axioms outer_holds
end Go.Proofs.YtdjaiolfdbamcaaGreatDoor
