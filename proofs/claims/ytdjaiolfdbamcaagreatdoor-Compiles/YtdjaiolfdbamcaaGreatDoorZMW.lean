/- What the cards' conditions give a walk: the listed tables lie as the program's text lays them. -/
import Derived.Test.YtdjaiolfdbamcaaGreatDoorZWRead1
import Derived.Test.YtdjaiolfdbamcaaGreatDoorCards
import Derived.Test.YtdjaiolfdbamcaaGreatDoorTie
import Derived.ProofKit
import Derived.LaidMore
import Derived.OpenShut
import Derived.Stop.LaidErr
namespace Go.Proofs.YtdjaiolfdbamcaaGreatDoor
open Go.ChangeShapes Go.WideShapes Go.ChangeAt Go.WideMaps Go.WideElems Go.RowKit
variable {W:World}
theorem own:ownKnob Tryz.prog.godebug=none:=by kernel_rfl
theorem apo:Tryz.prog.globalNamed "internal/strconv.uint64pow10"=some 4:=by kernel_rfl
theorem apq:(Tryz.prog.globals[4]?).map (·.type)=some 367:=by kernel_rfl
theorem Tj:Tryz.prog.globalNamed "helm/token.signs"=some 0:=by kernel_rfl
theorem afm:(Tryz.prog.globals[0]?).map (·.type)=some 293:=by kernel_rfl
def H4:List (String×DataW Unit):=[("math/bits.deBruijn32tab",Rows.laid_math_bits_deBruijn32tab),("math/bits.deBruijn64tab",Rows.laid_math_bits_deBruijn64tab),("internal/strconv.uint64pow10",Rows.laid_internal_strconv_uint64pow10),("strconv.ErrRange",Rows.laid_strconv_ErrRange),("strconv.ErrSyntax",Rows.laid_strconv_ErrSyntax),("helm/token.signs",Rows.laid_helm_token_signs)]
theorem zC{H:Type}{enc:TypeId×Value->H}{P:Program}{w:World}{base:Nat}{sp:Nat->Bool}{held:Bool}{fuel:Nat}{t e:TypeId}{n:Nat}{cs:List Value}{zs:List (List UInt8)}{p:List MemPlace}
  (ht:P.underlying t=some (.array n e)) (he:P.underlying e=some .string) (hce:P.cellsOf e=1) (hct:P.cellsOf t=n)
  (h:DataW.trod enc P w base sp held fuel t cs=some (.agg (zs.map λz=>.lit (.string z)),p)):cs=zs.map λz=>Value.string ⟨z.toArray⟩:=by
 cases fuel with
 |zero=>simp[DataW.trod]at h
 |succ fuel=>
  simp only [DataW.trod,ht,hce,hct,Nat.mul_one]at h;split at h
  ·rename_i hl
   obtain⟨xs,hm,hx⟩:=Option.map_eq_some_iff.1 h;have Xr:xs.map (·.1)=zs.map λz=>(DataW.lit (.string z):DataW H):=by
    have:=congrArg Prod.fst hx;simpa using this
   have hxl:xs.length=n:=by simpa using Lib.mapM_length hm
   have hzl:zs.length=n:=by
    have:=congrArg List.length Xr;simp at this;omega
   apply List.ext_getElem?;intro i
   by_cases hi:i<n
   ·obtain⟨b,hb,hf⟩:=Lib.mapM_at hm i i (by simp[hi])
    obtain⟨z,hc,rfl,_⟩:=DataW.trod_string he hf;have h1:cs[i]?=some (.string z):=by
     have:=congrArg (·[0]?) hc;simpa[List.getElem?_take,List.getElem?_drop]using this
    have h2:(xs.map (·.1))[i]?=some (DataW.lit (.string z.data.toList):DataW H):=by simp[hb]
    rw[Xr]at h2;simp only [List.getElem?_map,Option.map_eq_some_iff,DataW.lit.injEq,Lit.string.injEq]at h2;obtain⟨z',hz',eg⟩:=h2;have e:(⟨z'.toArray⟩:ByteArray)=z:=by rw[eg]
    simp[h1,hz',e]
   ·rw[List.getElem?_eq_none (by omega),List.getElem?_eq_none (by simp;omega)]
  ·cases h
theorem aal(h:laidMetH Tryz.prog H4 W):fg W/\Lib.TabIs Tryz.prog W "internal/strconv.uint64pow10" .u64 Lib.pow10Tab:=by
 rw[MakeChecks.laidMetH_plain _ _ _ (by kernel_rfl)]at h;constructor
 ·obtain⟨ps,⟨g,t,cs,fuel,p,q,hg,ht,hv,hd,_,_⟩,_⟩:=h.tail.tail.tail.tail.tail
  obtain rfl:=Option.some.inj (Tj.symm.trans hg);obtain rfl:=Option.some.inj (afm.symm.trans ht);have hcs:cs.toList=[[46,46],[60,61],[61,61],[33,61],[62,61],[123],[125],[40],[41],[59],[60],[62]].map λz=>Value.string ⟨z.toArray⟩:=
   zC Tryz.underlying293 Tryz.underlying9 (by kernel_rfl) (by kernel_rfl) hd
  have apr:cs=uo:=by
   have:cs=cs.toList.toArray:=by simp
   rw[this,hcs];rfl
  simp only [World.var?,Tj,Option.bind_some]at hv;split at hv
  ·rename_i SO t' fr hh
   simp only [Option.some.injEq]at hv;exact⟨t',fr,by rw[hh,hv,apr]⟩
  ·cases hv
 ·exact Lib.tabIs_of_head apo apq Tryz.underlying367 Tryz.underlying333 (by kernel_rfl) (by kernel_rfl) (rest:=[("strconv.ErrRange",Rows.laid_strconv_ErrRange),("strconv.ErrSyntax",Rows.laid_strconv_ErrSyntax),("helm/token.signs",Rows.laid_helm_token_signs)]) h.tail.tail
theorem O7(h:Lib.TabIs Tryz.prog W "internal/strconv.uint64pow10" .u64 Lib.pow10Tab):∀V,Below W.heap.size W V->Lib.TabIs Tryz.prog V "internal/strconv.uint64pow10" .u64 Lib.pow10Tab:=Lib.tabBelow_of_tabIs h
theorem Tk(os:Os)(args:Array Value):laidMetH Tryz.prog H4 ((World.doorLaid Tryz.prog 4000 os).forCall (λ_ _=>0) ⟨#[],args,[]⟩).memory:=
 laidMetH_of_parts3 (fuel:=8) (laidMet_of_run' 8 (by kernel_rfl) (by kernel_rfl)) (by kernel_rfl) (by kernel_rfl)
