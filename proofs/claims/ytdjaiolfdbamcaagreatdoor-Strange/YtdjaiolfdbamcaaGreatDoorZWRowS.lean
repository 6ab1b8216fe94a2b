/- The walk of walked. -/
import Derived.Test.YtdjaiolfdbamcaaGreatDoorZMV
import Derived.Test.YtdjaiolfdbamcaaGreatDoorZMW
import Derived.Deep.Matrix
import Derived.SizedLaws
import Derived.Carry
import Derived.ChangeSlices
import Derived.RowKit2
import Derived.RowKit3
set_option maxRecDepth 100000
set_option maxHeartbeats 4000000
namespace Go.Proofs.YtdjaiolfdbamcaaGreatDoor
open Go.RowKit
attribute [local go_sem ↓] Go.wp_at_zero Go.wp_at_succ
def SmM (w:World) (ss:Option Addr) (ls:List (List Int)):Prop:=∀ i (hi:i<ls.length),∃ g o a c,ss=some ⟨g,o,none⟩∧g<w.heap.size∧w.cell? ⟨g,o+i,none⟩=some (.slice a ls[i].length c)∧SlI w a ls[i]∧(a=none→c=0)∧∀ g2 o2,a=some ⟨g2,o2,none⟩→0<ls[i].length→g2<w.heap.size
theorem bstr_app (a b:List UInt8):bstr a++bstr b=bstr (a++b):=by
 apply ByteArray.ext
 simp [bstr]
theorem walk_drop (im:Mx.Img) (s:Mx.Mst) (ls:List (List Int)) (i:Nat) (hi:i<ls.length) (out:List UInt8):Mx.walk im s (ls.drop i) out=match Mx.mstep im s ls[i] with
  | some s2=>Mx.walk im s2 (ls.drop (i+1)) (out++((im.leaf s2.at_).1++[46]))
  | none=>Mx.walk im s (ls.drop (i+1)) (out++[33]):=by
 rw [List.drop_eq_getElem_cons hi];rfl
theorem walked_any (w0 w:World) (M:MaP) (s:Mx.Mst) (vh:Value) (ss:Option Addr) (cs:Nat) (ls:List (List Int)) (hb:Below w0.heap.size w0 w) (hmb:w0.heap.size≤M.mb) (h:MaM w M s vh) (hG:M.im.Good) (hs:SmM w0 ss ls) (hn:ls.length≤1000000000000000000) :
  Calls Tryz.prog 34 #[.pointer (some ⟨M.mb,0,none⟩),.slice ss ls.length cs] w fun e w'=>e=.returned (.string (bstr (Mx.walk M.im s ls [46])))∧Kp (fun k=>k=M.mb) w w'∧∃ s' vh',MaM w' M s' vh':=by
 have HB:=hide hb
 have H:=hide h
 have HG:=hide hG
 have HS:=hide hs
 obtain ⟨ans,hans⟩ : ∃ ans,ans=Mx.walk M.im s ls [46]:=⟨_,rfl⟩
 rw [← hans]
 have HA:=hide hans
 clear hb h hG hs hans
 go_enter Tryz.func34,Tryz.ntmps34
 go_wp2_with fail
 go_loopg [5,6] (ls.length) (fun k v5 v6 wr=>∃ (i:Nat) (s1:Mx.Mst) (vh1:Value) (out:List UInt8),i+k=ls.length∧v6=.int .i64 i∧v5=.string (bstr out)∧Kp (fun k=>k=M.mb) w wr∧MaM wr M s1 vh1∧ans=Mx.walk M.im s1 (ls.drop i) out∧out.length≤9*i+1)
 case atStart=>exact ⟨0,s,vh,[46],by omega,rfl,rfl,Kp.refl _ _,H.out,HA.out,by simp⟩
 case round =>
  obtain ⟨i,s1,vh1,out,hi,rfl,rfl,hkr,hmr,hwk,hol⟩:=hrel
  have hosz:=bstr_size out
  have HKR:=hide hkr
  have HMR:=hide hmr
  by_cases hlt:i<ls.length
  ·have hii:(i:Int)<ls.length:=by omega
   have hi0:(0:Int)≤i:=by omega
   have hbr:Below w0.heap.size w0 wr:=HB.out.trans (hkr.toBelow (fun k e=>by have e':k=M.mb:=e;omega) HB.out.size)
   obtain ⟨g,o,a,c,hss,hgl,hcell,hsl,hz,hg2⟩:=HS.out i hlt
   have HSL:=hide hsl
   have HZ:=hide hz
   have HNE:Hid (0<ls[i].length→∀ g2 o2,a=some ⟨g2,o2,none⟩→g2≠M.mb):=hide (fun hp g2 o2 e=>by have:=hg2 g2 o2 e hp;omega)
   rw [walk_drop M.im s1 ls i hlt out] at hwk
   have HWK:=hide hwk
   have HMD:=hide (Mode_any wr M s1 vh1 hmr (HG.out.name s1.at_))
   have HBR:=hide hbr
   have HCE:=hide hcell
   have HSS:=hide hss
   have hgood1:=HG.out.name s1.at_
   have HSTP:=hide (fun s2=>HG.out.step (s:=s1) (s2:=s2) (xs:=ls[i]) hmr.at_)
   have HNM:=hide (fun k=>HG.out.name k)
   clear hkr hmr hwk hbr hsl hz hg2 hcell hss
   generalize ls[i]=x at *
   go_wp2_with fail
   refine HMD.out.mono ?_
   rintro e w2 ⟨rfl,hb2⟩
   have hm2:=HMR.out.kept hb2
   have hB2:Below w0.heap.size w0 w2:=HBR.out.trans (hb2.mono HBR.out.size)
   have HK2:=hide (HKR.out.below hb2)
   have x0:w2.cell? ⟨g,o+i,none⟩=some (.slice a x.length c):=(hB2.cell (p:=⟨g,o+i,none⟩) hgl).trans HCE.out
   have HST:=hide (Step_any w2 M s1 vh1 a c x hm2 HG.out (HSL.out.below hB2) HZ.out HNE.out)
   rw [HSS.out]
   clear hm2 hB2 hb2 HMD
   go_wp2_with fail
   refine HST.out.mono ?_
   rintro e w3 ⟨hk3,hr3⟩
   have HK3:=hide (HK2.out.trans hk3 (fun k h=>.inl h))
   clear hk3 HST x0
   cases hms:Mx.mstep M.im s1 x with
   | none =>
    rw [hms] at hr3
    have hwk:=HWK.out
    rw [hms] at hwk
    obtain ⟨rfl,vh3,hm3⟩:=hr3
    have HM3:=hide hm3
    have HMD3:=hide (Mode_any w3 M s1 vh3 hm3 hgood1)
    have HW3:=hide hwk
    clear hm3 hwk HWK hms
    go_wp2_with fail
    refine HMD3.out.mono ?_
    rintro e w4 ⟨rfl,hb4⟩
    have HK4:=hide (HK3.out.below hb4)
    have HM4:=hide (HM3.out.kept hb4)
    clear hb4 HMD3
    generalize bstr (M.im.leaf s1.at_).1=nm at *
    go_wp2_with fail
    rw [← HSS.out]
    go_roundg (ls.length-(i+1))
    case measure=>omega
    case rel=>exact ⟨i+1,s1,vh3,out++[33],by omega,by go_num,by rw [← bstr_app];rfl,HK4.out,HM4.out,HW3.out,by simp;omega⟩
   | some s2 =>
    rw [hms] at hr3
    have hwk:=HWK.out
    rw [hms] at hwk
    obtain ⟨rfl,vh3,hm3⟩:=hr3
    have HM3:=hide hm3
    have HMD3:=hide (Mode_any w3 M s2 vh3 hm3 (HNM.out s2.at_))
    have HW3:=hide hwk
    have hn8:=HNM.out s2.at_
    have hnz:=bstr_size (M.im.leaf s2.at_).1
    clear hm3 hwk HWK hms
    go_wp2_with fail
    refine HMD3.out.mono ?_
    rintro e w4 ⟨rfl,hb4⟩
    have HK4:=hide (HK3.out.below hb4)
    have HM4:=hide (HM3.out.kept hb4)
    clear hb4 HMD3
    go_wp2_with fail
    rw [← HSS.out]
    go_roundg (ls.length-(i+1))
    case measure=>omega
    case rel=>exact ⟨i+1,s2,vh3,out++((M.im.leaf s2.at_).1++[46]),by omega,by go_num,by rw [← List.append_assoc,← bstr_app,← bstr_app];rfl,HK4.out,HM4.out,HW3.out,by simp;omega⟩
  ·obtain rfl:i=ls.length:=by omega
   have HAN:Hid (ans=out):=hide (by rw [hwk,List.drop_length];rfl)
   clear hkr hmr hwk
   go_wp2_with fail
   go_ret
   exact ⟨by rw [HAN.out];rfl,HKR.out,s1,vh1,HMR.out⟩
end Go.Proofs.YtdjaiolfdbamcaaGreatDoor
/- The walk of Strange. -/
namespace Go.Proofs.YtdjaiolfdbamcaaGreatDoor
open Go.RowKit
theorem strange_any (bs:List UInt8) (w:World) (ss:Option Addr) (cs:Nat) (ls:List (List Int)) (hs:bs.length≤maxLen) (hls:SmM w ss ls) (hn:ls.length≤1000000000000000000) (hsg:SignsIs w) (htab:∀ W,Below w.heap.size w W→Lib.TabIs Tryz.prog W "internal/strconv.uint64pow10" .u64 Lib.pow10Tab) :
  Calls Tryz.prog 11 #[.string (bstr bs),.slice ss ls.length cs] w fun e w'=>e=.returned (.bool true)∧Below w.heap.size w w':=by
 have HAW:=hide (awake_any w hsg htab)
 clear hsg htab
 have HS:=hide hls
 clear hls
 go_enter Tryz.func11,Tryz.ntmps11
 go_wp2_with fail
 refine HAW.out.mono ?_
 rintro e w1 ⟨rfl,hb1⟩
 have HB1:=hide hb1
 have HLD:=hide (Load_any w1 bs hs)
 have HGD:=hide (fun im=>load_good (bs:=bs) (im:=im))
 unfold LoadR at HLD
 generalize Mx.load bs=dq at *
 clear hb1 HAW
 go_wp2_with fail
 refine HLD.out.mono ?_
 rintro e w2 ⟨hb2,hr2⟩
 have HB2:=hide (HB1.out.trans (hb2.mono HB1.out.size))
 have hs1:=HB1.out.size
 have hs2:=hb2.size
 cases dq with
 | none =>
  obtain rfl:=hr2
  clear hb2 HLD HGD
  go_wp2_with fail
  go_ret
  exact ⟨rfl,HB2.out⟩
 | some im =>
  obtain ⟨M,hM,rfl,hm2,hmb⟩:=hr2
  subst hM
  have HG:=hide (HGD.out _ rfl)
  have hmw:w.heap.size≤M.mb:=by omega
  have HM2:=hide hm2
  have hn8:=HG.out.name M.im.first
  have HMD:=hide (Mode_any w2 M ⟨M.im.first,none⟩ _ hm2 hn8)
  have hnz:=bstr_size (M.im.leaf M.im.first).1
  obtain ⟨nm,hnm⟩ : ∃ nm,nm=bstr (M.im.leaf M.im.first).1:=⟨_,rfl⟩
  rw [← hnm] at HMD hnz
  have hni:(nm.size:Int)≤8:=by omega
  have HNM:=hide hnm
  obtain ⟨r,hr⟩:=Mx.walk_front M.im ls ⟨M.im.first,none⟩ [46]
  obtain ⟨wk,hwk⟩ : ∃ wk,wk=bstr (Mx.walk M.im ⟨M.im.first,none⟩ ls [46]):=⟨_,rfl⟩
  have hq:(wk.toList == [63])=false:=by
   rw [hwk,Lib.toList_data,bstr_data,hr];rfl
  have HWK:=hide hwk
  clear hm2 hb2 HLD HGD hmb hr hwk hnm
  go_wp2_with fail
  refine HMD.out.mono ?_
  rintro e w3 ⟨rfl,hb3⟩
  have hB3:=HB2.out.trans (hb3.mono HB2.out.size)
  have HB3:=hide hB3
  have HWL:=hide (walked_any w w3 M ⟨M.im.first,none⟩ _ ss cs ls hB3 hmw (HM2.out.kept hb3) HG.out HS.out hn)
  rw [← HWK.out] at HWL
  clear hb3 hB3 HMD
  go_wp2_with fail
  refine HWL.out.mono ?_
  rintro e w4 ⟨rfl,hk4,s4,vh4,hm4⟩
  have HB4:Hid (Below w.heap.size w w4):=hide (HB3.out.trans (hk4.toBelow (fun k e=>by have e':k=M.mb:=e;omega) HB3.out.size))
  have HRS:=hide (Reset_any w4 M s4 vh4 hm4 HG.out.ok.first)
  clear hk4 hm4 HWL
  go_wp2_with fail
  refine HRS.out.mono ?_
  rintro e w5 ⟨rfl,hm5,hk5⟩
  have HB5:Hid (Below w.heap.size w w5):=hide (HB4.out.trans (hk5.toBelow (fun k e=>by have e':k=M.mb:=e;omega) HB4.out.size))
  have HM5:=hide hm5
  have HMD2:=hide (Mode_any w5 M ⟨M.im.first,none⟩ _ hm5 hn8)
  rw [← HNM.out] at HMD2
  clear hm5 hk5 HRS
  go_wp2_with fail
  refine HMD2.out.mono ?_
  rintro e w6 ⟨rfl,hb6⟩
  have hB6:=HB5.out.trans (hb6.mono HB5.out.size)
  have HB6:=hide hB6
  have HWL:=hide (walked_any w w6 M ⟨M.im.first,none⟩ _ ss cs ls hB6 hmw (HM5.out.kept hb6) HG.out HS.out hn)
  rw [← HWK.out] at HWL
  clear hb6 hB6 HMD2
  go_wp2_with fail
  refine HWL.out.mono ?_
  rintro e w7 ⟨rfl,hk7,s7,vh7,hm7⟩
  have HB7:Hid (Below w.heap.size w w7):=hide (HB6.out.trans (hk7.toBelow (fun k e=>by have e':k=M.mb:=e;omega) HB6.out.size))
  clear hk7 hm7 HWL
  have e1:(nm.toList == nm.toList)=true:=by simp
  have e2:(wk.toList == wk.toList)=true:=by simp
  go_wp2_with fail
  go_ret
  exact ⟨rfl,HB7.out⟩
end Go.Proofs.YtdjaiolfdbamcaaGreatDoor
/- Strange answers true at every image and all samples: the row,out of the walk;conditions: the listed tables lie as the program's text lays them. -/
namespace Go.Proofs.YtdjaiolfdbamcaaGreatDoor
open Go.ChangeShapes Go.WideShapes Go.ChangeAt Go.WideMaps Go.WideElems Go.RowKit
theorem Tryz.laidOutS:laidOutB Tryz.prog=true:=by kernel_rfl
theorem Tryz.bytesRow:Tryz.prog.bytesOf 32=24:=by kernel_rfl
theorem add_at (b o r:Nat):((⟨b,o,none⟩ : Addr).add r)=⟨b,o+r,none⟩:=by simp [Addr.add]
theorem samples_of {H:Type} {enc:TypeId×Value→H} {W:World} {fuel:Nat} {a0:Option Addr} {len cap:Nat} {d:DataW H} {p:List MemPlace} (hf:DataW.trod enc Tryz.prog W 0 (fun _=>true) true fuel 24 (Value.slice a0 len cap).cells.toList=some (d,p)) (hz:∀ elems spare,d=.slice elems spare→(elems.length+spare.length)*Tryz.prog.bytesOf 32≤reachBytes) :
  ∃ ls:List (List Int),ls.length=len∧SmM W a0 ls∧ls.length≤1000000000000000000:=by
 rcases Deep.open_int_rows Tryz.underlying24 Tryz.underlying32 Tryz.underlying3 (by kernel_rfl) (by kernel_rfl) hf with ⟨hcs0,_⟩ | ⟨a,len',cap',A,L,C,Z,hcs0,_,hl,_,hx,hrows⟩
 ·simp [Value.cells] at hcs0
  obtain ⟨rfl,rfl,rfl⟩:=hcs0
  exact ⟨[],rfl,fun i hi=>absurd hi (by simp),by simp⟩
 ·simp [Value.cells] at hcs0
  obtain ⟨rfl,rfl,rfl⟩:=hcs0
  simp only [Prod.mk.injEq] at hx
  have hsz:=hz _ _ hx.1
  simp only [List.length_map,List.length_range,Tryz.bytesRow,show reachBytes=140737488351232 from rfl] at hsz
  refine ⟨(List.range len).map fun r=>(Z r).take (L r),by simp,fun i hi=>?_,by simp;omega⟩
  have hi':i<len:=by simpa using hi
  obtain ⟨hcell,hLC,_,hZ,_,hnil,hsome⟩:=hrows i (by omega)
  obtain ⟨b,o,spot⟩:=a
  have hspot:spot=none:=by simpa [Addr.add] using World.cell?_spot (hrows 0 (by omega)).1
  subst hspot
  rw [add_at] at hcell
  have he:((List.range len).map fun r=>(Z r).take (L r))[i]=(Z i).take (L i):=by simp
  have hel:((Z i).take (L i)).length=L i:=by rw [List.length_take];omega
  have hat:∀ j,j<L i→∃ g o,A i=some ⟨g,o,none⟩∧g<W.heap.size∧W.cell? ⟨g,o+j,none⟩=some (.int .i64 ((Z i).getD j 0)):=by
   intro j hj
   cases hA:A i with
   | none=>have:=hnil hA;omega
   | some a' =>
    have hc:=(hsome a' hA).2 j (by omega)
    obtain ⟨g,o,sp⟩:=a'
    have hs:sp=none:=by simpa [Addr.add] using World.cell?_spot ((hsome _ hA).2 0 (by omega))
    subst hs
    rw [add_at] at hc
    exact ⟨g,o,rfl,World.block_lt_of_cell? W ⟨g,o+j,none⟩ hc,hc⟩
  refine ⟨b,o,A i,C i,rfl,World.block_lt_of_cell? W ⟨b,o+i,none⟩ hcell,?_,?_,hnil,?_⟩
  ·rw [he,hel];exact hcell
  ·rw [he]
   intro j hj
   rw [hel] at hj
   obtain ⟨g,o,h1,h2,h3⟩:=hat j hj
   refine ⟨g,o,h1,h2,?_⟩
   rw [h3,List.getElem_take,List.getD_eq_getElem?_getD,List.getElem?_eq_getElem (by omega)];rfl
  ·intro g2 o2 e hp
   rw [he,hel] at hp
   obtain ⟨g,o,h1,h2,_⟩:=hat 0 hp
   rw [e] at h1
   cases h1
   exact h2
theorem liftedS (os:Os) (started:os.Started) (H:Type) (enc:TypeId×Value→H) :
  ReturnsInHanded {} Tryz.checked os 11 .any (fun w args=>(Rows.strangeSpec.pre enc Tryz.prog Tryz.f11 [] false w args∧laidMetH Tryz.prog laidL w)∧sizedMet enc Tryz.prog Tryz.f11 (OpenSpec.ofChange Rows.strangeSpec) false w args)
   (Rows.strangeSpec.post enc Tryz.prog Tryz.f11 false true false false):=by
 refine returnsInHanded_of_change_and (C:=Tryz.checked) (X:=fun w _=>laidMetH Tryz.prog laidL w) (fun _ _ _ hh h=>h.of_heap hh) own started (by kernel_rfl) Tryz.func11
  (ChangeSpec.witness_shaped (enc:=enc) (C:=Tryz.checked) (os:=os) (X:=fun w _=>laidMetH Tryz.prog laidL w) false (World.doorLaid Tryz.prog 4000 os) #[.string ⟨#[]⟩,.slice none 0 0] 8 rfl (World.shaped_of_RefB (by kernel_rfl) (by kernel_rfl)) (by kernel_rfl) (by kernel_rfl) (by kernel_rfl) (door_met os _)) ?_
 intro W base args ds gs before hval0 hW _ hwt hL _
 have hval:∀ (j:Nat) t v,Tryz.f11.params[j]? = some t→args[j]? = some v→Value.okWide Tryz.prog W .any base t v:=hval0
 have hW':=hW
 obtain ⟨p,q,hA0,hV,rfl,_,_⟩:=hW
 have hA:DataW.TrodAll enc Tryz.prog W 0 (fun _=>true) true Tryz.f11.params.toList args.toList ds p:=hA0
 rw [Tryz.params11] at hA hval
 obtain ⟨v0,v1,d0,d1,p0,p1,rfl,rfl,rfl,h0,h1⟩:=trodAll_two hA
 obtain ⟨rfl,rfl⟩:=trodVars_none hV
 obtain ⟨s,rfl,rfl,rfl,hs⟩:=ChangeMaps.open_string Tryz.underlying9 (hval 0 9 v0 rfl rfl) h0
 obtain ⟨hsg,htab⟩:=of_laid hL
 obtain ⟨a0,len,cap,rfl⟩:=okWide_slice Tryz.underlying24 (hval 1 24 v1 rfl rfl)
 have h1k:=h1
 obtain ⟨fuel,hf⟩:=h1
 clear hA0 hval0
 simp only [List.append_nil] at hW'
 have hlt:∀ x∈p1,x.block<W.heap.size:=fun x hx=>hW'.lt x (by simp [hx])
 obtain ⟨ls,hlen,hsm,hln⟩:=samples_of hf (by
  intro elems spare hd
  subst hd
  exact sized_slice hwt (j:=1) (t:=24) (e:=32) (by rw [Tryz.params11];rfl) rfl Tryz.underlying24)
 subst hlen
 have hsb:s=bstr s.data.toList:=by cases s;simp [bstr]
 have hs2:s.data.toList.length≤maxLen:=by
  have:s.data.toList.length=s.size:=by cases s;simp [ByteArray.size]
  omega
 have hcalls:=strange_any s.data.toList W a0 cap ls hs2 hsm hln hsg (tab_below htab)
 rw [← hsb] at hcalls
 refine hcalls.mono fun e W' ⟨he,hnx⟩=>?_
 subst he
 refine ⟨_,rfl,_,_,_,[],[]++p1,[],hW',?_,?_,rfl,hnx.frame _,fun h=>by cases h⟩
 ·exact trodAll_mk1 (shut_bool Tryz.underlying4 _)
 ·exact trodAll_mk2 (ChangeMaps.shut_string Tryz.underlying9 hs) (Below.trod Tryz.laidOutS (by kernel_rfl) (of_decide_eq_true (by kernel_rfl)) h1k hnx hlt)
theorem strange_row:Rows.StrangeSaid :=
 OpenClaim.holds_of_wide 11 Tryz.f11 rfl rfl rfl rfl rfl rfl rfl ⟨rfl,rfl,rfl,rfl,rfl⟩ rfl rfl rfl rfl rfl (by kernel_rfl) Tryz.func11 (by kernel_rfl)
  (of_decide_eq_true (by kernel_rfl)) (by unfold Func.isWrapper;first | (rw [if_pos (by decide +kernel)];kernel_rfl) | (rw [if_neg (by decide +kernel)];exact ⟨rfl,rfl⟩))
  (fun os started H enc _=>liftedS os started H enc)
theorem strange_holds:Rows.StrangeCardSaid :=
 Claim7.holds_tied_plain_at .later [] [.data,.data,.data,.sentinel,.sentinel,.data] true (true, "95890675905a8cc456eadb4e1d19b9f0a6989685e6490d47f9a3da056d9b1655") true
  strange_row (fun _ h=>by cases h) (by kernel_rfl) (fun _ h=>by cases h) strange_row_tie rfl ⟨rfl,rfl⟩ (by kernel_rfl) rfl
  (fun f fn hf hfn=>by
   obtain rfl:f=11:=Option.some.inj ((show Tryz.prog.funcNamed "helm/helmkeep.Strange" = some 11 by kernel_rfl).symm.trans hf) |>.symm
   obtain rfl:fn=Tryz.f11:=(Option.some.inj (Tryz.func11.symm.trans hfn)).symm
   exact ⟨by kernel_rfl,fun j t ht=>by
    rw [Tryz.params11] at ht
    have hm:t∈[9,24]:=by simpa using Array.mem_of_getElem? ht
    have hall:([9,24].all fun u=>!Tryz.prog.wantsStandIn u)=true:=by kernel_rfl
    exact (show Tryz.prog.wantsStandIn t=false by simpa using List.all_eq_true.1 hall t hm)⟩)
  (by kernel_rfl)
#print axioms strange_holds
end Go.Proofs.YtdjaiolfdbamcaaGreatDoor
