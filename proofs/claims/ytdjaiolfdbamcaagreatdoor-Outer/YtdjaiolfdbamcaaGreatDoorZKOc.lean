/- Outer's table is taken, at each of its hundred numbers: by the kernel. -/
import Derived.Test.YtdjaiolfdbamcaaGreatDoorZKOa
import Derived.Test.YtdjaiolfdbamcaaGreatDoorZMW
import Derived.Test.YtdjaiolfdbamcaaGreatDoorZWCG2
set_option maxRecDepth 20000
set_option maxHeartbeats 4000000
namespace Go.Proofs.YtdjaiolfdbamcaaGreatDoor
theorem o_t0 (k:Nat):oChk k 0=true:=by kernel_rfl
theorem o_t1 (k:Nat):oChk k 1=true:=by kernel_rfl
theorem o_t2 (k:Nat):oChk k 2=true:=by kernel_rfl
theorem o_t3 (k:Nat):oChk k 3=true:=by kernel_rfl
theorem o_t4 (k:Nat):oChk k 4=true:=by kernel_rfl
theorem o_t5 (k:Nat):oChk k 5=true:=by kernel_rfl
theorem o_t6 (k:Nat):oChk k 6=true:=by kernel_rfl
theorem o_t7 (k:Nat):oChk k 7=true:=by kernel_rfl
theorem o_t8 (k:Nat):oChk k 8=true:=by kernel_rfl
theorem o_t9 (k:Nat):oChk k 9=true:=by kernel_rfl
theorem o_t10 (k:Nat):oChk k 10=true:=by kernel_rfl
theorem o_t11 (k:Nat):oChk k 11=true:=by kernel_rfl
theorem o_t12 (k:Nat):oChk k 12=true:=by kernel_rfl
theorem o_t13 (k:Nat):oChk k 13=true:=by kernel_rfl
theorem o_t14 (k:Nat):oChk k 14=true:=by kernel_rfl
theorem o_t15 (k:Nat):oChk k 15=true:=by kernel_rfl
theorem o_t16 (k:Nat):oChk k 16=true:=by kernel_rfl
theorem o_t17 (k:Nat):oChk k 17=true:=by kernel_rfl
theorem o_t18 (k:Nat):oChk k 18=true:=by kernel_rfl
theorem o_t19 (k:Nat):oChk k 19=true:=by kernel_rfl
theorem o_t20 (k:Nat):oChk k 20=true:=by kernel_rfl
theorem o_t21 (k:Nat):oChk k 21=true:=by kernel_rfl
theorem o_t22 (k:Nat):oChk k 22=true:=by kernel_rfl
theorem o_t23 (k:Nat):oChk k 23=true:=by kernel_rfl
theorem o_t24 (k:Nat):oChk k 24=true:=by kernel_rfl
theorem o_t25 (k:Nat):oChk k 25=true:=by kernel_rfl
theorem o_t26 (k:Nat):oChk k 26=true:=by kernel_rfl
theorem o_t27 (k:Nat):oChk k 27=true:=by kernel_rfl
theorem o_t28 (k:Nat):oChk k 28=true:=by kernel_rfl
theorem o_t29 (k:Nat):oChk k 29=true:=by kernel_rfl
theorem o_t30 (k:Nat):oChk k 30=true:=by kernel_rfl
theorem o_t31 (k:Nat):oChk k 31=true:=by kernel_rfl
theorem o_t32 (k:Nat):oChk k 32=true:=by kernel_rfl
theorem o_t33 (k:Nat):oChk k 33=true:=by kernel_rfl
theorem o_t34 (k:Nat):oChk k 34=true:=by kernel_rfl
theorem o_t35 (k:Nat):oChk k 35=true:=by kernel_rfl
theorem o_t36 (k:Nat):oChk k 36=true:=by kernel_rfl
theorem o_t37 (k:Nat):oChk k 37=true:=by kernel_rfl
theorem o_t38 (k:Nat):oChk k 38=true:=by kernel_rfl
theorem o_t39 (k:Nat):oChk k 39=true:=by kernel_rfl
theorem o_t40 (k:Nat):oChk k 40=true:=by kernel_rfl
theorem o_t41 (k:Nat):oChk k 41=true:=by kernel_rfl
theorem o_t42 (k:Nat):oChk k 42=true:=by kernel_rfl
theorem o_t43 (k:Nat):oChk k 43=true:=by kernel_rfl
theorem o_t44 (k:Nat):oChk k 44=true:=by kernel_rfl
theorem o_t45 (k:Nat):oChk k 45=true:=by kernel_rfl
theorem o_t46 (k:Nat):oChk k 46=true:=by kernel_rfl
theorem o_t47 (k:Nat):oChk k 47=true:=by kernel_rfl
theorem o_t48 (k:Nat):oChk k 48=true:=by kernel_rfl
theorem o_t49 (k:Nat):oChk k 49=true:=by kernel_rfl
theorem o_t50 (k:Nat):oChk k 50=true:=by kernel_rfl
theorem o_t51 (k:Nat):oChk k 51=true:=by kernel_rfl
theorem o_t52 (k:Nat):oChk k 52=true:=by kernel_rfl
theorem o_t53 (k:Nat):oChk k 53=true:=by kernel_rfl
theorem o_t54 (k:Nat):oChk k 54=true:=by kernel_rfl
theorem o_t55 (k:Nat):oChk k 55=true:=by kernel_rfl
theorem o_t56 (k:Nat):oChk k 56=true:=by kernel_rfl
theorem o_t57 (k:Nat):oChk k 57=true:=by kernel_rfl
theorem o_t58 (k:Nat):oChk k 58=true:=by kernel_rfl
theorem o_t59 (k:Nat):oChk k 59=true:=by kernel_rfl
theorem o_t60 (k:Nat):oChk k 60=true:=by kernel_rfl
theorem o_t61 (k:Nat):oChk k 61=true:=by kernel_rfl
theorem o_t62 (k:Nat):oChk k 62=true:=by kernel_rfl
theorem o_t63 (k:Nat):oChk k 63=true:=by kernel_rfl
theorem o_t64 (k:Nat):oChk k 64=true:=by kernel_rfl
theorem o_t65 (k:Nat):oChk k 65=true:=by kernel_rfl
theorem o_t66 (k:Nat):oChk k 66=true:=by kernel_rfl
theorem o_t67 (k:Nat):oChk k 67=true:=by kernel_rfl
theorem o_t68 (k:Nat):oChk k 68=true:=by kernel_rfl
theorem o_t69 (k:Nat):oChk k 69=true:=by kernel_rfl
theorem o_t70 (k:Nat):oChk k 70=true:=by kernel_rfl
theorem o_t71 (k:Nat):oChk k 71=true:=by kernel_rfl
theorem o_t72 (k:Nat):oChk k 72=true:=by kernel_rfl
theorem o_t73 (k:Nat):oChk k 73=true:=by kernel_rfl
theorem o_t74 (k:Nat):oChk k 74=true:=by kernel_rfl
theorem o_t75 (k:Nat):oChk k 75=true:=by kernel_rfl
theorem o_t76 (k:Nat):oChk k 76=true:=by kernel_rfl
theorem o_t77 (k:Nat):oChk k 77=true:=by kernel_rfl
theorem o_t78 (k:Nat):oChk k 78=true:=by kernel_rfl
theorem o_t79 (k:Nat):oChk k 79=true:=by kernel_rfl
theorem o_t80 (k:Nat):oChk k 80=true:=by kernel_rfl
theorem o_t81 (k:Nat):oChk k 81=true:=by kernel_rfl
theorem o_t82 (k:Nat):oChk k 82=true:=by kernel_rfl
theorem o_t83 (k:Nat):oChk k 83=true:=by kernel_rfl
theorem o_t84 (k:Nat):oChk k 84=true:=by kernel_rfl
theorem o_t85 (k:Nat):oChk k 85=true:=by kernel_rfl
theorem o_t86 (k:Nat):oChk k 86=true:=by kernel_rfl
theorem o_t87 (k:Nat):oChk k 87=true:=by kernel_rfl
theorem o_t88 (k:Nat):oChk k 88=true:=by kernel_rfl
theorem o_t89 (k:Nat):oChk k 89=true:=by kernel_rfl
theorem o_t90 (k:Nat):oChk k 90=true:=by kernel_rfl
theorem o_t91 (k:Nat):oChk k 91=true:=by kernel_rfl
theorem o_t92 (k:Nat):oChk k 92=true:=by kernel_rfl
theorem o_t93 (k:Nat):oChk k 93=true:=by kernel_rfl
theorem o_t94 (k:Nat):oChk k 94=true:=by kernel_rfl
theorem o_t95 (k:Nat):oChk k 95=true:=by kernel_rfl
theorem o_t96 (k:Nat):oChk k 96=true:=by kernel_rfl
theorem o_t97 (k:Nat):oChk k 97=true:=by kernel_rfl
theorem o_t98 (k:Nat):oChk k 98=true:=by kernel_rfl
theorem o_t99 (k:Nat):oChk k 99=true:=by kernel_rfl
theorem o_all (k:Nat):∀ c,c<100→oChk k c=true
 | 0,_=>o_t0 k
 | 1,_=>o_t1 k
 | 2,_=>o_t2 k
 | 3,_=>o_t3 k
 | 4,_=>o_t4 k
 | 5,_=>o_t5 k
 | 6,_=>o_t6 k
 | 7,_=>o_t7 k
 | 8,_=>o_t8 k
 | 9,_=>o_t9 k
 | 10,_=>o_t10 k
 | 11,_=>o_t11 k
 | 12,_=>o_t12 k
 | 13,_=>o_t13 k
 | 14,_=>o_t14 k
 | 15,_=>o_t15 k
 | 16,_=>o_t16 k
 | 17,_=>o_t17 k
 | 18,_=>o_t18 k
 | 19,_=>o_t19 k
 | 20,_=>o_t20 k
 | 21,_=>o_t21 k
 | 22,_=>o_t22 k
 | 23,_=>o_t23 k
 | 24,_=>o_t24 k
 | 25,_=>o_t25 k
 | 26,_=>o_t26 k
 | 27,_=>o_t27 k
 | 28,_=>o_t28 k
 | 29,_=>o_t29 k
 | 30,_=>o_t30 k
 | 31,_=>o_t31 k
 | 32,_=>o_t32 k
 | 33,_=>o_t33 k
 | 34,_=>o_t34 k
 | 35,_=>o_t35 k
 | 36,_=>o_t36 k
 | 37,_=>o_t37 k
 | 38,_=>o_t38 k
 | 39,_=>o_t39 k
 | 40,_=>o_t40 k
 | 41,_=>o_t41 k
 | 42,_=>o_t42 k
 | 43,_=>o_t43 k
 | 44,_=>o_t44 k
 | 45,_=>o_t45 k
 | 46,_=>o_t46 k
 | 47,_=>o_t47 k
 | 48,_=>o_t48 k
 | 49,_=>o_t49 k
 | 50,_=>o_t50 k
 | 51,_=>o_t51 k
 | 52,_=>o_t52 k
 | 53,_=>o_t53 k
 | 54,_=>o_t54 k
 | 55,_=>o_t55 k
 | 56,_=>o_t56 k
 | 57,_=>o_t57 k
 | 58,_=>o_t58 k
 | 59,_=>o_t59 k
 | 60,_=>o_t60 k
 | 61,_=>o_t61 k
 | 62,_=>o_t62 k
 | 63,_=>o_t63 k
 | 64,_=>o_t64 k
 | 65,_=>o_t65 k
 | 66,_=>o_t66 k
 | 67,_=>o_t67 k
 | 68,_=>o_t68 k
 | 69,_=>o_t69 k
 | 70,_=>o_t70 k
 | 71,_=>o_t71 k
 | 72,_=>o_t72 k
 | 73,_=>o_t73 k
 | 74,_=>o_t74 k
 | 75,_=>o_t75 k
 | 76,_=>o_t76 k
 | 77,_=>o_t77 k
 | 78,_=>o_t78 k
 | 79,_=>o_t79 k
 | 80,_=>o_t80 k
 | 81,_=>o_t81 k
 | 82,_=>o_t82 k
 | 83,_=>o_t83 k
 | 84,_=>o_t84 k
 | 85,_=>o_t85 k
 | 86,_=>o_t86 k
 | 87,_=>o_t87 k
 | 88,_=>o_t88 k
 | 89,_=>o_t89 k
 | 90,_=>o_t90 k
 | 91,_=>o_t91 k
 | 92,_=>o_t92 k
 | 93,_=>o_t93 k
 | 94,_=>o_t94 k
 | 95,_=>o_t95 k
 | 96,_=>o_t96 k
 | 97,_=>o_t97 k
 | 98,_=>o_t98 k
 | 99,_=>o_t99 k
 | c+100,h=>absurd h (by omega)
theorem o_is (c g:Nat) (hc:c<100) (hg:g<3):∃ ts,TableOf ⟨(oL c g).toArray⟩ ts∧∀ vs ms,TabD ts vs ms→tabSum vs ms=oSum c g∧Cx.find vs ms=none:=o_of c g hc hg (fun k=>o_all k c hc)
end Go.Proofs.YtdjaiolfdbamcaaGreatDoor
/- What the image of such a table is and does;nothing of the program is asked here. -/
namespace Go.Proofs.YtdjaiolfdbamcaaGreatDoor
open Hx Go.RowKit
structure GoodS (im:Mx.Img) (S:List (Int×Int)×Nat×List (List UInt8)×List (List RoS)):Prop where
 good:im.Good
 vars:im.vars=S.1
 first:im.first=S.2.1
 names:im.leaves.map (·.1)=S.2.2.1
 goes:∀ k,k<im.leaves.length→∀ xs leaf,Mx.run (im.leaf k).2 xs leaf=goS (S.2.2.2.getD k []) leaf xs
theorem img_sum {ts:List Hx.Tok} {vs:List VarA} {gs:List MG} {S:List (Int×Int)×Nat×List (List UInt8)×List (List RoS)} (hD:TabD ts vs (gs.map (·.a))) (hL:Links gs) (h:TabAll vs gs) (hS:tabSum vs (gs.map (·.a))=S) (hy:S.2.2.2.all (fun l=>l.all fun r=>r.1.isSome)=true) :
  ∃ im,Mx.load (Cx.imageOf vs (gs.map (·.a)))=some im∧GoodS im S∧(Cx.imageOf vs (gs.map (·.a))).length≤60000:=by
 subst hS
 obtain ⟨hr,hg⟩:=img_good hD hL h
 have hl:(Cx.imageOf vs (gs.map (·.a))).length≤60000:=by
  have hb:=h.body hL
  have e:(Cx.imageOf vs (gs.map (·.a))).length=(Cx.imBody vs (gs.map (·.a))).length+4:=by unfold Cx.imageOf;rw [List.length_append,Mx.sum_len]
  omega
 have hl0:=hl
 have hld:Mx.load (Cx.imageOf vs (gs.map (·.a)))=some (imgOf vs (gs.map (·.a))):=by
  rw [imageOf_enc] at hl ⊢
  exact Mx.load_enc hr hl hg
 refine ⟨_,hld,⟨load_good hld,rfl,rfl,?_,fun k hk xs leaf=>?_⟩,hl0⟩
 ·simp [imgOf,tabSum]
 ·have hk':k<(Cx.leaves (gs.map (·.a))).length:=by simpa [imgOf] using hk
  have e1:((imgOf vs (gs.map (·.a))).leaf k).2=Cx.program vs (gs.map (·.a)) (Cx.leaves (gs.map (·.a)))[k]:=by
   rw [Mx.Img.leaf_at hk];simp [imgOf]
  have e2:(tabSum vs (gs.map (·.a))).2.2.2.getD k []=(rowsAlong (gs.map (·.a)) (Cx.leaves (gs.map (·.a)))[k]).map (rowSum vs (gs.map (·.a))):=by
   simp [tabSum,List.getD_eq_getElem?_getD,hk']
  rw [e1,e2]
  refine run_sum hL h xs _ leaf ?_
  rw [List.all_eq_true] at hy
  refine hy _ ?_
  simp only [tabSum]
  exact List.mem_map.2 ⟨_,List.getElem_mem hk',rfl⟩
def TakenS (s:ByteArray) (S:List (Int×Int)×Nat×List (List UInt8)×List (List RoS)):Prop:=∃ ts,TableOf s ts∧∀ vs ms,TabD ts vs ms→tabSum vs ms=S∧Cx.find vs ms=none
theorem comp_T {s:ByteArray} {S:List (Int×Int)×Nat×List (List UInt8)×List (List RoS)} {w:World} {e:Ending} {w':World} (hT:TakenS s S) (hy:S.2.2.2.all (fun l=>l.all fun r=>r.1.isSome)=true) (h:CompR s w e w') :
  ∃ bs im,Mx.load bs=some im∧GoodS im S∧bs.length≤60000∧e=.returned (.tuple #[.string (bstr bs),.agg #[.int .i64 0,.int .i64 ((0:Nat):Int),.string ⟨#[]⟩,.slice none 0 0,.slice none 0 0]])∧Below w.heap.size w w':=by
 obtain ⟨ts,ht,hd⟩:=hT
 obtain ⟨hb,hc⟩:=h
 rcases hc with ⟨code,line,rfl,hf,hc⟩ | ⟨ts',vs,gs,ht',hd',hl,ha,hm⟩
 ·exact (fault_table hf ht).elim
 ·obtain rfl:=table_det ht' ht
  obtain ⟨h1,h2⟩:=hd _ _ hd'
  rw [h2] at hm
  obtain ⟨im,h3,h4,h5⟩:=img_sum hd' hl ha h1 hy
  exact ⟨_,im,h3,h4,h5,hm,hb⟩
end Go.Proofs.YtdjaiolfdbamcaaGreatDoor
/- The walk of machine,at a table that is taken. -/
namespace Go.Proofs.YtdjaiolfdbamcaaGreatDoor
open Go.RowKit
theorem machineT_any (s:ByteArray) (S:List (Int×Int)×Nat×List (List UInt8)×List (List RoS)) (hT:TakenS s S) (hy:S.2.2.2.all (fun l=>l.all fun r=>r.1.isSome)=true) (hs:s.size≤maxLen) (w:World) (hsg:SignsIs w) (htab:∀ W,Below w.heap.size w W→Lib.TabIs Tryz.prog W "internal/strconv.uint64pow10" .u64 Lib.pow10Tab) :
  Calls Tryz.prog 29 #[.string s] w fun e w'=>∃ M:MaP,e=.returned (.pointer (some ⟨M.mb,0,none⟩))∧GoodS M.im S∧MaM w' M ⟨M.im.first,none⟩ (.slice none 0 0)∧w.heap.size≤M.mb∧Below w.heap.size w w':=by
 have HC:=hide ((compile_any s w hs hsg htab).mono fun _ _ h=>comp_T hT hy h)
 clear hsg htab hT hy
 go_enter Tryz.func29,Tryz.ntmps29
 go_wp2_with fail
 refine HC.out.mono ?_
 rintro e w1 ⟨bs,im,hld,hgs,hbl,rfl,hb⟩
 have hX1:=heap_alloc_new w1 (.cells #[.int .i64 0,.int .i64 ((0:Nat):Int),.string ⟨#[]⟩,.slice none 0 0,.slice none 0 0] 34)
 have hbX:=hb.alloc hb.size (.cells #[.int .i64 0,.int .i64 ((0:Nat):Int),.string ⟨#[]⟩,.slice none 0 0,.slice none 0 0] 34)
 have a0:=Lib.cell_of_heap hX1 0
 have HB:=hide hbX
 have HLD:=hide (Load_any (w1.alloc (.cells #[.int .i64 0,.int .i64 ((0:Nat):Int),.string ⟨#[]⟩,.slice none 0 0,.slice none 0 0] 34)) bs (by unfold maxLen;omega))
 unfold LoadR at HLD
 rw [hld] at HLD
 have HGS:=hide hgs
 have hsz:=hb.size
 clear hb hX1 hbX HC hgs hld
 obtain ⟨sb,hsb⟩ : ∃ sb,sb=bstr bs:=⟨_,rfl⟩
 rw [← hsb] at HLD ⊢
 clear hsb
 go_wp2_with fail
 generalize w1.alloc (.cells #[.int .i64 0,.int .i64 ((0:Nat):Int),.string ⟨#[]⟩,.slice none 0 0,.slice none 0 0] 34)=X at *
 refine HLD.out.mono ?_
 rintro e w2 ⟨hb2,M,hM,rfl,hm2,hmb⟩
 have hs2:=HB.out.size
 have HB2:=hide (HB.out.trans (hb2.mono HB.out.size))
 have HMB:Hid (w.heap.size≤M.mb):=hide (Nat.le_trans hs2 hmb)
 rw [← hM] at hm2
 have HM2:=hide hm2
 have HIM:=hide hM
 clear hb2 hm2 hM hmb HLD
 go_wp2_with fail
 go_ret
 exact ⟨M,rfl,by rw [HIM.out];exact HGS.out,HM2.out,HMB.out,HB2.out⟩
end Go.Proofs.YtdjaiolfdbamcaaGreatDoor
/- Two machines beside one another;what Outer's machines do;the walk of Outer. -/
namespace Go.Proofs.YtdjaiolfdbamcaaGreatDoor
open Go.RowKit
theorem MaM.keptM {w w':World} {M:MaP} {s:Mx.Mst} {vh:Value} {b:Nat} {cur:Array Value} (h:MaM w M s vh) (hi:IntB w vh) (hk:Kp (fun k=>k=b) w w') (hb:w.heap[b]? = some (.cells cur 108 (0,0))) (hm:M.mb≠b):MaM w' M s vh∧IntB w' vh:=by
 have key:∀ {g:Nat} {c2:Array Value} {T:Nat} {fr:Nat×Nat},w.heap[g]? = some (.cells c2 T fr)→T≠108→g≠b:=fun hg hT e=>by
  rw [e,hb] at hg
  injection hg with hg;injection hg with _ hg
  exact hT hg.symm
 have ha:∀ g,vh.ownBlock=some g→¬ g=b:=fun g e=>by
  obtain ⟨c,hc⟩:=hi g e
  exact key hc (by decide)
 refine ⟨⟨(hk.block M.mb h.lt hm).trans h.box,h.im.kept hk (fun g c T fr _ hh ht=>key hh (by rcases ht with rfl | rfl | rfl <;> decide)),h.le,h.at_,?_,h.wide⟩,hi.kept hk ha⟩
 rcases h.ah with h1 | ⟨g,cap,l,e1,e2,h1,h2,h3⟩
 ·exact .inl h1
 ·exact .inr ⟨g,cap,l,e1,e2,h1,Nat.lt_of_lt_of_le h2 hk.size,fun i hi=>(hk.cell h2 (ha g (by rw [e1];rfl))).trans (h3 i hi)⟩
def outTo (c g at_:Nat) (x was:Int):Nat:=if (c:Int)<x then g else turnedP at_ x was
theorem goS_in (k:Nat) (hk:k<3) (x was:Int):goS (inRows.getD k []) k [was,x]=turnedP k x was:=by
 rcases (show k=0∨k=1∨k=2 by omega) with rfl | rfl | rfl
 ·by_cases h:x<50 <;> simp [goS,inRows,ansS,Cx.Q.answer,turnedP,h]
 ·by_cases h:was<20 <;> simp [goS,inRows,ansS,Cx.Q.answer,turnedP,h]
 ·simp [goS,inRows,ansS,turnedP]
theorem goS_out (c g k:Nat) (hk:k<3) (x was:Int):goS ((inRows.map (outRow c g :: ·)).getD k []) k [was,x]=outTo c g k x was:=by
 have e:(inRows.map (outRow c g :: ·)).getD k []=outRow c g::inRows.getD k []:=by
  rcases (show k=0∨k=1∨k=2 by omega) with rfl | rfl | rfl <;> rfl
 rw [e]
 unfold outTo
 have hin:=goS_in k hk x was
 unfold goS at hin ⊢
 rw [List.find?_cons]
 by_cases h:(c:Int)<x
 ·have:ansS [was,x] (outRow c g).1=true:=by simp [outRow,ansS,Cx.Q.answer];omega
  rw [this,if_pos h];rfl
 ·have:ansS [was,x] (outRow c g).1=false:=by simp [outRow,ansS,Cx.Q.answer];omega
  rw [this,if_neg h];exact hin
theorem turned_lt (k:Nat) (x was:Int):turnedP k x was<3:=by unfold turnedP;(repeat' split) <;> omega
theorem step_S {im:Mx.Img} {R:List (List RoS)} (h:GoodS im ([(0,99)],0,[[97],[98],[99]],R)) (at_:Nat) (hat:at_<3) (ah:Option (List Int)) (x:Nat) (hx:x<100) (was:Int) (hw:ah.getD [(x:Int)]=[was]) :
  Mx.mstep im ⟨at_,ah⟩ [(x:Int)]=some ⟨goS (R.getD at_ []) at_ [was,(x:Int)],some [(x:Int)]⟩:=by
 have hlen:im.leaves.length=3:=by have:=congrArg List.length h.names;simpa using this
 have hs:Mx.isSample im.vars [(x:Int)]=true:=by rw [h.vars];simp [Mx.isSample];omega
 unfold Mx.mstep
 rw [if_pos hs]
 simp only [hw,List.cons_append,List.nil_append]
 rw [h.goes at_ (by omega)]
theorem name_S {im:Mx.Img} {R:List (List RoS)} (h:GoodS im ([(0,99)],0,[[97],[98],[99]],R)) (k:Nat) (hk:k<3):bstr (im.leaf k).1=nameB k:=by
 have hlen:im.leaves.length=3:=by have:=congrArg List.length h.names;simpa using this
 have e:(im.leaf k).1=(im.leaves.map (·.1)).getD k []:=by
  rw [Mx.Img.leaf_at (by omega),List.getD_eq_getElem?_getD,List.getElem?_map,List.getElem?_eq_getElem (by omega)];rfl
 rw [e,h.names]
 rcases (show k=0∨k=1∨k=2 by omega) with rfl | rfl | rfl <;> rfl
theorem step_T (Y:World) (M:MaP) (R:List (List RoS)) (hg:GoodS M.im ([(0,99)],0,[[97],[98],[99]],R)) (at_:Nat) (hat:at_<3) (ah:Option (List Int)) (x:Nat) (hx:x<100) (was:Int) (hw:ah.getD [(x:Int)]=[was]) (vh:Value) (hm:MaM Y M ⟨at_,ah⟩ vh) (g0:Nat) (hlt:g0<Y.heap.size) (hc:Y.cell? ⟨g0,0,none⟩=some (.int .i64 (x:Int))) (hne:g0≠M.mb) (to_:Nat) (hto:goS (R.getD at_ []) at_ [was,(x:Int)]=to_) (h3:to_<3) :
  Calls Tryz.prog 30 #[.pointer (some ⟨M.mb,0,none⟩),.slice (some ⟨g0,0,none⟩) 1 1] Y fun e w'=>e=.returned (.tuple #[.string (nameB to_),.int .i64 0])∧Kp (fun k=>k=M.mb) Y w'∧∃ vh',MaM w' M ⟨to_,some [(x:Int)]⟩ vh'∧IntB w' vh':=by
 refine (Step_anyF Y M ⟨at_,ah⟩ vh (some ⟨g0,0,none⟩) 1 [(x:Int)] hm hg.good (fun i hi=>?_) (fun e=>by cases e) (fun _ g o e=>by cases e;exact hne)).mono ?_
 ·obtain rfl:i=0:=by simpa using hi
  exact ⟨g0,0,rfl,hlt,hc⟩
 ·intro e w' h
  have h2:=h.2
  rw [step_S hg at_ hat ah x hx was hw,hto] at h2
  obtain ⟨h3',v,h4,h5,_⟩:=h2
  rw [name_S hg to_ h3] at h3'
  exact ⟨h3',h.1,v,h4,h5⟩
structure OuI (w:World) (M P:MaP) (i at_ pl:Nat) (was:Int) (wr:World):Prop where
 below:Below w.heap.size w wr
 at3:at_<3
 pl3:pl<3
 all:∃ ah vh vp,MaM wr M ⟨at_,ah⟩ vh∧IntB wr vh∧MaM wr P ⟨pl,ah⟩ vp∧IntB wr vp∧((i=0∧ah=none)∨(0<i∧ah=some [was]))
theorem kp_bel {F:Nat→Prop} {w w':World} {c:Nat} (hk:Kp F w w') (hF:∀ k,F k→c≤k) (hc:c≤w.heap.size):Below c w w':=⟨hk.os,hk.tape,hk.output,hk.size,fun k h=>hk.block k (by omega) (fun e=>by have:=hF k e;omega)⟩
theorem heap_ltM {w:World} {b:Nat} {o:Obj} (h:w.heap[b]? = some o):b<w.heap.size:=(Array.getElem?_eq_some_iff.1 h).1
theorem app_data (a b:ByteArray):(a++b).data.toList=a.data.toList++b.data.toList:=by simp
theorem outer_walk (lim goal:Int) (sa:Option Addr) (cs:Nat) (xs:List Int) (w:World) (h1 : -9223372036854775808≤lim∧lim≤9223372036854775807) (h2 : -9223372036854775808≤goal∧goal≤9223372036854775807) (hx:SlI w sa xs) (hxr:∀ v∈xs,-9223372036854775808≤v∧v≤9223372036854775807)
  (haw:Calls Tryz.prog 28 #[] w fun e w'=>e=.returned (.bool true)∧Below w.heap.size w w')
  (hma:∀ (s:ByteArray) S,TakenS s S→S.2.2.2.all (fun l=>l.all fun r=>r.1.isSome)=true→s.size≤maxLen→∀ Y,Below w.heap.size w Y→Calls Tryz.prog 29 #[.string s] Y fun e w'=>∃ M:MaP,e=.returned (.pointer (some ⟨M.mb,0,none⟩))∧GoodS M.im S∧MaM w' M ⟨M.im.first,none⟩ (.slice none 0 0)∧Y.heap.size≤M.mb∧Below Y.heap.size Y w') :
  Calls Tryz.prog 9 #[.int .i64 lim,.int .i64 goal,.slice sa xs.length cs] w fun e w'=>e=.returned (.bool true)∧Below w.heap.size w w':=by
 have hc:=Kx.pick_lt lim 100 (by omega)
 have hg:=Kx.pick_lt goal 3 (by omega)
 have CP1:Hid (∀ Y,Calls Tryz.prog 19 #[.int .i64 lim,.int .i64 100] Y fun e w'=>e=.returned (.int .i64 (Kx.pick lim 100:Nat))∧w'=Y):=hide (fun Y=>pick_any lim 100 Y h1 (by omega) (by omega))
 have CP2:Hid (∀ Y,Calls Tryz.prog 19 #[.int .i64 goal,.int .i64 3] Y fun e w'=>e=.returned (.int .i64 (Kx.pick goal 3:Nat))∧w'=Y):=hide (fun Y=>pick_any goal 3 Y h2 (by omega) (by omega))
 have CPX:Hid (∀ v∈xs,∀ Y,Calls Tryz.prog 19 #[.int .i64 v,.int .i64 100] Y fun e w'=>e=.returned (.int .i64 (Kx.pick v 100:Nat))∧w'=Y):=hide (fun v hv Y=>pick_any v 100 Y (hxr v hv) (by omega) (by omega))
 obtain ⟨c,hce⟩ : ∃ c,c=Kx.pick lim 100:=⟨_,rfl⟩
 obtain ⟨g,hge⟩ : ∃ g,g=Kx.pick goal 3:=⟨_,rfl⟩
 rw [← hce] at hc CP1
 rw [← hge] at hg CP2
 have HM1:Hid (∀ s:ByteArray,s.data.toList=oL c g→∀ Y,Below w.heap.size w Y→Calls Tryz.prog 29 #[.string s] Y fun e w'=>∃ M:MaP,e=.returned (.pointer (some ⟨M.mb,0,none⟩))∧GoodS M.im (oSum c g)∧MaM w' M ⟨M.im.first,none⟩ (.slice none 0 0)∧Y.heap.size≤M.mb∧Below Y.heap.size Y w'):=hide (fun s hs Y hY=>by
  have e:s=⟨(oL c g).toArray⟩:=by rw [← hs]
  refine hma s _ (by rw [e];exact o_is c g hc hg) ?_ ?_ Y hY
  ·simp [oSum,inRows,outRow]
  ·rw [e]
   obtain ⟨ts,ht,_⟩:=o_is c g hc hg
   exact Nat.le_trans ht.1 (by unfold maxLen;omega))
 have HM2:Hid (∀ s:ByteArray,s.data.toList=pL→∀ Y,Below w.heap.size w Y→Calls Tryz.prog 29 #[.string s] Y fun e w'=>∃ M:MaP,e=.returned (.pointer (some ⟨M.mb,0,none⟩))∧GoodS M.im pSum∧MaM w' M ⟨M.im.first,none⟩ (.slice none 0 0)∧Y.heap.size≤M.mb∧Below Y.heap.size Y w'):=hide (fun s hs Y hY=>by
  have e:s=⟨pL.toArray⟩:=by rw [← hs]
  refine hma s _ (by rw [e];exact p_is) ?_ ?_ Y hY
  ·simp [pSum,inRows]
  ·rw [e]
   obtain ⟨ts,ht,_⟩:=p_is
   exact Nat.le_trans ht.1 (by unfold maxLen;omega))
 have HDC:Hid (∀ Y,Calls Tryz.prog 31 #[.int .i64 c] Y fun e w'=>e=.returned (.string ⟨(decB c).toArray⟩)∧Below Y.heap.size Y w'):=hide (fun Y=>decimal_sm c hc Y)
 obtain ⟨D,hDe⟩ : ∃ D:ByteArray,D=⟨(decB c).toArray⟩:=⟨_,rfl⟩
 have hDs:D.size≤2:=by
  rw [hDe]
  show (decB c).toArray.size≤2
  unfold decB
  split <;> simp
 have hGs:(nameB g).size=1:=rfl
 rw [← hDe] at HDC
 have HDE:=hide hDe
 clear hDe
 have HAW:=hide haw
 have HX:=hide hx
 clear hx haw hma hxr hce hge h1 h2
 go_enter Tryz.func9,Tryz.ntmps9
 go_wp2_with fail
 refine HAW.out.mono ?_
 rintro e w1 ⟨rfl,hb1⟩
 have HB1:=hide hb1
 have hs1:=hb1.size
 clear hb1 HAW
 go_upto_region 2 with (fail)
 go_wp2_with fail
 refine (CP1.out w1).mono ?_
 rintro e w1' ⟨rfl,rfl⟩
 clear CP1
 go_upto_region 4 with (fail)
 have yg:(w1'.alloc (.cells #[.string ⟨#[97]⟩,.string ⟨#[98]⟩,.string ⟨#[99]⟩] 9)).cell? ⟨w1'.heap.size,g,none⟩=some (.string (nameB g)):=by
  have:=Lib.cell_of_heap (heap_alloc_new w1' (.cells #[.string ⟨#[97]⟩,.string ⟨#[98]⟩,.string ⟨#[99]⟩] 9)) g
  rw [this]
  rcases (show g=0∨g=1∨g=2 by omega) with rfl | rfl | rfl <;> rfl
 have hgi:(g:Int)<3:=by omega
 have hg0:(0:Int)≤g:=by omega
 go_upto_region 5 with (refine (CP2.out _).mono ?_;rintro e _ ⟨rfl,rfl⟩)
 have hb2:=below_a w1' (.cells #[.string ⟨#[97]⟩,.string ⟨#[98]⟩,.string ⟨#[99]⟩] 9)
 generalize w1'.alloc (.cells #[.string ⟨#[97]⟩,.string ⟨#[98]⟩,.string ⟨#[99]⟩] 9)=w2 at *
 have HB2:Hid (Below w.heap.size w w2):=hide (HB1.out.trans (hb2.mono hs1))
 clear yg hb2 CP2
 go_wp2_with fail
 refine (HDC.out w2).mono ?_
 rintro e w3 ⟨rfl,hb3⟩
 have hs2:=HB2.out.size
 have HB3:Hid (Below w.heap.size w w3):=hide (HB2.out.trans (hb3.mono hs2))
 clear hb3 HDC
 go_wp2_with fail
 refine (HM1.out _ ?_ w3 HB3.out).mono ?_
 ·rw [app_data,app_data,app_data,app_data,app_data,HDE.out];rfl
 rintro e w4 ⟨M,rfl,hgM,hmM,hmb,hb4⟩
 have HGM:=hide hgM
 have HMM:=hide hmM
 have hs3:=HB3.out.size
 have HB4:Hid (Below w.heap.size w w4):=hide (HB3.out.trans (hb4.mono hs3))
 have hs4:=HB4.out.size
 have hmlt:=hmM.lt
 clear hgM hmM hb4 HM1
 go_upto_region 6 with (fail)
 go_wp2_with fail
 refine (HM2.out _ ?_ w4 HB4.out).mono ?_
 ·rw [app_data];rfl
 rintro e w5 ⟨P,rfl,hgP,hmP,hpb,hb5⟩
 have HGP:=hide hgP
 have HB5:Hid (Below w.heap.size w w5):=hide (HB4.out.trans (hb5.mono hs4))
 have HOU:Hid (OuI w M P 0 0 0 0 w5):=hide ⟨HB5.out,by omega,by omega,none,.slice none 0 0,.slice none 0 0,by
  have h:=HMM.out.kept hb5
  rw [HGM.out.first] at h
  exact h,(fun g e=>by cases e),by
  have h:=hmP
  rw [hgP.first] at h
  exact h,(fun g e=>by cases e),.inl ⟨rfl,rfl⟩⟩
 have HNE:Hid (M.mb≠P.mb):=hide (by omega)
 clear hgP hmP hb5 HM2 HMM
 go_upto_region 12 with (fail)
 have hMw:w.heap.size≤M.mb:=by omega
 have hPw:w.heap.size≤P.mb:=by omega
 clear hmb hpb hmlt hs2 hs3 hs4 hs1 HB1 HB2 HB3 HB4 HB5 HDE
 go_wp2_with fail
 go_loopg [13,14,15,16,17,18,19,20,21] xs.length (fun m v13 v14 v15 v16 v17 v18 v19 v20 v21 wr=>∃ (i at_ pl:Nat) (was:Int),i+m=xs.length∧v13=.string (nameB at_)∧v14=.string (nameB pl)∧v15=.int .i64 was∧v16=.int .i64 i∧OuI w M P i at_ pl was wr)
 case atStart=>exact ⟨0,0,0,0,by omega,rfl,rfl,rfl,rfl,HOU.out⟩
 case round =>
  obtain ⟨i,at_,pl,was,him,rfl,rfl,rfl,rfl,hou⟩:=hrel
  by_cases hl1:i<xs.length
  ·have hii:(i:Int)<xs.length:=by omega
   have hi0:(0:Int)≤i:=by omega
   by_cases hl2:i<50
   ·have hi50:(i:Int)<50:=by omega
    obtain ⟨gx,ox,ex,hgx,hcx⟩:=HX.out i hl1
    obtain ⟨hbl,ha3,hp3,ah,vh,vp,hmM,hiM,hmP,hiP,hah⟩:=hou
    have y0:wr.cell? ⟨gx,ox+i,none⟩=some (.int .i64 xs[i]):=(hbl.cell (p:=⟨gx,ox+i,none⟩) hgx).trans hcx
    have CPV:=hide (CPX.out xs[i] (List.getElem_mem hl1))
    have hx100:=Kx.pick_lt xs[i] 100 (by omega)
    obtain ⟨v,hv⟩ : ∃ v,v=xs[i]:=⟨_,rfl⟩
    rw [← hv] at y0 CPV hx100
    obtain ⟨x,hxe⟩ : ∃ x,x=Kx.pick v 100:=⟨_,rfl⟩
    rw [← hxe] at CPV hx100
    subst ex
    obtain ⟨ws,hws⟩ : ∃ ws,ws=if i=0 then (x:Int) else was:=⟨_,rfl⟩
    have hw:ah.getD [(x:Int)]=[ws]:=by
     rw [hws]
     rcases hah with ⟨e1,e2⟩ | ⟨e1,e2⟩
     ·rw [e2,if_pos e1];rfl
     ·rw [e2,if_neg (by omega)];rfl
    obtain ⟨to_,hto⟩ : ∃ to_,to_=outTo c g at_ x ws:=⟨_,rfl⟩
    have hto3:to_<3:=by rw [hto];unfold outTo;split;exact hg;exact turned_lt _ _ _
    obtain ⟨tp,htp⟩ : ∃ tp,tp=turnedP pl x ws:=⟨_,rfl⟩
    have htp3:tp<3:=by rw [htp];exact turned_lt _ _ _
    have hMl:=hmM.lt
    have hPl:=hmP.lt
    have HS1:Hid (∀ Y,Below wr.heap.size wr Y→Y.cell? ⟨wr.heap.size,0,none⟩=some (.int .i64 (x:Int))→wr.heap.size<Y.heap.size→Calls Tryz.prog 30 #[.pointer (some ⟨M.mb,0,none⟩),.slice (some ⟨wr.heap.size,0,none⟩) 1 1] Y fun e w'=>e=.returned (.tuple #[.string (nameB to_),.int .i64 0])∧Kp (fun k=>k=M.mb) Y w'∧∃ vh',MaM w' M ⟨to_,some [(x:Int)]⟩ vh'∧IntB w' vh'):=hide (fun Y hY hc hlY=>step_T Y M _ HGM.out at_ ha3 ah x hx100 ws hw vh (hmM.kept hY) wr.heap.size hlY hc (by omega) to_ (by rw [hto];exact goS_out c g at_ ha3 x ws) hto3)
    have HS2:Hid (∀ Y g0,MaM Y P ⟨pl,ah⟩ vp→P.mb<g0→Y.cell? ⟨g0,0,none⟩=some (.int .i64 (x:Int))→g0<Y.heap.size→Calls Tryz.prog 30 #[.pointer (some ⟨P.mb,0,none⟩),.slice (some ⟨g0,0,none⟩) 1 1] Y fun e w'=>e=.returned (.tuple #[.string (nameB tp),.int .i64 0])∧Kp (fun k=>k=P.mb) Y w'∧∃ vh',MaM w' P ⟨tp,some [(x:Int)]⟩ vh'∧IntB w' vh'):=hide (fun Y g0 hY hP0 hc hlY=>step_T Y P _ HGP.out pl hp3 ah x hx100 ws hw vp hY g0 hlY hc (by omega) tp (by rw [htp];exact goS_in pl hp3 x ws) htp3)
    have CT1:=hide (fun Y=>turned_any at_ ha3 (x:Int) ws Y)
    have CT2:=hide (fun Y=>turned_any pl hp3 (x:Int) ws Y)
    rw [← htp] at CT2
    have HBL:=hide hbl
    have HMM:=hide hmM
    have HIM:=hide hiM
    have HMP:=hide hmP
    have HIP:=hide hiP
    have hxi:(0:Int)≤x:=by omega
    clear hbl hmM hiM hmP hiP hah hcx hxe hv hw htp
    by_cases hz:i=0
    case' pos =>
     rw [if_pos hz] at hws
     have hzi:((i:Int) == 0)=true:=by simp [hz]
    case' neg =>
     rw [if_neg hz] at hws
     have hzi:((i:Int) == 0)=false:=by simp [hz]
    all_goals
     subst hws
     clear hz
     by_cases hcx:(c:Int)<x
     case' pos=>obtain rfl:to_=g:=by rw [hto];unfold outTo;rw [if_pos hcx]
     case' neg=>obtain rfl:to_=turnedP at_ x _:=by rw [hto];unfold outTo;rw [if_neg hcx]
     all_goals
      clear hto
      go_upto_region 18 with (refine (CPV.out _).mono ?_;rintro e w' ⟨rfl,hw'⟩;rw [hw'];clear hw' w')
      go_wp2_with fail
      refine (CT1.out wr).mono ?_
      rintro e w' ⟨rfl,hw'⟩
      rw [hw']
      clear hw' w' CPV CT1 y0
      go_upto_region 21 with (fail)
      go_wp2_with fail
      refine (CT2.out wr).mono ?_
      rintro e w' ⟨rfl,hw'⟩
      rw [hw']
      clear hw' w' CT2
      go_upto_region 23 with (fail)
      have hbA:=below_a wr (.cells #[.int .i64 (x:Int)] 3)
      have hzA:=heap_alloc_new wr (.cells #[.int .i64 (x:Int)] 3)
      have HSA:=hide (HS1.out _ hbA (Lib.cell_of_heap hzA 0) (heap_ltM hzA))
      have HMA:=hide (HMM.out.kept hbA)
      have HPA:=hide (HMP.out.kept hbA)
      have HIA:=hide (HIP.out.kept (Kp.ofBelow (F:=fun _=>False) hbA) (fun _ _ h=>h))
      have HBA:=hide hbA
      have hsA:=hbA.size
      clear hbA hzA HS1
      go_wp2_with fail
      generalize wr.alloc (.cells #[.int .i64 (x:Int)] 3)=Y1 at *
      refine HSA.out.mono ?_
      rintro e W1 ⟨rfl,hk1,vh1,hm1,hi1⟩
      obtain ⟨hpm,hpi⟩:=HPA.out.keptM HIA.out hk1 HMA.out.box (fun e=>HNE.out e.symm)
      have hs1:=hk1.size
      have hbB:=below_a W1 (.cells #[.int .i64 (x:Int)] 3)
      have hzB:=heap_alloc_new W1 (.cells #[.int .i64 (x:Int)] 3)
      have HSB:=hide (HS2.out _ W1.heap.size (hpm.kept hbB) (by omega) (Lib.cell_of_heap hzB 0) (heap_ltM hzB))
      have HPB:=hide (hpm.kept hbB)
      have HMB:=hide (hm1.kept hbB)
      have HIB:=hide (hi1.kept (Kp.ofBelow (F:=fun _=>False) hbB) (fun _ _ h=>h))
      have HBB:=hide hbB
      have HK1:=hide hk1
      have hsB:=hbB.size
      clear hbB hzB hpm hpi hm1 hi1 hk1 HSA HS2
      go_upto_region 24 with (fail)
      go_wp2_with fail
      generalize W1.alloc (.cells #[.int .i64 (x:Int)] 3)=Y2 at *
      refine HSB.out.mono ?_
      rintro e W2 ⟨rfl,hk2,vp2,hm2,hi2⟩
      obtain ⟨hmm,hmi⟩:=HMB.out.keptM HIB.out hk2 HPB.out.box HNE.out
      have HFIN:Hid (OuI w M P (i+1) _ tp (x:Int) W2):=hide ⟨HBL.out.trans ((HBA.out.mono HBL.out.size).trans ((kp_bel HK1.out (fun k e=>by omega) (by have:=HBL.out.size;omega)).trans ((HBB.out.mono (by have:=HBL.out.size;omega)).trans (kp_bel hk2 (fun k e=>by omega) (by have:=HBL.out.size;omega))))),hto3,htp3,some [(x:Int)],vh1,vp2,hmm,hmi,hm2,hi2,.inr ⟨by omega,rfl⟩⟩
      clear hk2 hm2 hi2 hmm hmi HSB
      go_wp2_with fail
      go_roundg (xs.length-(i+1))
      case measure=>omega
      case rel=>exact ⟨i+1,_,tp,(x:Int),by omega,rfl,rfl,rfl,by go_num,HFIN.out⟩
   ·have hi50:¬ (i:Int)<50:=by omega
    have HB:=hide hou.below
    clear hou
    go_wp2_with fail
    go_ret
    exact ⟨rfl,HB.out⟩
  ·have hii:¬ (i:Int)<xs.length:=by omega
   have HB:=hide hou.below
   clear hou
   go_wp2_with fail
   go_ret
   exact ⟨rfl,HB.out⟩
end Go.Proofs.YtdjaiolfdbamcaaGreatDoor
