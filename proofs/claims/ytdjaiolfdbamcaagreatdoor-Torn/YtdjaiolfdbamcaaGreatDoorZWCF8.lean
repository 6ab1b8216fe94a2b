/- Empty rows in memory, and rows made of them; the cells of a fault. -/
import Derived.Test.YtdjaiolfdbamcaaGreatDoorZWCF1
import Derived.Test.YtdjaiolfdbamcaaGreatDoorZWJoin
import Derived.Test.YtdjaiolfdbamcaaGreatDoorZWCE5
import Derived.Deep.RegionLaw
set_option maxRecDepth 20000
set_option maxHeartbeats 4000000
namespace Go.Proofs.YtdjaiolfdbamcaaGreatDoor
section
open Go.RowKit
def Emp (Y:World) (b:Nat):Prop:=Y.heap[b]? = some (.cells #[] 3 (0,0))
theorem Emp.new {X:World} {b:Nat} (h:b=X.heap.size):Emp (X.alloc (.cells #[] 3)) b:=by subst h;exact heap_alloc_new X _
theorem Emp.old {X:World} {b:Nat} {o:Obj} (h:Emp X b):Emp (X.alloc o) b:=by
 have hl:b<X.heap.size:=(Array.getElem?_eq_some_iff.1 h).1;exact ((below_a X o).block b hl).trans h
theorem Emp.drew {X:World} {b:Nat} (h:Emp X b):Emp X.drew b:=h
theorem Emp.bel {X Y:World} {b:Nat} (k:Below X.heap.size X Y) (h:Emp X b):Emp Y b:=(k.block b (Array.getElem?_eq_some_iff.1 h).1).trans h
theorem Emp.lt {X:World} {b:Nat} (h:Emp X b):b<X.heap.size:=(Array.getElem?_eq_some_iff.1 h).1
theorem Emp.grown {X Y:World} {b c:Nat} (k:X.grownBy Y (some c)) (hn:b≠c) (h:Emp X b):Emp Y b:=(k.block b h.lt (by simpa using hn)).trans h
theorem Emp.own {X:World} {b B:Nat} (h:Emp X b) (hb:B<=b):X.ownsRow B 3 1 (.slice (some ⟨b,0,none⟩) 0 0) 0 []:=⟨rfl,.inr ⟨b,0,#[],rfl,hb,h,Nat.le_refl _,by unfold maxLen;omega,rfl,rfl⟩⟩
theorem Tryz.infoIntT:(Tryz.prog.info? 3).map (fun i=>(i.zero,i.size,i.bytes))=some (some (.int .i64 0),1,8):=by kernel_rfl
theorem below_grown {w Y Z:World} {b:Nat} (h:Below w.heap.size w Y) (k:Y.grownBy Z (some b)) (hb:w.heap.size<=b):Below w.heap.size w Z :=
 ⟨k.os.trans h.os,k.tape.trans h.tape,k.output.trans h.output,Nat.le_trans h.size k.size,fun i hi=>(k.block i (Nat.lt_of_lt_of_le hi h.size) (by simp;omega)).trans (h.block i hi)⟩
theorem belA {w X:World} (h:Below w.heap.size w X) (o:Obj):Below w.heap.size w (X.alloc o):=h.alloc h.size o
theorem ints_at {w Y:World} {g o:Nat} {l:List Int} (h:∀ i (hi:i<l.length),w.cell? ⟨g,o+i,none⟩=some (.int .i64 l[i])) (hg:g<w.heap.size) (hb:Below w.heap.size w Y):∀ j u,(l.map (Value.int .i64))[j]? = some u->Y.cell? ((⟨g,o,none⟩ : Addr).add j)=some u:=by
 intro j u hu;rw [List.getElem?_map] at hu
 cases hl:l[j]? with
 | none=>rw [hl] at hu;cases hu
 | some x =>
  rw [hl] at hu;simp only [Option.map_some,Option.some.injEq] at hu;obtain ⟨hj,rfl⟩:=List.getElem?_eq_some_iff.1 hl;rw [<- hu];have:=(hb.cell (p:=⟨g,o+j,none⟩) hg).trans (h j hj)
  by_cases h0:j=0
  ·subst h0;simpa [Addr.add] using this
  ·simpa [Addr.add,h0] using this
theorem ints_one (l:List Int):∀ u∈l.map (Value.int .i64),u.oneCell'=true:=by
 intro u hu;obtain ⟨x,_,rfl⟩:=List.mem_map.1 hu;rfl
theorem two_made {B:Nat} {Y1 w3 Y2 w4:World} {b c n:Nat} {v3 v4:Value} {xs:List Value} (h1:w3.ownsRow B 3 1 v3 n xs) (a1:v3.ownBlock=some b\/v3.ownBlock=some Y1.heap.size) (hbc:b≠c) (k2:Below w3.heap.size w3 Y2) (hc:c<Y1.heap.size\/w3.heap.size<=c)
  (g2:Y2.grownBy w4 (some c)) (a2:v4.ownBlock=some c\/v4.ownBlock=some Y2.heap.size):w4.ownsRow B 3 1 v3 n xs/\(∀ k,v3.ownBlock=some k->v4.ownBlock≠some k):=by
 have hk:∀ k,v3.ownBlock=some k->k<w3.heap.size/\k≠c:=by
  intro k e;have hl:=(h1.lt k e).2;refine ⟨hl,?_⟩;rcases a1 with e1 | e1
  ·rw [e] at e1;simp at e1;omega
  ·rw [e] at e1;simp at e1;omega
 have hkp:Kp (fun k=>k=c) Y2 w4:=⟨g2.os,g2.tape,g2.output,g2.size,fun k hk hn=>g2.block k hk (by simpa using hn)⟩;refine ⟨hkp.own (own_below h1 k2) (fun k e=>(hk k e).2),fun k e e2=>?_⟩;have:=hk k e;have:=k2.size;rcases a2 with e3 | e3
 ·rw [e2] at e3;simp at e3;omega
 ·rw [e2] at e3;simp at e3;omega
def f5 (w:World) (g:Nat) (c0 c1 c2 c3 c4:Value):World:=((((w.setCell ⟨g,0,none⟩ c0).setCell ⟨g,1,none⟩ c1).setCell ⟨g,2,none⟩ c2).setCell ⟨g,3,none⟩ c3).setCell ⟨g,4,none⟩ c4
theorem f5_heap {w:World} {g:Nat} {x0 x1 x2 x3 x4 a b c d e:Value} {T:TypeId} (h:w.heap[g]? = some (.cells #[x0,x1,x2,x3,x4] T (0,0))):(f5 w g a b c d e).heap[g]? = some (.cells #[a,b,c,d,e] T (0,0)) :=
 set_heap (o:=4) (set_heap (o:=3) (set_heap (o:=2) (set_heap (o:=1) (set_heap (o:=0) h))))
theorem f5_kp (w:World) (g:Nat) (c0 c1 c2 c3 c4:Value):Kp (fun k=>k=g) w (f5 w g c0 c1 c2 c3 c4) :=
 (((((Kp.refl (fun k=>k=g) w).setCell (p:=⟨g,0,none⟩) (.inl rfl) c0).setCell (p:=⟨g,1,none⟩) (.inl rfl) c1).setCell (p:=⟨g,2,none⟩) (.inl rfl) c2).setCell (p:=⟨g,3,none⟩) (.inl rfl) c3).setCell (p:=⟨g,4,none⟩) (.inl rfl) c4
end
section
open Go.RowKit
attribute [local go_sem ↓] Go.wp_at_zero Go.wp_at_succ
theorem tell_any (w:World) (code:Int) (s:ByteArray) (g cap h n:Nat) (l m:List Int) (hs:s.size<=281474976710656) (hg:g<w.heap.size) (hn:n=2*h) (hl:l.length=h) (hm:m.length=h) (hh:h<=1000) (hcap:n<=cap)
  (hc:∀ i (hi:i<l.length),w.cell? ⟨g,0+i,none⟩=some (.int .i64 l[i])) (hd:∀ i (hi:i<m.length),w.cell? ⟨g,h+i,none⟩=some (.int .i64 m[i])) :
  Calls Tryz.prog 118 #[.int .i64 code,.string s,.slice (some ⟨g,0,none⟩) n cap] w fun e w'=>∃ v u,e=.returned (.agg #[.int .i64 code,.int .i64 0,.string s,v,u])/\w'.ownsRow w.heap.size 3 1 v h (l.map (.int .i64))/\w'.ownsRow w.heap.size 3 1 u h (m.map (.int .i64))/\(∀ k,v.ownBlock=some k->u.ownBlock≠some k)/\Below w.heap.size w w':=by
 have e1:Int.tdiv (n:Int) 2=h:=by rw [Int.tdiv_eq_ediv_of_nonneg (by omega)];omega
 have hhn:(h:Int)<=n:=by omega
 have hhc:(h:Int)<=cap:=by omega
 have hnc:(n:Int)<=cap:=by omega
 have hnh:n-h=h:=by omega
 have hll:(l.map (Value.int .i64)).length=h*1:=by simp [hl]
 have hlm:(m.map (Value.int .i64)).length=(n-h)*1:=by simp [hm,hnh]
 have HNH:=hide hnh;have hsl:(if cap=h then some (⟨g,0,none⟩ : Addr) else some ⟨g,h,none⟩)=some ⟨g,h,none⟩:=by
  by_cases e:cap=h
  ·have:h=0:=by omega
   subst this;simp
  ·rw [if_neg e]
 obtain ⟨i0,hi0,hz0,hz1,hz2⟩:=info_parts Tryz.infoIntT;have hX0:Below w.heap.size w (w.alloc (.cells #[.int .i64 0,.int .i64 0,.string ⟨#[]⟩,.slice none 0 0,.slice none 0 0] 34)):=below_a _ _;have hXB:=heap_alloc_new w (.cells #[.int .i64 0,.int .i64 0,.string ⟨#[]⟩,.slice none 0 0,.slice none 0 0] 34);have hXs:(w.alloc (.cells #[.int .i64 0,.int .i64 0,.string ⟨#[]⟩,.slice none 0 0,.slice none 0 0] 34)).heap.size=w.heap.size+1:=by simp
 obtain ⟨X,hX⟩ : ∃ X,X=w.alloc (.cells #[.int .i64 0,.int .i64 0,.string ⟨#[]⟩,.slice none 0 0,.slice none 0 0] 34):=⟨_,rfl⟩;rw [<- hX] at hX0 hXB hXs;have hgX:g<X.heap.size:=by omega
 have hbX:w.heap.size<X.heap.size:=by omega
 have HC:Hid (∀ i (hi:i<l.length),X.cell? ⟨g,0+i,none⟩=some (.int .i64 l[i])):=hide (fun i hi=>(hX0.cell (p:=⟨g,0+i,none⟩) hg).trans (hc i hi));have HD:Hid (∀ i (hi:i<m.length),X.cell? ⟨g,h+i,none⟩=some (.int .i64 m[i])):=hide (fun i hi=>(hX0.cell (p:=⟨g,h+i,none⟩) hg).trans (hd i hi));have HX:=hide hX0;have HXB:=hide hXB;have CK:Hid (∀ Y,Calls Tryz.prog 54 #[.string s] Y fun e w'=>e=.returned (.string s)/\Below Y.heap.size Y w'):=hide (fun Y=>Clone_any Y s hs);have hml:0+h<=maxLen:=by unfold maxLen;omega
 have hmb:(0+h)*8<=140737488355328:=by omega
 have hml2:0+(n-h)<=maxLen:=by unfold maxLen;omega
 have hmb2:(0+(n-h))*8<=140737488355328:=by omega
 clear hXB hX0 hc hd hn hl hm hnh;go_enter Tryz.func118,Tryz.ntmps118;go_upto_region 2 with (fail);rw [<- hX];clear hX
 go_region_law (first
  | (refine step_append_own_at rfl _ _ 32 rfl X.heap.size 3 i0 _ 1 8 Tryz.underlying32 hi0 hz0 hz1 hz2 rfl (by decide) (.slice (some ⟨_,0,none⟩) 0 0) 0 [] rfl (Emp.own (by repeat (first | (with_reducible refine Emp.new ?_;with_reducible rfl) | (with_reducible refine Emp.new ?_;omega) | (with_reducible refine Emp.new ?_;simp;done) | (with_reducible refine Emp.new ?_;simp;omega) | (with_reducible refine Emp.old ?_) | (with_reducible refine Emp.bel hb1 ?_) | (with_reducible refine Emp.drew ?_))) (by (try dsimp only);omega)) ⟨g,0,none⟩ h _ (l.map (.int .i64)) rfl hll (ints_at HC.out hgX (by first | with_reducible exact hw1 | with_reducible exact belA hw1 _ | with_reducible exact belA (belA hw1 _) _)) (ints_one l) hml hmb (by first | with_reducible exact hw1.size | with_reducible exact (belA hw1 _).size | with_reducible exact (belA (belA hw1 _) _).size) ?_;intro v3 w3 hown1 hgrow1 hat1;have hw3:Below X.heap.size X w3:=below_grown (by first | with_reducible exact hw1 | with_reducible exact belA hw1 _ | with_reducible exact belA (belA hw1 _) _) hgrow1 (by (try dsimp only);omega);obtain ⟨a3,c3,rfl,_,_⟩:=row_shape hown1;have hs3:=hgrow1.size;(try simp at hs3))
  | (refine step_append_own_at rfl _ _ 32 rfl X.heap.size 3 i0 _ 1 8 Tryz.underlying32 hi0 hz0 hz1 hz2 rfl (by decide) (.slice (some ⟨_,0,none⟩) 0 0) 0 [] rfl (Emp.own (by repeat (first | (with_reducible refine Emp.new ?_;with_reducible rfl) | (with_reducible refine Emp.new ?_;omega) | (with_reducible refine Emp.new ?_;simp;done) | (with_reducible refine Emp.new ?_;simp;omega) | (with_reducible refine Emp.old ?_) | (with_reducible refine Emp.grown hgrow1 (by (try dsimp only);omega) ?_) | (with_reducible refine Emp.bel hb1 ?_) | (with_reducible refine Emp.drew ?_))) (by (try dsimp only);omega)) ⟨g,h,none⟩ (n-h) _ (m.map (.int .i64)) rfl hlm (ints_at HD.out hgX (by first | with_reducible exact hw3 | with_reducible exact belA hw3 _)) (ints_one m) hml2 hmb2 (by first | with_reducible exact hw3.size | with_reducible exact (belA hw3 _).size) ?_;intro v4 w4 hown2 hgrow2 hat2;have hw4:Below X.heap.size X w4:=below_grown (by first | with_reducible exact hw3 | with_reducible exact belA hw3 _) hgrow2 (by (try dsimp only);omega);obtain ⟨hown3,hap⟩:=two_made hown1 hat1 (by (try dsimp only);omega) (by first | with_reducible exact Below.refl _ _ | with_reducible exact below_a _ _) (by first | with_reducible exact .inr (Nat.le_refl _) | (left;dsimp only;omega) | (left;omega) | (left;simp;done) | (left;simp;omega)) hgrow2 hat2;obtain ⟨a4,c4,rfl,_,_⟩:=row_shape hown2;have hx4:=(hw4.block w.heap.size hbX).trans HXB.out;have y0:w4.cell? ⟨w.heap.size,0,none⟩=some (.int .i64 0):=Lib.cell_of_heap hx4 0;have y1:w4.cell? ⟨w.heap.size,1,none⟩=some (.int .i64 0):=Lib.cell_of_heap hx4 1;have y2:w4.cell? ⟨w.heap.size,2,none⟩=some (.string ⟨#[]⟩):=Lib.cell_of_heap hx4 2;have y3:w4.cell? ⟨w.heap.size,3,none⟩=some (.slice none 0 0):=Lib.cell_of_heap hx4 3;have y4:w4.cell? ⟨w.heap.size,4,none⟩=some (.slice none 0 0):=Lib.cell_of_heap hx4 4;have q0:w4.frozen? ⟨w.heap.size,0,none⟩=false:=Lib.frozen_of_heap hx4 0;have q1:w4.frozen? ⟨w.heap.size,1,none⟩=false:=Lib.frozen_of_heap hx4 1;have q2:w4.frozen? ⟨w.heap.size,2,none⟩=false:=Lib.frozen_of_heap hx4 2;have q3:w4.frozen? ⟨w.heap.size,3,none⟩=false:=Lib.frozen_of_heap hx4 3;have q4:w4.frozen? ⟨w.heap.size,4,none⟩=false:=Lib.frozen_of_heap hx4 4)
  | (go_simp;go_at_call 54;refine (CK.out _).mono ?_;rintro e w1 ⟨rfl,hb1⟩;have hw1:Below X.heap.size X w1:=Below.trans (by first | with_reducible exact (Below.refl _ _).drew | with_reducible exact (belA (Below.refl _ _) _).drew | with_reducible exact (belA (belA (Below.refl _ _) _) _).drew) (hb1.mono (by simp;try omega));have hs1:=hb1.size;(try simp at hs1)))
 all_goals
  have HB4:Hid (Below w.heap.size w (f5 w4 w.heap.size (.int .i64 code) (.int .i64 0) (.string s) (.slice a3 h c3) (.slice a4 (n-h) c4))):=hide ((HX.out.trans (hw4.mono (by omega))).trans ((f5_kp _ _ _ _ _ _ _).toBelow (fun k e=>by omega) (by have:=hw4.size;omega)));have HO1:Hid ((f5 w4 w.heap.size (.int .i64 code) (.int .i64 0) (.string s) (.slice a3 h c3) (.slice a4 (n-h) c4)).ownsRow w.heap.size 3 1 (.slice a3 h c3) h (l.map (.int .i64))):=hide ((f5_kp _ _ _ _ _ _ _).own (own_mono (by simpa using hown3) (by omega)) (fun k hk e=>by have:=(hown3.lt k (by simpa using hk)).1;omega))
  have HO2:Hid ((f5 w4 w.heap.size (.int .i64 code) (.int .i64 0) (.string s) (.slice a3 h c3) (.slice a4 (n-h) c4)).ownsRow w.heap.size 3 1 (.slice a4 (n-h) c4) h (m.map (.int .i64))):=hide (by
   have:=(f5_kp w4 w.heap.size (.int .i64 code) (.int .i64 0) (.string s) (.slice a3 h c3) (.slice a4 (n-h) c4)).own (own_mono (b':=w.heap.size) (by simpa using hown2) (by omega)) (fun k hk e=>by have:=(hown2.lt k (by simpa using hk)).1;omega);rw [HNH.out] at this |-
   exact this)
  have HAP:=hide hap;have HY:=hide (f5_heap (a:=.int .i64 code) (b:=.int .i64 0) (c:=.string s) (d:=.slice a3 h c3) (e:=.slice a4 (n-h) c4) hx4);clear hown1 hown2 hown3 hgrow1 hgrow2 hat1 hat2 hap hx4 hw1 hw3 hw4 hb1 hs1 hs3;go_wp2_with fail;show bodyPost _ _ _ _ _ (f5 w4 w.heap.size (.int .i64 code) (.int .i64 0) (.string s) (.slice a3 h c3) (.slice a4 (n-h) c4));generalize f5 w4 w.heap.size (.int .i64 code) (.int .i64 0) (.string s) (.slice a3 h c3) (.slice a4 (n-h) c4)=Y at *;clear y0 y1 y2 y3 y4 q0 q1 q2 q3 q4;have y0:Y.cell? ⟨w.heap.size,0,none⟩=some (.int .i64 code):=Lib.cell_of_heap HY.out 0;have y1:Y.cell? ⟨w.heap.size,1,none⟩=some (.int .i64 0):=Lib.cell_of_heap HY.out 1;have y2:Y.cell? ⟨w.heap.size,2,none⟩=some (.string s):=Lib.cell_of_heap HY.out 2;have y3:Y.cell? ⟨w.heap.size,3,none⟩=some (.slice a3 h c3):=Lib.cell_of_heap HY.out 3;have y4:Y.cell? ⟨w.heap.size,4,none⟩=some (.slice a4 (n-h) c4):=Lib.cell_of_heap HY.out 4;refine bodyPost_ret (v:=.agg #[.int .i64 code,.int .i64 0,.string s,.slice a3 h c3,.slice a4 (n-h) c4]) (by simp [results,Tryz.results118,go_sem,y0,y1,y2,y3,y4]) rfl ?_;exact ⟨_,_,rfl,HO1.out,HO2.out,by simpa using HAP.out,HB4.out⟩
end
end Go.Proofs.YtdjaiolfdbamcaaGreatDoor
