/- Bytes, as values. -/
import Derived.Test.YtdjaiolfdbamcaaGreatDoorZBase
import Derived.Test.YtdjaiolfdbamcaaGreatDoorZWJoin
import Derived.Test.YtdjaiolfdbamcaaGreatDoorZPTab
import Derived.Test.YtdjaiolfdbamcaaGreatDoorZChk
import Derived.Deep.CutRange
import Derived.Deep.DrawnRows
import Derived.Deep.RegionHeld3
import Derived.Test.YtdjaiolfdbamcaaGreatDoorProg
set_option maxRecDepth 20000
set_option maxHeartbeats 4000000
namespace Go.Proofs.YtdjaiolfdbamcaaGreatDoor
section
namespace Cx
def bV (b:UInt8):Value:=.int .u8 (b.toNat:Int)
def byteAt (x:Int) (d:Int):UInt8:=UInt8.ofNat (x/d % 256).toNat
theorem bV_byteAt (x d:Int):bV (byteAt x d)=.int .u8 (x/d % 256):=by
 unfold bV byteAt;have h1:0<=x/d % 256:=Int.emod_nonneg _ (by decide);have h2:x/d % 256<256:=Int.emod_lt_of_pos _ (by decide);rw [UInt8.toNat_ofNat',Nat.mod_eq_of_lt (by omega)];congr 1;omega
theorem bV_ofNat (n:Nat):bV (UInt8.ofNat n)=.int .u8 ((n:Int) % 256):=by
 unfold bV;rw [UInt8.toNat_ofNat'];congr 1
def two (n:Int):List UInt8:=[byteAt n 1,byteAt n 256]
theorem bV_two (n:Int):(two n).map bV=[.int .u8 (n % 256),.int .u8 (n/256 % 256)]:=by simp [two,bV_byteAt]
theorem bV_ones (l:List UInt8):∀ u∈l.map bV,u.oneCell'=true:=by
 intro u hu;obtain ⟨b,_,rfl⟩:=List.mem_map.1 hu;rfl
end Cx
end
section
open Go.RowKit
structure Gr (base:Nat) (w w':World) (e size:Nat) (v v':Value) (n:Nat) (xs:List Value):Prop where
 own:w'.ownsRow base e size v' n xs
 kept:Kp (fun k=>v.ownBlock=some k) w w'
 spot:v'.ownBlock=v.ownBlock\/∃ k,v'.ownBlock=some k/\w.heap.size<=k
theorem Gr.trans {base e size n m:Nat} {w w1 w2:World} {v v1 v2:Value} {xs ys:List Value} (h:Gr base w w1 e size v v1 n xs) (k:Gr base w1 w2 e size v1 v2 m ys):Gr base w w2 e size v v2 m ys:=by
 refine ⟨k.own,h.kept.trans k.kept (fun b hb=>?_),?_⟩
 ·rcases h.spot with e | ⟨c,e,hc⟩
  ·exact .inl (by rw [<- e];exact hb)
  ·rw [e] at hb;cases hb;exact .inr hc
 ·rcases k.spot with e2 | ⟨c,e2,hc⟩
  ·rw [e2];exact h.spot
  ·exact .inr ⟨c,e2,Nat.le_trans h.kept.size hc⟩
theorem Gr.after {base e size n:Nat} {w w1 w2:World} {v v2:Value} {ys:List Value} (h:Below w.heap.size w w1) (k:Gr base w1 w2 e size v v2 n ys):Gr base w w2 e size v v2 n ys :=
 ⟨k.own,(Kp.ofBelow h).trans k.kept (fun _ e=>.inl e),k.spot.imp id (fun ⟨c,e,hc⟩=>⟨c,e,Nat.le_trans h.size hc⟩)⟩
theorem Gr.below {base e size n:Nat} {w w1 w2:World} {v v1:Value} {ys:List Value} (h:Gr base w w1 e size v v1 n ys) (k:Below w1.heap.size w1 w2):Gr base w w2 e size v v1 n ys :=
 ⟨own_below h.own k,h.kept.below k,h.spot⟩
theorem gr_made {base e size n:Nat} {w w3:World} {v v':Value} {xs:List Value} {o:Obj} (hown:w3.ownsRow base e size v' n xs) (hg:(w.alloc o).grownBy w3 v.ownBlock) (hat:v'.ownBlock=v.ownBlock\/v'.ownBlock=some (w.heap.size+1)):Gr base w w3 e size v v' n xs :=
 ⟨hown,((Kp.refl _ _).alloc o).grown hg (fun _ e=>.inl e),hat.imp id (fun e=>⟨_,e,Nat.le_succ _⟩)⟩
theorem gr_grown {base e size n:Nat} {w w3:World} {v v':Value} {xs:List Value} (hown:w3.ownsRow base e size v' n xs) (hg:w.grownBy w3 v.ownBlock) (hat:v'.ownBlock=v.ownBlock\/v'.ownBlock=some w.heap.size):Gr base w w3 e size v v' n xs :=
 ⟨hown,(Kp.refl _ _).grown hg (fun _ e=>.inl e),hat.imp id (fun e=>⟨_,e,Nat.le_refl _⟩)⟩
theorem AppendTwo_any (w:World) (base n:Nat) (v:Value) (xs:List Value) (num:Int) (ho:w.ownsRow base 5 1 v n xs) (hb:base<=w.heap.size) (hn:n<=100000) :
  Calls Tryz.prog 122 #[v,.int .i64 num] w fun e w'=>∃ v',e=.returned v'/\Gr base w w' 5 1 v v' (n+2) (xs++(Cx.two num).map Cx.bV):=by
 rw [Cx.bV_two];obtain ⟨i0,hi0,hz0,hz1,hz2⟩:=info_parts Tryz.infoByte;have HO:=hide ho;clear ho;go_enter Tryz.func122,Tryz.ntmps122;go_wp2_with (at_builtin;refine wpList_append_own_at _ rfl _ _ 64 rfl base 5 i0 _ 1 1 Tryz.underlying64 hi0 hz0 hz1 hz2 rfl (by decide) _ n xs rfl (own_below HO.out ((Below.refl _ _).alloc (Nat.le_refl _) _)) ⟨w.heap.size,0,none⟩ 2 2 [.int .u8 (num % 256),.int .u8 (num/256 % 256)] rfl rfl (news_new _ _ rfl [_,_] _) ?c2 ?c3 ?c4 ?c5 ?_)
 case c2=>intro u hu;simp at hu;rcases hu with rfl | rfl <;> rfl
 case c3=>unfold maxLen;omega
 case c4=>omega
 case c5=>simp;omega
 intro v' w3 hown hgrow _ hat;have hG:Gr base w w3 5 1 v v' (n+2) (xs++[.int .u8 (num % 256),.int .u8 (num/256 % 256)]):=gr_made hown hgrow hat;have HG:=hide hG;clear hown hgrow hat hG;go_wp2_with fail;go_ret;exact ⟨_,rfl,HG.out⟩
def qV (which:Nat) (same:Bool) (num:Int) (turned:Bool):Value:=.agg #[.int .i64 which,.bool same,.int .i64 num,.bool turned]
def qCode (which:Nat) (same:Bool) (num:Int) (turned:Bool):List UInt8:=[if same then 8 else 7,UInt8.ofNat which]++Cx.two num++(if turned then [5] else [])
theorem below_ad (X:World) (o:Obj):Below X.heap.size X (X.alloc o).drew:=((Below.refl _ _).alloc (Nat.le_refl _) o).drew
theorem size_ad (X:World) (o:Obj):(X.alloc o).drew.heap.size=X.heap.size+1:=by simp
theorem news_ad (W:World) (n:Nat) (hn:n=W.heap.size) (cs:List Value) (t:Nat):∀ j u,cs[j]? = some u->(W.alloc (.cells cs.toArray t)).drew.cell? ((⟨n,0,none⟩ : Addr).add j)=some u:=news_new W n hn cs t
theorem ones2 {a b:Value} (ha:a.oneCell'=true) (hb:b.oneCell'=true):∀ u∈[a,b],u.oneCell'=true:=by
 intro u hu;simp at hu;rcases hu with rfl | rfl <;> assumption
theorem gr_drawn {base e size n b:Nat} {X w7:World} {v v7:Value} {xs:List Value} {o:Obj} (hown:w7.ownsRow base e size v7 n xs) (hg:(X.alloc o).drew.grownBy w7 v.ownBlock) (hat:v7.ownBlock=v.ownBlock\/v7.ownBlock=some (X.alloc o).drew.heap.size)
  (hb:b<X.heap.size) (hv:∀ k,v.ownBlock=some k->k<b):Gr base X w7 e size v v7 n xs/\∀ o,w7.cell? ⟨b,o,none⟩=X.cell? ⟨b,o,none⟩:=by
 have hG:Gr base X w7 e size v v7 n xs:=gr_made hown ⟨hg.os,hg.tape,hg.output,hg.size,hg.block⟩ (by simpa using hat);exact ⟨hG,fun o=>hG.kept.cell hb (fun e=>by have:=hv _ e;omega)⟩
theorem gr_two {base e size n m b:Nat} {X w7 w8:World} {v v7 v8:Value} {xs ys:List Value} (h:Gr base X w7 e size v v7 n xs) (k:Gr base w7 w8 e size v7 v8 m ys) (hb:b<X.heap.size) (hv:∀ k,v.ownBlock=some k->k<b):Gr base X w8 e size v v8 m ys/\∀ o,w8.cell? ⟨b,o,none⟩=X.cell? ⟨b,o,none⟩ :=
 ⟨h.trans k,fun o=>(h.trans k).kept.cell hb (fun e=>by have:=hv _ e;omega)⟩
theorem appendQuestion_any (w:World) (base n:Nat) (v:Value) (xs:List Value) (which:Nat) (same:Bool) (num:Int) (turned:Bool) (ho:w.ownsRow base 5 1 v n xs) (hb:base<=w.heap.size) (hn:n<=90000) :
  Calls Tryz.prog 213 #[v,qV which same num turned] w fun e w'=>∃ v',e=.returned v'/\Gr base w w' 5 1 v v' (n+(qCode which same num turned).length) (xs++(qCode which same num turned).map Cx.bV):=by
 obtain ⟨i0,hi0,hz0,hz1,hz2⟩:=info_parts Tryz.infoByte;obtain ⟨av,cv,rfl,_,_⟩:=row_shape ho;have hvb:∀ k,(Value.slice av n cv).ownBlock=some k->k<w.heap.size:=fun k hk=>(ho.lt k hk).2
 have HB:Hid (Below w.heap.size w (w.alloc (.cells #[.int .i64 which,.bool same,.int .i64 num,.bool turned] 314))):=hide ((Below.refl _ _).alloc (Nat.le_refl _) _);have HX:=hide (heap_alloc_new w (.cells #[.int .i64 which,.bool same,.int .i64 num,.bool turned] 314));have hz:(w.alloc (.cells #[.int .i64 which,.bool same,.int .i64 num,.bool turned] 314)).heap.size=w.heap.size+1:=by simp
 have HO:=hide (own_below ho HB.out);clear ho;obtain ⟨X,hX⟩ : ∃ X,X=w.alloc (.cells #[.int .i64 which,.bool same,.int .i64 num,.bool turned] 314):=⟨_,rfl⟩;rw [<- hX] at HB HX hz HO;have hqc:(qCode which same num turned).map Cx.bV=[.int .u8 (if same then 8 else 7),.int .u8 ((which:Int) % 256)]++(Cx.two num).map Cx.bV++(if turned then [.int .u8 5] else []):=by
  rw [<- Cx.bV_ofNat,qCode]
  cases same <;> cases turned <;> simp only [List.map_append,List.map_cons,List.map_nil,if_true,if_false,Bool.false_eq_true] <;> rfl
 have hql:(qCode which same num turned).length=4+(if turned then 1 else 0):=by cases turned <;> simp [qCode,Cx.two]
 rw [hqc,hql];clear hqc hql;unfold qV;have hbX:w.heap.size<X.heap.size:=by omega
 have hbb:base<=X.heap.size:=by omega
 have hba:base<=X.heap.size+1:=by omega
 have hml:n+2<=maxLen:=by unfold maxLen;omega
 have hmb:(n+2)*1<=140737488355328:=by omega
 cases same with
 | true =>
  go_enter Tryz.func213,Tryz.ntmps213;go_upto_region 4 with (fail);rw [<- hX];clear hX;have x0:X.cell? ⟨w.heap.size,0,none⟩=some (.int .i64 which):=Lib.cell_of_heap HX.out 0;have x2:X.cell? ⟨w.heap.size,2,none⟩=some (.int .i64 num):=Lib.cell_of_heap HX.out 2
  go_region_held3 (fun Y=>Y.cell? ⟨w.heap.size,0,none⟩=some (.int .i64 which)/\Y.cell? ⟨w.heap.size,2,none⟩=some (.int .i64 num)) (first | go_keep | (exact ⟨by with_reducible assumption,by with_reducible assumption⟩))
   (first
    | (go_at_call 122;refine (AppendTwo_any _ base _ _ _ num hG7.own ?_ ?_).mono ?_;exact Nat.le_trans hbb hG7.kept.size;omega;rintro e w8 ⟨v8,rfl,hG8⟩;obtain ⟨hGG,hc8⟩:=gr_two hG7 hG8 hbX hvb;have z0:=(hc8 0).trans x0;have z2:=(hc8 2).trans x2)
    | (refine step_append_own_at rfl _ _ 64 rfl base 5 i0 _ 1 1 Tryz.underlying64 hi0 hz0 hz1 hz2 rfl (by decide) _ n xs rfl (own_below HO.out (below_ad _ _)) ⟨_,0,none⟩ 2 2 [.int .u8 8,.int .u8 (IntKind.u8.wrap which)] rfl rfl (news_ad _ _ hz.symm [.int .u8 8,.int .u8 (IntKind.u8.wrap which)] _) (ones2 rfl rfl) hml hmb (Nat.le_trans hbb (below_ad _ _).size) ?_;intro v7 w7 hown hgrow hat;obtain ⟨hG7,hc7⟩:=gr_drawn hown hgrow hat hbX hvb;have y0:=(hc7 0).trans x0;have y2:=(hc7 2).trans x2;clear hown hgrow hat hc7))
  have z3:=(hc8 3).trans (show X.cell? ⟨w.heap.size,3,none⟩=some (.bool turned) from Lib.cell_of_heap HX.out 3);have HG8:Hid (Gr base w w8 5 1 (.slice av n cv) v8 (n+2+2) (xs++[.int .u8 8,.int .u8 ((which:Int) % 256)]++(Cx.two num).map Cx.bV)):=hide (hGG.after HB.out);have hs8:base<=w8.heap.size:=Nat.le_trans hb HG8.out.kept.size;clear hG7 hG8 hGG hc8 x0 x2 y0 y2 z0 z2 HO HX;obtain ⟨a8,c8,rfl,_,_⟩:=row_shape HG8.out.own
  cases turned with
  | false =>
   go_wp2_with fail;go_ret;exact ⟨_,rfl,by simpa using HG8.out⟩
  | true =>
   go_wp2_with (at_builtin;refine wpList_append_own_at _ rfl _ _ 64 rfl base 5 i0 _ 1 1 Tryz.underlying64 hi0 hz0 hz1 hz2 rfl (by decide) _ (n+2+2) _ rfl (own_below HG8.out.own ((Below.refl _ _).alloc (Nat.le_refl _) _)) ⟨w8.heap.size,0,none⟩ 1 1 [.int .u8 5] rfl rfl (news_new _ _ rfl [_] _) ?c2 ?c3 ?c4 ?c5 ?_)
   case c2=>intro u hu;simp at hu;rcases hu with rfl;rfl
   case c3=>unfold maxLen;omega
   case c4=>omega
   case c5=>simp;omega
   intro v9 w9 hown hgrow _ hat;have HG9:=hide (HG8.out.trans (gr_made hown hgrow (by simpa using hat)));clear hown hgrow hat;go_wp2_with fail;go_ret;exact ⟨_,rfl,by simpa using HG9.out⟩
 | false =>
  go_enter Tryz.func213,Tryz.ntmps213;go_upto_region 4 with (fail);rw [<- hX];clear hX;have x0:X.cell? ⟨w.heap.size,0,none⟩=some (.int .i64 which):=Lib.cell_of_heap HX.out 0;have x2:X.cell? ⟨w.heap.size,2,none⟩=some (.int .i64 num):=Lib.cell_of_heap HX.out 2
  go_region_held3 (fun Y=>Y.cell? ⟨w.heap.size,0,none⟩=some (.int .i64 which)/\Y.cell? ⟨w.heap.size,2,none⟩=some (.int .i64 num)) (first | go_keep | (exact ⟨by with_reducible assumption,by with_reducible assumption⟩))
   (first
    | (go_at_call 122;refine (AppendTwo_any _ base _ _ _ num hG7.own ?_ ?_).mono ?_;exact Nat.le_trans hbb hG7.kept.size;omega;rintro e w8 ⟨v8,rfl,hG8⟩;obtain ⟨hGG,hc8⟩:=gr_two hG7 hG8 hbX hvb;have z0:=(hc8 0).trans x0;have z2:=(hc8 2).trans x2)
    | (refine step_append_own_at rfl _ _ 64 rfl base 5 i0 _ 1 1 Tryz.underlying64 hi0 hz0 hz1 hz2 rfl (by decide) _ n xs rfl (own_below HO.out (below_ad _ _)) ⟨_,0,none⟩ 2 2 [.int .u8 7,.int .u8 (IntKind.u8.wrap which)] rfl rfl (news_ad _ _ hz.symm [.int .u8 7,.int .u8 (IntKind.u8.wrap which)] _) (ones2 rfl rfl) hml hmb (Nat.le_trans hbb (below_ad _ _).size) ?_;intro v7 w7 hown hgrow hat;obtain ⟨hG7,hc7⟩:=gr_drawn hown hgrow hat hbX hvb;have y0:=(hc7 0).trans x0;have y2:=(hc7 2).trans x2;clear hown hgrow hat hc7))
  have z3:=(hc8 3).trans (show X.cell? ⟨w.heap.size,3,none⟩=some (.bool turned) from Lib.cell_of_heap HX.out 3);have HG8:Hid (Gr base w w8 5 1 (.slice av n cv) v8 (n+2+2) (xs++[.int .u8 7,.int .u8 ((which:Int) % 256)]++(Cx.two num).map Cx.bV)):=hide (hGG.after HB.out);have hs8:base<=w8.heap.size:=Nat.le_trans hb HG8.out.kept.size;clear hG7 hG8 hGG hc8 x0 x2 y0 y2 z0 z2 HO HX;obtain ⟨a8,c8,rfl,_,_⟩:=row_shape HG8.out.own
  cases turned with
  | false =>
   go_wp2_with fail;go_ret;exact ⟨_,rfl,by simpa using HG8.out⟩
  | true =>
   go_wp2_with (at_builtin;refine wpList_append_own_at _ rfl _ _ 64 rfl base 5 i0 _ 1 1 Tryz.underlying64 hi0 hz0 hz1 hz2 rfl (by decide) _ (n+2+2) _ rfl (own_below HG8.out.own ((Below.refl _ _).alloc (Nat.le_refl _) _)) ⟨w8.heap.size,0,none⟩ 1 1 [.int .u8 5] rfl rfl (news_new _ _ rfl [_] _) ?c2 ?c3 ?c4 ?c5 ?_)
   case c2=>intro u hu;simp at hu;rcases hu with rfl;rfl
   case c3=>unfold maxLen;omega
   case c4=>omega
   case c5=>simp;omega
   intro v9 w9 hown hgrow _ hat;have HG9:=hide (HG8.out.trans (gr_made hown hgrow (by simpa using hat)));clear hown hgrow hat;go_wp2_with fail;go_ret;exact ⟨_,rfl,by simpa using HG9.out⟩
end
section
open Go.RowKit
theorem below_d (X:World):Below X.heap.size X X.drew:=⟨rfl,rfl,rfl,Nat.le_refl _,fun _ _=>rfl⟩
theorem below_a (X:World) (o:Obj):Below X.heap.size X (X.alloc o):=(Below.refl _ _).alloc (Nat.le_refl _) o
theorem gx_box {c e s m b:Nat} {Y w':World} {v v':Value} {ys:List Value} (h:Gr c Y w' e s v v' m ys) (hb:b<Y.heap.size) (hv:∀ k,v.ownBlock=some k->k≠b):(∀ o,w'.cell? ⟨b,o,none⟩=Y.cell? ⟨b,o,none⟩)/\(∀ k,v'.ownBlock=some k->k≠b)/\b<w'.heap.size:=by
 refine ⟨fun o=>h.kept.cell hb (fun e=>hv _ e rfl),fun k hk=>?_,Nat.lt_of_lt_of_le hb h.kept.size⟩;rcases h.spot with e | ⟨q,e,hq⟩
 ·exact hv k (e ▸ hk)
 ·rw [e] at hk;cases hk;omega
theorem gx_from {c e s m b:Nat} {X Y w':World} {v v':Value} {ys:List Value} (h:Gr c Y w' e s v v' m ys) (k:Below X.heap.size X Y) (hb:b<X.heap.size) (hv:∀ k,v.ownBlock=some k->k≠b):(∀ o,w'.cell? ⟨b,o,none⟩=X.cell? ⟨b,o,none⟩)/\(∀ k,v'.ownBlock=some k->k≠b)/\b<w'.heap.size:=by
 obtain ⟨h1,h2,h3⟩:=gx_box h (Nat.lt_of_lt_of_le hb k.size) hv;exact ⟨fun o=>(h1 o).trans (k.cell (p:=⟨b,o,none⟩) hb),h2,h3⟩
theorem news_first {c e s m m2 t t0:Nat} {X w1 w2:World} {v v1 v2 a:Value} {ys zs:List Value} (ht:t0=X.heap.size) (h1:Gr c (X.alloc (.cells #[a] t)).drew w1 e s v v1 m ys) (h2:Gr c w1 w2 e s v1 v2 m2 zs) (hv:∀ k,v.ownBlock=some k->k<X.heap.size) :
  ∀ j u,[a][j]? = some u->w2.cell? ((⟨t0,0,none⟩ : Addr).add j)=some u:=by
 subst ht;intro j u hu;obtain ⟨hc1,hv1,hb1⟩:=gx_box (b:=X.heap.size) h1 (by rw [size_ad];omega) (fun k hk=>by have:=hv k hk;omega);obtain ⟨hc2,_,_⟩:=gx_box h2 hb1 hv1;have:=news_ad X X.heap.size rfl [a] t j u hu;have e:((⟨X.heap.size,0,none⟩ : Addr).add j)=⟨X.heap.size,j,none⟩:=by simp [Addr.add];omega
 rw [e] at this |-;rw [hc2,hc1];exact this
theorem news_between {c e s m m2 t:Nat} {Y w1 w2:World} {v v1 v2 a:Value} {ys zs:List Value} (h1:Gr c Y w1 e s v v1 m ys) (h2:Gr c (w1.alloc (.cells #[a] t)) w2 e s v1 v2 m2 zs) :
  ∀ j u,[a][j]? = some u->w2.cell? ((⟨w1.heap.size,0,none⟩ : Addr).add j)=some u:=by
 intro j u hu;obtain ⟨hc2,_,_⟩:=gx_box (b:=w1.heap.size) h2 (by simp) (fun k hk=>by have:=(h1.own.lt k hk).2;omega);have:=news_new w1 w1.heap.size rfl [a] t j u hu;have e:((⟨w1.heap.size,0,none⟩ : Addr).add j)=⟨w1.heap.size,j,none⟩:=by simp [Addr.add];omega
 rw [e] at this |-;rw [hc2];exact this
theorem two_len (n:Nat) (a b:List UInt8) (x:UInt8):n+(a++b++[x]).length=n+a.length+b.length+1:=by simp;omega
theorem two_map (xs:List Value) (a b:List UInt8) (x:UInt8):xs++(a++b++[x]).map Cx.bV=xs++a.map Cx.bV++b.map Cx.bV++[Cx.bV x]:=by simp
theorem one_len (n:Nat) (a:List UInt8) (x:UInt8):n+(a++[x]).length=n+a.length+1:=by simp;omega
theorem one_map (xs:List Value) (a:List UInt8) (x:UInt8):xs++(a++[x]).map Cx.bV=xs++a.map Cx.bV++[Cx.bV x]:=by simp
theorem ones1 {a:Value} (ha:a.oneCell'=true):∀ u∈[a],u.oneCell'=true:=by
 intro u hu;simp at hu;subst hu;exact ha
theorem fin_two {c e s m1 m2 m3 b:Nat} {X Y0 w1 Y1 w2 Y2 w3:World} {v v1 v2 v3:Value} {x1 x2 x3:List Value} (h0:Below X.heap.size X Y0) (h1:Gr c Y0 w1 e s v v1 m1 x1) (k1:Below w1.heap.size w1 Y1) (h2:Gr c Y1 w2 e s v1 v2 m2 x2) (k2:Below w2.heap.size w2 Y2)
  (hown:w3.ownsRow c e s v3 m3 x3) (hg:Y2.grownBy w3 v2.ownBlock) (hat:v3.ownBlock=v2.ownBlock\/v3.ownBlock=some Y2.heap.size) (hb:b<X.heap.size) (hv:∀ k,v.ownBlock=some k->k<b):Gr c X w3 e s v v3 m3 x3/\∀ o,w3.cell? ⟨b,o,none⟩=X.cell? ⟨b,o,none⟩:=by
 have h3:Gr c Y2 w3 e s v2 v3 m3 x3:=gr_grown hown hg hat;have hG:=((h1.after h0).below k1).trans ((h2.below k2).trans h3);exact ⟨hG,fun o=>hG.kept.cell hb (fun e=>by have:=hv _ e;omega)⟩
end
section
open Go.RowKit
namespace Cx
def crcBit (y:Int):Int:=if bits BinOp.and IntKind.u32 y 1 == 1 then bits BinOp.xor IntKind.u32 (y/2) 3988292384 else y/2
def crcBits:Nat->Int->Int
 | 0,y=>y
 | n+1,y=>crcBit (crcBits n y)
def crcByte (y:Int) (b:UInt8):Int:=crcBits 8 (bits BinOp.xor IntKind.u32 y ((b.toNat:Int) % 4294967296))
def crcFold (l:List UInt8):Int:=l.foldl crcByte 4294967295
theorem crcFold_snoc (l:List UInt8) (k:Nat) (h:k<l.length):crcFold (l.take (k+1))=crcByte (crcFold (l.take k)) l[k]:=by
 unfold crcFold;rw [List.take_add_one,List.getElem?_eq_getElem h];simp only [Option.toList,List.foldl_append,List.foldl_cons,List.foldl_nil]
def crc (l:List UInt8):Int:=bits BinOp.xor IntKind.u32 IntKind.u32.max (crcFold l)
def sumCode (l:List UInt8):List UInt8:=[byteAt (crc l) 1,byteAt (crc l) 256,byteAt (crc l) 65536,byteAt (crc l) 16777216]
end Cx
theorem Sum_any (w:World) (g cap:Nat) (l:List UInt8) (hc:∀ i (hi:i<l.length),w.cell? ⟨g,i,none⟩=some (Cx.bV l[i])) (hl:l.length<=100000) :
  Calls Tryz.prog 172 #[.slice (some ⟨g,0,none⟩) l.length cap] w fun e w'=>e=.returned (.int .u32 (Cx.crc l))/\w'=w:=by
 have HC:=hide hc;clear hc;go_enter Tryz.func172,Tryz.ntmps172;go_wp2
 go_loop [3,9] (fun v3 v9=>∃ (k:Nat),k<=l.length/\v9=.int .i64 k/\v3=.int .u32 (Cx.crcFold (l.take k))) (fun _ v9=>l.length-(intOf v9).toNat)
 case atStart=>exact ⟨0,by omega,rfl,rfl⟩
 case round =>
  obtain ⟨k,hk,rfl,rfl⟩:=hrel
  by_cases hlt:k<l.length
  ·have x0:w.cell? ⟨g,k,none⟩=some (.int .u8 (l[k].toNat:Int)):=HC.out k hlt
   have hki:(k:Int)<l.length:=by omega
   have hk0:(0:Int)<=k:=by omega
   have HF:=hide (Cx.crcFold_snoc l k hlt);generalize l[k]=c at *;generalize Cx.crcFold (l.take k)=x at *;go_wp2
   go_loop [3,17] (fun v3 v17=>∃ (j:Nat),j<=8/\v17=.int .i64 j/\v3=.int .u32 (Cx.crcBits j (bits BinOp.xor IntKind.u32 x ((c.toNat:Int) % 4294967296)))) (fun _ v17=>8-(intOf v17).toNat)
   case atStart=>exact ⟨0,by omega,rfl,rfl⟩
   case round =>
    obtain ⟨j,hj,rfl,rfl⟩:=hrel
    by_cases h8:j<8
    ·have h8i:(j:Int)<8:=by omega
     have HB:Hid (Cx.crcBits (j+1) (bits BinOp.xor IntKind.u32 x ((c.toNat:Int) % 4294967296))=Cx.crcBit (Cx.crcBits j (bits BinOp.xor IntKind.u32 x ((c.toNat:Int) % 4294967296)))):=hide rfl;generalize Cx.crcBits j (bits BinOp.xor IntKind.u32 x ((c.toNat:Int) % 4294967296))=y at *
     cases hq:(bits BinOp.and IntKind.u32 y 1 == 1) with
     | true =>
      have HQ:Hid (Cx.crcBit y=bits BinOp.xor IntKind.u32 (y/2) 3988292384):=hide (by rw [Cx.crcBit,if_pos hq]);go_wp2;exact ⟨⟨j+1,by omega,by go_num,by rw [HB.out,HQ.out]⟩,by simp [intOf];omega⟩
     | false =>
      have HQ:Hid (Cx.crcBit y=y/2):=hide (by rw [Cx.crcBit,if_neg (by simp [hq])]);go_wp2;exact ⟨⟨j+1,by omega,by go_num,by rw [HB.out,HQ.out]⟩,by simp [intOf];omega⟩
    ·have h8i:¬ (j:Int)<8:=by omega
     obtain rfl:j=8:=by omega
     go_wp2;exact ⟨⟨k+1,by omega,by go_num,by rw [HF.out];rfl⟩,by simp [intOf];omega⟩
  ·have hki:¬ (k:Int)<l.length:=by omega
   obtain rfl:k=l.length:=by omega
   rw [List.take_length];go_wp2;go_ret;exact ⟨rfl,rfl⟩
theorem sumBytes_any (w:World) (g cap:Nat) (l:List UInt8) (hc:∀ i (hi:i<l.length),w.cell? ⟨g,i,none⟩=some (Cx.bV l[i])) (hl:l.length<=100000) :
  Calls Tryz.prog 123 #[.slice (some ⟨g,0,none⟩) l.length cap] w fun e w'=>e=.returned (.slice (some ⟨w.heap.size,0,none⟩) 4 4)/\w'=w.alloc (.cells ((Cx.sumCode l).map Cx.bV).toArray 5):=by
 have HS:=hide (Sum_any w g cap l hc hl);have HE:Hid (((Cx.sumCode l).map Cx.bV).toArray=#[.int .u8 (Cx.crc l % 256),.int .u8 (Cx.crc l/256 % 256),.int .u8 (Cx.crc l/65536 % 256),.int .u8 (Cx.crc l/16777216 % 256)]):=hide (by simp [Cx.sumCode,Cx.bV_byteAt]);clear hc;go_enter Tryz.func123,Tryz.ntmps123;go_wp2_with fail;refine HS.out.mono ?_;rintro e w1 ⟨rfl,rfl⟩;generalize Cx.crc l=x at *;go_wp2_with fail;go_ret;exact ⟨rfl,by rw [HE.out]⟩
end
section
namespace Cx
open Hx
def outerOf (ms:List MA) (i:Nat):Int:=match ms[i]? with | some m=>m.outer | none => -1
def dfltOf (ms:List MA) (i:Nat):Bool:=match ms[i]? with | some m=>m.dflt | none=>false
def innerIx (ms:List MA) (i:Nat):List Nat:=(ms.zipIdx.filter fun p=>decide (p.1.outer=(i:Int))).map (·.2)
def isLeaf (ms:List MA) (i:Nat):Bool:=(innerIx ms i).isEmpty
def leavesTo (ms:List MA) (n:Nat):List Nat:=(List.range n).filter (isLeaf ms)
def leaves (ms:List MA):List Nat:=leavesTo ms ms.length
def pathF (ms:List MA):Nat->Nat->List Nat
 | 0,i=>[i]
 | f+1,i=>if outerOf ms i<0 then [i] else pathF ms f (outerOf ms i).toNat++[i]
def path (ms:List MA) (i:Nat):List Nat:=pathF ms i i
def dfl (ms:List MA) (i:Nat):Nat:=((innerIx ms i).find? (dfltOf ms)).getD 0
def enterF (ms:List MA):Nat->Nat->Nat
 | 0,i=>i
 | f+1,i=>if isLeaf ms i then i else enterF ms f (dfl ms i)
def enter (ms:List MA) (i:Nat):Nat:=enterF ms (ms.length-i) i
structure Q where
 which:Nat
 same:Bool
 num:Int
 turned:Bool
def varIx (vs:List VarA) (n:ByteArray):Nat:=vs.findIdx (sameV n)
def opIs (o:ByteArray) (l:List UInt8):Bool:=o.toList == l
def qOf (vs:List VarA) (was:Bool) (nm op num:Tok):Q :=
 ⟨varIx vs nm.s+(if was then 0 else vs.length),opIs op.s [61,61] || opIs op.s [33,61],(if opIs op.s [60,61] || opIs op.s [62] then num.n+1 else num.n),opIs op.s [33,61] || opIs op.s [62,61] || opIs op.s [62]⟩
def Q.answer (q:Q) (xs:List Int):Bool:=let n:=xs.getD q.which 0;if q.same then (n == q.num) != q.turned else decide (n<q.num) != q.turned
def Q.cuts (q:Q):List Int:=if q.same then [q.num,q.num+1] else [q.num]
def Q.code (q:Q):List UInt8:=qCode q.which q.same q.num q.turned
def gCode (vs:List VarA):G->List UInt8
 | .or l r=>gCode vs l++gCode vs r++[4]
 | .and l r=>gCode vs l++gCode vs r++[3]
 | .not g=>gCode vs g++[5]
 | .group _ g=>gCode vs g
 | .tru=>[6]
 | .atom w nm op num _=>(qOf vs w.isSome nm op num).code
def modeIx (ms:List MA) (n:ByteArray):Nat:=ms.findIdx fun m=>m.name.s.toList == n.toList
def numberOf (ms:List MA) (i:Nat):Nat:=(leaves ms).findIdx (fun j=>j == enter ms i)
def endCode (ms:List MA) (r:RowA):List UInt8:=match r.dest with | none=>[0] | some t=>[1,UInt8.ofNat (numberOf ms (modeIx ms t.s))]
def rowCode (vs:List VarA) (ms:List MA) (r:RowA):List UInt8:=gCode vs r.g++[2]++two (endCode ms r).length++endCode ms r
def rowsOf (ms:List MA) (i:Nat):List RowA:=match ms[i]? with | some m=>m.rows | none=>[]
def program (vs:List VarA) (ms:List MA) (i:Nat):List UInt8:=((path ms i).flatMap fun j=>(rowsOf ms j).flatMap (rowCode vs ms))++[0]
def nameOf (ms:List MA) (i:Nat):ByteArray:=match ms[i]? with | some m=>m.name.s | none=>⟨#[]⟩
end Cx
end
end Go.Proofs.YtdjaiolfdbamcaaGreatDoor
