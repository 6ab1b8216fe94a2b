/- Walks of helmref's becomes and fits: each call returns what a plain function says. -/
import Derived.Test.YtdjaiolfdbamcaaGreatDoorZWScan1
set_option maxRecDepth 20000
set_option maxHeartbeats 1000000
namespace Go.Proofs.YtdjaiolfdbamcaaGreatDoor
open Go.RowKit
def ii(t:Hx.Tok):Value:=.agg #[.int .u8 t.k,.string t.s,.int .i64 t.n,.int .i64 t.line]
def eD(y:List UInt8):Value:=.string ⟨y.toArray⟩
def fK(r:Option (List (List UInt8)))(w:World)(e:Ending)(w':World):Prop:=
 Below w.heap.size w w'/\match r with
  |none=>e=.returned (.tuple #[.slice none 0 0,.bool false])
  |some l=>∃v,e=.returned (.tuple #[v,.bool true])/\w'.ownsRow w.heap.size 9 1 v l.length (l.map eD)
theorem dG(t:Hx.Tok)(w:World)(y:List UInt8)(L:List (List UInt8))(h:Hx.aA y t=some L)(o:Obj)(hl:L.length<=10):
  fK (Hx.aA y t) w (.returned (.tuple #[.slice (some ⟨w.heap.size+1,0,none⟩) L.length L.length,.bool true])) ((w.alloc o).alloc (.cells (L.map eD).toArray 9)):=by
 refine⟨((Below.refl _ _).alloc (Nat.le_refl _) _).alloc (by simp) _,?_⟩;rw[h];exact⟨_,rfl,rR _ _ _ (by simp) (by simp) _ _ _ _ (by simp) (by grind[maxLen])⟩
theorem Ji(t:Hx.Tok)(w:World)(y:List UInt8)(h:Hx.aA y t=some [])(o:Obj):
  fK (Hx.aA y t) w (.returned (.tuple #[.slice none 0 0,.bool true])) (w.alloc o):=by
 refine⟨(Below.refl _ _).alloc (Nat.le_refl _) _,?_⟩;rw[h];exact⟨_,rfl,World.ownsRow_nil _ _ _ _⟩
theorem abo(t:Hx.Tok)(w:World)(y:List UInt8)(h:Hx.aA y t=none)(o:Obj):
  fK (Hx.aA y t) w (.returned (.tuple #[.slice none 0 0,.bool false])) (w.alloc o):=by
 refine⟨(Below.refl _ _).alloc (Nat.le_refl _) _,?_⟩;rw[h]
theorem P6(t:Hx.Tok)(w:World):Calls Tryz.prog 138 #[eD Hx.b9,ii t] w (fK (Hx.aA Hx.b9 t) w):=by
 have hb:Hx.aA Hx.b9 t=some (if Hx.eQ t Hx.eE then [Hx.eE,Hx.cB,Hx.eP,Hx.KO,Hx.eP,Hx.t7,Hx.b9]else [Hx.e9]):=rfl;have HB:=ae hb;clear hb;unfold eD ii;go_enter Tryz.func138,Tryz.ntmps138;go_wp2
 all_goals go_ret2
 all_goals
  have hb:=HB.out
  (try(first|rw[Hx.jD (t:=t) (y:=Hx.eE) ‹(t.k:Int)=119› ‹(t.s.toList==[118,97,114])=true›]at hb|rw[Hx.jE (t:=t) (y:=Hx.eE) (show¬(t.k:Int)=119 by omega)]at hb|rw[Hx.jF (t:=t) (y:=Hx.eE) ‹(t.s.toList==[118,97,114])=false›]at hb))
  first
   |(refine dG t w Hx.b9 [Hx.eE,Hx.cB,Hx.eP,Hx.KO,Hx.eP,Hx.t7,Hx.b9] ?_ _ (by decide);exact hb)
   |(refine dG t w Hx.b9 [Hx.e9] ?_ _ (by decide);exact hb)
theorem UX(t:Hx.Tok)(w:World):Calls Tryz.prog 138 #[eD Hx.e9,ii t] w (fK (Hx.aA Hx.e9 t) w):=by
 have hb:Hx.aA Hx.e9 t=some ([Hx.cS,Hx.cB,Hx.Dz,Hx.dU]):=rfl;have HB:=ae hb;clear hb;unfold eD ii;go_enter Tryz.func138,Tryz.ntmps138;go_wp2
 all_goals go_ret2
 all_goals first
  |(refine dG t w Hx.e9 [Hx.cS,Hx.cB,Hx.Dz,Hx.dU] ?_ _ (by decide);rw[HB.out])
theorem UY(t:Hx.Tok)(w:World):Calls Tryz.prog 138 #[eD Hx.dU,ii t] w (fK (Hx.aA Hx.dU t) w):=by
 have hb:Hx.aA Hx.dU t=some (if Hx.eQ t Hx.dB then [Hx.dB,Hx.dc,Hx.g9,Hx.t7,Hx.dU]else [Hx.bJ]):=rfl;have HB:=ae hb;clear hb;unfold eD ii;go_enter Tryz.func138,Tryz.ntmps138;go_wp2
 all_goals go_ret2
 all_goals
  have hb:=HB.out
  (try(first|rw[Hx.jD (t:=t) (y:=Hx.dB) ‹(t.k:Int)=119› ‹(t.s.toList==[119,104,101,110])=true›]at hb|rw[Hx.jE (t:=t) (y:=Hx.dB) (show¬(t.k:Int)=119 by omega)]at hb|rw[Hx.jF (t:=t) (y:=Hx.dB) ‹(t.s.toList==[119,104,101,110])=false›]at hb))
  first
   |(refine dG t w Hx.dU [Hx.dB,Hx.dc,Hx.g9,Hx.t7,Hx.dU] ?_ _ (by decide);exact hb)
   |(refine dG t w Hx.dU [Hx.bJ] ?_ _ (by decide);exact hb)
theorem P7(t:Hx.Tok)(w:World):Calls Tryz.prog 138 #[eD Hx.bJ,ii t] w (fK (Hx.aA Hx.bJ t) w):=by
 have hb:Hx.aA Hx.bJ t=some (if Hx.eQ t Hx.aO then [Hx.aO,Hx.e9,Hx.bJ]else if Hx.eQ t Hx.cS then [Hx.e9,Hx.bJ]else [Hx.M3]):=rfl;have HB:=ae hb;clear hb;unfold eD ii;go_enter Tryz.func138,Tryz.ntmps138;go_wp2
 all_goals go_ret2
 all_goals
  have hb:=HB.out
  (try(first|rw[Hx.jD (t:=t) (y:=Hx.aO) ‹(t.k:Int)=119› ‹(t.s.toList==[100,101,102,97,117,108,116])=true›]at hb|rw[Hx.jE (t:=t) (y:=Hx.aO) (show¬(t.k:Int)=119 by omega)]at hb|rw[Hx.jF (t:=t) (y:=Hx.aO) ‹(t.s.toList==[100,101,102,97,117,108,116])=false›]at hb));(try(first|rw[Hx.jD (t:=t) (y:=Hx.cS) ‹(t.k:Int)=119› ‹(t.s.toList==[109,111,100,101])=true›]at hb|rw[Hx.jE (t:=t) (y:=Hx.cS) (show¬(t.k:Int)=119 by omega)]at hb|rw[Hx.jF (t:=t) (y:=Hx.cS) ‹(t.s.toList==[109,111,100,101])=false›]at hb))
  first
   |(refine dG t w Hx.bJ [Hx.aO,Hx.e9,Hx.bJ] ?_ _ (by decide);exact hb)
   |(refine dG t w Hx.bJ [Hx.e9,Hx.bJ] ?_ _ (by decide);exact hb)
   |(refine dG t w Hx.bJ [Hx.M3] ?_ _ (by decide);exact hb)
theorem UZ(t:Hx.Tok)(w:World):Calls Tryz.prog 138 #[eD Hx.g9,ii t] w (fK (Hx.aA Hx.g9 t) w):=by
 have hb:Hx.aA Hx.g9 t=some (if Hx.eQ t Hx.t6 then [Hx.t6,Hx.cB]else [Hx.kn]):=rfl;have HB:=ae hb;clear hb;unfold eD ii;go_enter Tryz.func138,Tryz.ntmps138;go_wp2
 all_goals go_ret2
 all_goals
  have hb:=HB.out
  (try(first|rw[Hx.jD (t:=t) (y:=Hx.t6) ‹(t.k:Int)=119› ‹(t.s.toList==[116,111])=true›]at hb|rw[Hx.jE (t:=t) (y:=Hx.t6) (show¬(t.k:Int)=119 by omega)]at hb|rw[Hx.jF (t:=t) (y:=Hx.t6) ‹(t.s.toList==[116,111])=false›]at hb))
  first
   |(refine dG t w Hx.g9 [Hx.t6,Hx.cB] ?_ _ (by decide);exact hb)
   |(refine dG t w Hx.g9 [Hx.kn] ?_ _ (by decide);exact hb)
theorem P8(t:Hx.Tok)(w:World):Calls Tryz.prog 138 #[eD Hx.dc,ii t] w (fK (Hx.aA Hx.dc t) w):=by
 have hb:Hx.aA Hx.dc t=some ([Hx.eO,Hx.jg]):=rfl;have HB:=ae hb;clear hb;unfold eD ii;go_enter Tryz.func138,Tryz.ntmps138;go_wp2
 all_goals go_ret2
 all_goals first
  |(refine dG t w Hx.dc [Hx.eO,Hx.jg] ?_ _ (by decide);rw[HB.out])
theorem abp(t:Hx.Tok)(w:World):Calls Tryz.prog 138 #[eD Hx.jg,ii t] w (fK (Hx.aA Hx.jg t) w):=by
 have hb:Hx.aA Hx.jg t=some (if Hx.eQ t Hx.qh then [Hx.qh,Hx.eO,Hx.jg]else []):=rfl;have HB:=ae hb;clear hb;unfold eD ii;go_enter Tryz.func138,Tryz.ntmps138;go_wp2
 all_goals go_ret2
 all_goals
  have hb:=HB.out
  (try(first|rw[Hx.jD (t:=t) (y:=Hx.qh) ‹(t.k:Int)=119› ‹(t.s.toList==[111,114])=true›]at hb|rw[Hx.jE (t:=t) (y:=Hx.qh) (show¬(t.k:Int)=119 by omega)]at hb|rw[Hx.jF (t:=t) (y:=Hx.qh) ‹(t.s.toList==[111,114])=false›]at hb))
  first
   |(refine dG t w Hx.jg [Hx.qh,Hx.eO,Hx.jg] ?_ _ (by decide);exact hb)
   |(refine Ji t w Hx.jg ?_ _;exact hb)
theorem U0(t:Hx.Tok)(w:World):Calls Tryz.prog 138 #[eD Hx.eO,ii t] w (fK (Hx.aA Hx.eO t) w):=by
 have hb:Hx.aA Hx.eO t=some ([Hx.bW,Hx.fb]):=rfl;have HB:=ae hb;clear hb;unfold eD ii;go_enter Tryz.func138,Tryz.ntmps138;go_wp2
 all_goals go_ret2
 all_goals first
  |(refine dG t w Hx.eO [Hx.bW,Hx.fb] ?_ _ (by decide);rw[HB.out])
theorem U2(t:Hx.Tok)(w:World):Calls Tryz.prog 138 #[eD Hx.fb,ii t] w (fK (Hx.aA Hx.fb t) w):=by
 have hb:Hx.aA Hx.fb t=some (if Hx.eQ t Hx.gY then [Hx.gY,Hx.bW,Hx.fb]else []):=rfl;have HB:=ae hb;clear hb;unfold eD ii;go_enter Tryz.func138,Tryz.ntmps138;go_wp2
 all_goals go_ret2
 all_goals
  have hb:=HB.out
  (try(first|rw[Hx.jD (t:=t) (y:=Hx.gY) ‹(t.k:Int)=119› ‹(t.s.toList==[97,110,100])=true›]at hb|rw[Hx.jE (t:=t) (y:=Hx.gY) (show¬(t.k:Int)=119 by omega)]at hb|rw[Hx.jF (t:=t) (y:=Hx.gY) ‹(t.s.toList==[97,110,100])=false›]at hb))
  first
   |(refine dG t w Hx.fb [Hx.gY,Hx.bW,Hx.fb] ?_ _ (by decide);exact hb)
   |(refine Ji t w Hx.fb ?_ _;exact hb)
theorem U3(t:Hx.Tok)(w:World):Calls Tryz.prog 138 #[eD Hx.bW,ii t] w (fK (Hx.aA Hx.bW t) w):=by
 have hb:Hx.aA Hx.bW t=some (if Hx.eQ t Hx.eK then [Hx.eK,Hx.bW]else if Hx.isS t Hx.jY then [Hx.jY,Hx.dc,Hx.qU]else if Hx.eQ t Hx.dQ then [Hx.dQ]else if Hx.eQ t Hx.ew then [Hx.ew,Hx.cB,Hx.wF,Hx.eP]else [Hx.cB,Hx.wF,Hx.eP]):=rfl;have HB:=ae hb;clear hb;unfold eD ii;go_enter Tryz.func138,Tryz.ntmps138;go_wp2
 all_goals go_ret2
 all_goals
  have hb:=HB.out
  (try(first|rw[Hx.jD (t:=t) (y:=Hx.eK) ‹(t.k:Int)=119› ‹(t.s.toList==[110,111,116])=true›]at hb|rw[Hx.jE (t:=t) (y:=Hx.eK) (show¬(t.k:Int)=119 by omega)]at hb|rw[Hx.jF (t:=t) (y:=Hx.eK) ‹(t.s.toList==[110,111,116])=false›]at hb));(try(first|rw[Hx.ZK (t:=t) (y:=Hx.jY) ‹(t.k:Int)=115› ‹(t.s.toList==[40])=true›]at hb|rw[Hx.ZL (t:=t) (y:=Hx.jY) (show¬(t.k:Int)=115 by omega)]at hb|rw[Hx.ZM (t:=t) (y:=Hx.jY) ‹(t.s.toList==[40])=false›]at hb));(try(first|rw[Hx.jD (t:=t) (y:=Hx.dQ) ‹(t.k:Int)=119› ‹(t.s.toList==[116,114,117,101])=true›]at hb|rw[Hx.jE (t:=t) (y:=Hx.dQ) (show¬(t.k:Int)=119 by omega)]at hb|rw[Hx.jF (t:=t) (y:=Hx.dQ) ‹(t.s.toList==[116,114,117,101])=false›]at hb));(try(first|rw[Hx.jD (t:=t) (y:=Hx.ew) ‹(t.k:Int)=119› ‹(t.s.toList==[119,97,115])=true›]at hb|rw[Hx.jE (t:=t) (y:=Hx.ew) (show¬(t.k:Int)=119 by omega)]at hb|rw[Hx.jF (t:=t) (y:=Hx.ew) ‹(t.s.toList==[119,97,115])=false›]at hb))
  first
   |(refine dG t w Hx.bW [Hx.eK,Hx.bW] ?_ _ (by decide);exact hb)
   |(refine dG t w Hx.bW [Hx.jY,Hx.dc,Hx.qU] ?_ _ (by decide);exact hb)
   |(refine dG t w Hx.bW [Hx.dQ] ?_ _ (by decide);exact hb)
   |(refine dG t w Hx.bW [Hx.ew,Hx.cB,Hx.wF,Hx.eP] ?_ _ (by decide);exact hb)
   |(refine dG t w Hx.bW [Hx.cB,Hx.wF,Hx.eP] ?_ _ (by decide);exact hb)
theorem abq(y:List UInt8)(hy:y∈[Hx.cB,Hx.eP,Hx.wF,Hx.eE,Hx.cS,Hx.aO,Hx.dB,Hx.t6,Hx.kn,Hx.gY,Hx.qh,Hx.eK,Hx.ew,Hx.dQ,Hx.Dz,Hx.M3,Hx.jY,Hx.qU,Hx.t7,Hx.KO])(t:Hx.Tok)(w:World):
  Calls Tryz.prog 138 #[eD y,ii t] w (fK (Hx.aA y t) w):=by
 simp only [List.mem_cons,List.not_mem_nil,or_false]at hy;unfold eD ii;rcases hy with rfl|rfl|rfl|rfl|rfl|rfl|rfl|rfl|rfl|rfl|rfl|rfl|rfl|rfl|rfl|rfl|rfl|rfl|rfl|rfl
 all_goals
  go_enter Tryz.func138,Tryz.ntmps138;go_wp2
  go_ret2
  exact abo t w _ rfl _
theorem abr(y:List UInt8)(hy:y∈Hx.symbols)(t:Hx.Tok)(w:World):
  Calls Tryz.prog 138 #[eD y,ii t] w (fK (Hx.aA y t) w):=by
 simp only [Hx.symbols,List.mem_cons,List.not_mem_nil,or_false]at hy;rcases hy with rfl|rfl|rfl|rfl|rfl|rfl|rfl|rfl|rfl|rfl|hy
 ·exact P6 t w
 ·exact UX t w
 ·exact UY t w
 ·exact P7 t w
 ·exact UZ t w
 ·exact P8 t w
 ·exact abp t w
 ·exact U0 t w
 ·exact U2 t w
 ·exact U3 t w
 ·exact abq y (by simp_all) t w
