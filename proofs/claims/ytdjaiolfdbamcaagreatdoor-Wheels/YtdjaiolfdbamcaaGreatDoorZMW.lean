/- Walks of what goes over a program: shapeOf, isNamed. -/
import Derived.Test.YtdjaiolfdbamcaaGreatDoorZMRa
import Derived.Test.YtdjaiolfdbamcaaGreatDoorZCA
import Derived.Test.YtdjaiolfdbamcaaGreatDoorZMRd
import Derived.Test.YtdjaiolfdbamcaaGreatDoorZMV
import Derived.Test.YtdjaiolfdbamcaaGreatDoorZPRound
import Derived.Test.YtdjaiolfdbamcaaGreatDoorZWCG2
import Derived.Test.YtdjaiolfdbamcaaGreatDoorZWRead1
import Derived.Maps.OwnSet
import Derived.KernelRfl
import Derived.Test.YtdjaiolfdbamcaaGreatDoorRows
import Derived.Test.YtdjaiolfdbamcaaGreatDoorCards
import Derived.Test.YtdjaiolfdbamcaaGreatDoorTie
import Derived.ProofKit
import Derived.LaidMore
import Derived.OpenShut
import Derived.Stop.Joined
import Derived.Stop.LaidErr
import Derived.SevenTiedAt
import Derived.Lib.LaidTab
set_option maxRecDepth 20000
set_option maxHeartbeats 4000000
namespace Go.Proofs.YtdjaiolfdbamcaaGreatDoor
section
open Go.RowKit
def shC (s:Mx.Shape):Array Value:=#[.int .i64 s.width,.int .i64 s.takes,.int .i64 s.puts,.bool s.ends]
def shV:Option Mx.Shape->Value
 | some s=>.tuple #[.agg (shC s),.bool true]
 | none=>.tuple #[.agg (shC ⟨0,0,0,false⟩),.bool false]
theorem u8_neq (b:UInt8) (n:Nat) (_:n<256) (h:¬ b=UInt8.ofNat n):¬ (b.toNat:Int)=n:=fun e=>h (by
 have h2:b.toNat=n:=by omega
 rw [<- h2];simp)
theorem shapeOf_any (w:World) (b:UInt8):Calls Tryz.prog 182 #[.int .u8 b.toNat] w fun e w'=>e=.returned (shV (Mx.shapeOf b))/\Below w.heap.size w w':=by
 by_cases h9:b.toNat<9
 ·have hb:b=0\/b=1\/b=2\/b=3\/b=4\/b=5\/b=6\/b=7\/b=8:=by
   have:∀ n,n<9->UInt8.ofNat n=0\/UInt8.ofNat n=1\/UInt8.ofNat n=2\/UInt8.ofNat n=3\/UInt8.ofNat n=4\/UInt8.ofNat n=5\/UInt8.ofNat n=6\/UInt8.ofNat n=7\/UInt8.ofNat n=8:=by decide
   have h:=this b.toNat h9
   rwa [UInt8.ofNat_toNat] at h
  clear h9;rcases hb with rfl | rfl | rfl | rfl | rfl | rfl | rfl | rfl | rfl
  all_goals
   go_enter Tryz.func182,Tryz.ntmps182;go_wp2;refine bodyPost_ret (v:=shV _) ?h rfl ⟨rfl,below_a _ _⟩
   case h=>simp [results,Tryz.results182,go_sem,shV,Mx.shapeOf,shC]
 ·have hs:Mx.shapeOf b=none:=by
   have hne:∀ n:Nat,n<9->b≠UInt8.ofNat n:=fun n hn e=>by
    subst e;simp at h9;omega
   have n0:¬ b=0:=hne 0 (by omega);have n1:¬ b=1:=hne 1 (by omega);have n2:¬ b=2:=hne 2 (by omega);have n3:¬ b=3:=hne 3 (by omega);have n4:¬ b=4:=hne 4 (by omega);have n5:¬ b=5:=hne 5 (by omega);have n6:¬ b=6:=hne 6 (by omega);have n7:¬ b=7:=hne 7 (by omega);have n8:¬ b=8:=hne 8 (by omega);simp [Mx.shapeOf,n0,n1,n2,n3,n4,n5,n6,n7,n8]
  rw [hs];have m0:¬ (b.toNat:Int)=0:=by omega
  have m1:¬ (b.toNat:Int)=1:=by omega
  have m2:¬ (b.toNat:Int)=2:=by omega
  have m3:¬ (b.toNat:Int)=3:=by omega
  have m4:¬ (b.toNat:Int)=4:=by omega
  have m5:¬ (b.toNat:Int)=5:=by omega
  have m6:¬ (b.toNat:Int)=6:=by omega
  have m7:¬ (b.toNat:Int)=7:=by omega
  have m8:¬ (b.toNat:Int)=8:=by omega
  go_enter Tryz.func182,Tryz.ntmps182;go_wp2;refine bodyPost_ret (v:=shV _) ?h rfl ⟨rfl,below_a _ _⟩
  case h=>simp [results,Tryz.results182,go_sem,shV,shC]
structure FlM (w:World) (fb gp cp:Nat) (p:List UInt8) (leaves numbers mb:Nat):Prop where
 box:w.heap[fb]? = some (.cells #[.slice (some ⟨gp,0,none⟩) p.length cp,.int .i64 leaves,.int .i64 numbers,.map (some mb)] 242 (0,0))
 prog:∀ k (hk:k<p.length),w.cell? ⟨gp,k,none⟩=some (.int .u8 (p[k].toNat:Int))
theorem isNamed_any (w:World) (fb gp cp:Nat) (p:List UInt8) (leaves numbers mb k:Nat) (h:FlM w fb gp cp p leaves numbers mb) (hk:k<p.length) (hp:p.length<=65535) (h1:p[k]=1\/p[k]=7\/p[k]=8->k+1<p.length) :
  Calls Tryz.prog 183 #[.pointer (some ⟨fb,0,none⟩),.int .i64 k] w fun e w'=>e=.returned (.bool (Mx.named p leaves numbers k))/\Below w.heap.size w w':=by
 have c0:w.cell? ⟨fb,0,none⟩=some (.slice (some ⟨gp,0,none⟩) p.length cp):=Lib.cell_of_heap h.box 0;have c1:w.cell? ⟨fb,1,none⟩=some (.int .i64 leaves):=Lib.cell_of_heap h.box 1;have c2:w.cell? ⟨fb,2,none⟩=some (.int .i64 numbers):=Lib.cell_of_heap h.box 2;have d0:=h.prog k hk;have hki:(k:Int)<p.length:=by omega
 have hk0:(0:Int)<=k:=by omega
 have hg:p.getD k 0=p[k]:=by simp [hk]
 have HG:=hide hg;have HP:=hide (fun j hj=>h.prog j hj);clear hg h
 by_cases e1:p[k]=1
 ·have hl:=h1 (.inl e1)
  have d1:=HP.out (k+1) hl;have HN:Hid (Mx.named p leaves numbers k=decide (p[k+1].toNat<leaves)):=hide (by unfold Mx.named;rw [HG.out,if_pos e1];simp [hl]);rw [e1] at d0;have d0':w.cell? ⟨gp,k,none⟩=some (.int .u8 1):=d0;have hli:(k:Int)+1<p.length:=by omega
  have hl0:(0:Int)<=(k:Int)+1:=by omega
  have hwk:wrap64 ((k:Int)+1)=(k:Int)+1:=IntWalk.wrap64_in _ (by omega);have hwk2:IntKind.i64.wrap ((k:Int)+1)=(k:Int)+1:=IntWalk.i64_in _ (by omega);have htn:((k:Int)+1).toNat=k+1:=by omega
  have hu:=p[k+1].toNat_lt;have hwr:wrap64 (p[k+1].toNat:Int)=p[k+1].toNat:=IntWalk.wrap64_in _ (by omega);have hwu:IntKind.i64.wrap (p[k+1].toNat:Int)=p[k+1].toNat:=IntWalk.i64_in _ (by omega);generalize p[k+1].toNat=u at *;clear d0 e1;go_enter Tryz.func183,Tryz.ntmps183;go_wp2_with fail
  go_region_held3 (fun W=>W.cell? ⟨fb,0,none⟩=some (.slice (some ⟨gp,0,none⟩) p.length cp)/\W.cell? ⟨fb,1,none⟩=some (.int .i64 leaves)/\W.cell? ⟨gp,k+1,none⟩=some (.int .u8 u)) (first | go_keep | (exact ⟨by with_reducible assumption,by with_reducible assumption,by with_reducible assumption⟩)) (fail)
  all_goals
   go_wp2_with fail;go_ret;exact ⟨by rw [HN.out];simp,below_d w⟩
 by_cases e7:p[k]=7\/p[k]=8
 ·have hl:=h1 (.inr e7)
  have d1:=HP.out (k+1) hl;have HN:Hid (Mx.named p leaves numbers k=decide (p[k+1].toNat<numbers)):=hide (by unfold Mx.named;rw [HG.out,if_neg e1,if_pos e7];simp [hl]);have hli:(k:Int)+1<p.length:=by omega
  have hl0:(0:Int)<=(k:Int)+1:=by omega
  have hwk:wrap64 ((k:Int)+1)=(k:Int)+1:=IntWalk.wrap64_in _ (by omega);have hwk2:IntKind.i64.wrap ((k:Int)+1)=(k:Int)+1:=IntWalk.i64_in _ (by omega);have htn:((k:Int)+1).toNat=k+1:=by omega
  have hu:=p[k+1].toNat_lt;have hwr:wrap64 (p[k+1].toNat:Int)=p[k+1].toNat:=IntWalk.wrap64_in _ (by omega);have hwu:IntKind.i64.wrap (p[k+1].toNat:Int)=p[k+1].toNat:=IntWalk.i64_in _ (by omega);generalize p[k+1].toNat=u at *;have d0':w.cell? ⟨gp,k,none⟩=some (.int .u8 7)\/w.cell? ⟨gp,k,none⟩=some (.int .u8 8):=by
   rcases e7 with e | e <;> rw [e] at d0
   ·exact .inl d0
   ·exact .inr d0
  clear d0 e1 e7;rcases d0' with d0 | d0
  all_goals
   go_enter Tryz.func183,Tryz.ntmps183;go_wp2_with fail
   go_region_held3 (fun W=>W.cell? ⟨fb,0,none⟩=some (.slice (some ⟨gp,0,none⟩) p.length cp)/\W.cell? ⟨fb,2,none⟩=some (.int .i64 numbers)/\W.cell? ⟨gp,k+1,none⟩=some (.int .u8 u)) (first | go_keep | (exact ⟨by with_reducible assumption,by with_reducible assumption,by with_reducible assumption⟩)) (fail)
   all_goals
    go_wp2_with fail;go_ret;exact ⟨by rw [HN.out];simp,below_d w⟩
 ·have HN:Hid (Mx.named p leaves numbers k=true):=hide (by unfold Mx.named;rw [HG.out,if_neg e1,if_neg e7])
  have hu:=p[k].toNat_lt;have m1:¬ (p[k].toNat:Int)=1:=u8_neq p[k] 1 (by omega) e1;have m7:¬ (p[k].toNat:Int)=7:=u8_neq p[k] 7 (by omega) (fun e=>e7 (.inl e));have m8:¬ (p[k].toNat:Int)=8:=u8_neq p[k] 8 (by omega) (fun e=>e7 (.inr e));clear e1 e7 h1;generalize p[k].toNat=v at *;go_enter Tryz.func183,Tryz.ntmps183;go_wp2_with fail;go_ret;exact ⟨by rw [HN.out];rfl,Below.refl _ _⟩
end
section
open Go.Maps
def kOf (k:Nat):Lit:=.int .i64 (k:Int)
theorem kOf_ne {j k:Nat} (h:j≠k):kOf j≠kOf k:=by
 intro e;simp only [kOf,Lit.int.injEq,true_and] at e;omega
structure AwIs (D:DataW Unit) (a:Mx.Aw):Prop where
 tidy:Tidy D
 size:Maps.size D=a.length
 nodup:(a.map (·.1)).Nodup
 has:∀ k:Nat,Maps.has D (kOf k)=(a.get k).isSome
 look:∀ k:Nat,D.atKey (kOf k) (.lit (.int .i64 0))=.lit (.int .i64 (((a.get k).getD 0:Nat):Int))
theorem del_nodup {a:Mx.Aw} (h:(a.map (·.1)).Nodup) (k:Nat):((a.del k).map (·.1)).Nodup:=by
 unfold Mx.Aw.del;exact h.sublist (List.filter_sublist.map _)
theorem del_length {a:Mx.Aw} (h:(a.map (·.1)).Nodup) (k:Nat):(a.del k).length+(if (a.get k).isSome then 1 else 0)=a.length:=by
 unfold Mx.Aw.del Mx.Aw.get
 induction a with
 | nil=>rfl
 | cons q r ih =>
  obtain ⟨x,y⟩:=q;simp only [List.map_cons,List.nodup_cons] at h
  by_cases hx:x=k
  ·subst hx
   have hr:r.filter (fun q=>q.1 != x)=r:=List.filter_eq_self.2 (fun q hq=>by
    have:q.1≠x:=fun e=>h.1 (List.mem_map.2 ⟨q,hq,e⟩)
    simpa using this)
   rw [List.filter_cons_of_neg (by simp),hr];simp
  ·rw [List.filter_cons_of_pos (by simp [hx])]
   have e:(k == x)=false:=beq_eq_false_iff_ne.2 (fun e=>hx e.symm);simp only [List.lookup_cons,e,List.length_cons];have:=ih h.2;omega
theorem AwIs.del {D:DataW Unit} {a:Mx.Aw} (h:AwIs D a) (k:Nat):AwIs (D.del (kOf k)) (a.del k):=by
 refine ⟨h.tidy.del _,?_,del_nodup h.nodup k,fun j=>?_,fun j=>?_⟩
 ·have h1:=size_del (k:=kOf k) h.tidy
  have h2:=del_length h.nodup k;rw [h.has k] at h1;have h3:=h.size;omega
 ·rw [Mx.Aw.get_del]
  by_cases hj:j=k
  ·subst hj;rw [has_del_same];simp
  ·rw [has_del_other (kOf_ne hj),h.has,if_neg hj]
 ·rw [Mx.Aw.get_del]
  by_cases hj:j=k
  ·subst hj;rw [atKey_del_same];simp
  ·rw [atKey_del_other (kOf_ne hj),h.look,if_neg hj]
theorem AwIs.put {D:DataW Unit} {a:Mx.Aw} (h:AwIs D a) (k v:Nat):AwIs (D.put (kOf k) (.lit (.int .i64 v))) (a.set k v):=by
 refine ⟨h.tidy.put (by trivial) _,?_,?_,fun j=>?_,fun j=>?_⟩
 ·have h1:=size_put (k:=kOf k) h.tidy (.lit (.int .i64 v))
  have h2:=del_length h.nodup k;rw [h.has k] at h1;have h3:=h.size;show _=(a.del k).length+1
  cases hg:(a.get k).isSome <;> rw [hg] at h1 h2 <;> simp at h1 h2 <;> omega
 ·show (((k,v)::a.del k).map (·.1)).Nodup
  simp only [List.map_cons,List.nodup_cons];refine ⟨fun hm=>?_,del_nodup h.nodup k⟩;obtain ⟨q,hq,e⟩:=List.mem_map.1 hm;have:=(List.mem_filter.1 hq).2;simp [e] at this
 ·rw [Mx.Aw.get_set]
  by_cases hj:j=k
  ·subst hj;rw [has_put_same h.tidy.isMap (by trivial)];simp
  ·rw [has_put_other (kOf_ne hj),h.has,if_neg hj]
 ·rw [Mx.Aw.get_set]
  by_cases hj:j=k
  ·subst hj;rw [atKey_put_same h.tidy.isMap (by trivial)];simp
  ·rw [atKey_put_other (kOf_ne hj),h.look,if_neg hj]
theorem awIs_nil:AwIs (.map []) []:=⟨tidy_empty,rfl,by simp,fun _=>rfl,fun _=>rfl⟩
end
section
open Go.RowKit Go.Maps
theorem Tryz.keyInt:Keyed Tryz.prog 3:=int_keyed Tryz.underlying3
theorem Tryz.zeroInt (w:World):(zeroValue 3).run Tryz.prog w=.ok (.int .i64 0) w:=by kernel_rfl
def AwM (w:World) (mb n:Nat) (a:Mx.Aw):Prop:=∃ D:DataW Unit,w.ownsMap Tryz.prog 3 (plainElem Tryz.prog 3) mb n D/\AwIs D a
theorem wf_i64 (x:Int) (h : -9223372036854775808<=x/\x<=9223372036854775807):(Lit.int .i64 x).wf=true:=by
 have h1:IntKind.i64.min = -9223372036854775808:=by decide
 have h2:IntKind.i64.max=9223372036854775807:=by decide
 simp only [Lit.wf,h1,h2];simp;omega
theorem key_int (k:Nat) (hk:k<=1000000):keyOf Tryz.prog 3 (.int .i64 k)=some (kOf k):=by
 refine keyOf_int_mk Tryz.underlying3 (wf_i64 _ ?_);omega
def ComeR (w:World) (mb n:Nat) (r:Option Mx.Aw) (e:Ending) (w':World):Prop:=Kp (fun k=>k=mb) w w'/\match r with
 | none=>e=.returned (.bool false)
 | some a2=>e=.returned (.bool true)/\AwM w' mb (n+1) a2
theorem come_any (w:World) (fb gp cp:Nat) (p:List UInt8) (leaves numbers mb k c n:Nat) (a:Mx.Aw) (h:FlM w fb gp cp p leaves numbers mb) (hm:AwM w mb n a) (hk:k<=1000000) (hc:c<=1000) (hn:n<=1000000) :
  Calls Tryz.prog 184 #[.pointer (some ⟨fb,0,none⟩),.int .i64 k,.int .i64 c] w fun e w'=>ComeR w mb n (Mx.come a k c) e w':=by
 have c3:w.cell? ⟨fb,3,none⟩=some (.map (some mb)):=Lib.cell_of_heap h.box 3;obtain ⟨D,ho,hD⟩:=hm;obtain ⟨v,ps,hrun,hv⟩:=ho.look_ok Tryz.keyInt Tryz.underlying240 (Tryz.zeroInt w) (plainElem_int Tryz.underlying3 (by decide)) (key_int k hk);obtain ⟨x,rfl,hx,_⟩:=plainElem_int_inv Tryz.underlying3 hv;simp only [Prod.mk.injEq] at hx;have hx2:x=((a.get k).getD 0:Nat):=by
  have h3:=(hD.look k).symm.trans hx.1;simpa using h3.symm
 rw [hD.has k] at hrun;have HO:=hide ho;have HD:=hide hD;clear hv hx ho hD h
 by_cases h32:32<c
 ·have hci:(32:Int)<c:=by omega
  have HC:Hid (Mx.come a k c=none):=hide (by unfold Mx.come;rw [if_pos h32]);go_enter Tryz.func184,Tryz.ntmps184;go_wp2_with fail;go_ret;exact ⟨Kp.refl _ _,by rw [HC.out];rfl⟩
 ·have hci:¬ (32:Int)<c:=by omega
  obtain ⟨w2,hst,ho2,ht2⟩:=HO.out.store Tryz.keyInt Tryz.underlying240 (by unfold maxLen;omega) (key_int k hk) (plainElem_int Tryz.underlying3 (wf_i64 (c:Int) (by omega)));have hg2:=ht2.grown;have HK2:Hid (Kp (fun k=>k=mb) w w2):=hide ⟨hg2.os,hg2.tape,hg2.output,hg2.size,fun j hj hn=>hg2.block j hj (by simpa using hn)⟩;have HA2:Hid (AwM w2 mb (n+1) (a.set k c)):=hide ⟨_,ho2,HD.out.put k c⟩;clear ho2 ht2 hg2
  cases hg:a.get k with
  | none =>
   have HC:Hid (Mx.come a k c=some (a.set k c)):=hide (by unfold Mx.come;rw [if_neg h32,hg]);rw [hg] at hrun hx2;clear hg;subst hx2;go_enter Tryz.func184,Tryz.ntmps184;go_wp2_with fail;go_ret;exact ⟨HK2.out,by rw [HC.out];exact ⟨rfl,HA2.out⟩⟩
  | some d =>
   rw [hg] at hrun hx2;have hxd:x=d:=by simpa using hx2
   subst hxd
   by_cases hdc:d=c
   ·have HC:Hid (Mx.come a k c=some (a.set k c)):=hide (by unfold Mx.come;rw [if_neg h32,hg];simp [hdc])
    have hdi:((d:Int) != c)=false:=by simp [hdc]
    clear hg hx2;go_enter Tryz.func184,Tryz.ntmps184;go_wp2_with fail;go_ret;exact ⟨HK2.out,by rw [HC.out];exact ⟨rfl,HA2.out⟩⟩
   ·have HC:Hid (Mx.come a k c=none):=hide (by unfold Mx.come;rw [if_neg h32,hg];simp [hdc])
    have hdi:((d:Int) != c)=true:=by simp;omega
    clear hg hx2;go_enter Tryz.func184,Tryz.ntmps184;go_wp2_with fail;go_ret;exact ⟨Kp.refl _ _,by rw [HC.out];rfl⟩
end
section
open Go.RowKit Go.Maps
attribute [local go_sem ↓] Go.wp_at_zero Go.wp_at_succ
def GoR (w:World) (mb n:Nat) (r:Option (Nat×Mx.Aw)) (e:Ending) (w':World):Prop:=Kp (fun k=>k=mb) w w'/\match r with
 | none=>e=.returned (.tuple #[.int .i64 0,.bool false])\/∃ x:Nat,e=.returned (.tuple #[.int .i64 x,.bool false])
 | some (b,a2)=>e=.returned (.tuple #[.int .i64 b,.bool true])/\AwM w' mb (n+2) a2
theorem shape_le {b:UInt8} {wd tk pt:Nat} {en:Bool} (h:Mx.shapeOf b=some ⟨wd,tk,pt,en⟩):wd<=3/\tk<=2/\pt<=1/\(b=1->wd=1)/\(b=7\/b=8->wd=3)/\(b=2->wd=2/\tk=1/\pt=0/\en=false):=by
 unfold Mx.shapeOf at h
 by_cases h0:b=0
 ·subst h0;simp at h;obtain ⟨rfl,rfl,rfl,rfl⟩:=h;decide
 by_cases h1:b=1
 ·subst h1;simp at h;obtain ⟨rfl,rfl,rfl,rfl⟩:=h;decide
 by_cases h2:b=2
 ·subst h2;simp at h;obtain ⟨rfl,rfl,rfl,rfl⟩:=h;decide
 by_cases h3:b=3\/b=4
 ·rcases h3 with rfl | rfl <;> simp at h <;> obtain ⟨rfl,rfl,rfl,rfl⟩:=h <;> decide
 by_cases h5:b=5
 ·subst h5;simp at h;obtain ⟨rfl,rfl,rfl,rfl⟩:=h;decide
 by_cases h6:b=6
 ·subst h6;simp at h;obtain ⟨rfl,rfl,rfl,rfl⟩:=h;decide
 by_cases h7:b=7\/b=8
 ·rcases h7 with rfl | rfl <;> simp at h <;> obtain ⟨rfl,rfl,rfl,rfl⟩:=h <;> decide
 rw [if_neg h0,if_neg h1,if_neg h2,if_neg h3,if_neg h5,if_neg h6,if_neg h7] at h
 cases h
theorem map_off {w:World} {mb n:Nat} {a:Mx.Aw} (h:AwM w mb n a) {g o:Nat} {v:Value} (hc:w.cell? ⟨g,o,none⟩=some v):g≠mb:=by
 obtain ⟨D,⟨es,clock,hb,_⟩,_⟩:=h;intro e;subst e;simp [World.cell?,hb] at hc
theorem FlM.kept {F:Nat->Prop} {w w':World} {fb gp cp:Nat} {p:List UInt8} {leaves numbers mb:Nat} (h:FlM w fb gp cp p leaves numbers mb) (hk:Kp F w w') (hf:¬ F fb) (hg:0<p.length->¬ F gp):FlM w' fb gp cp p leaves numbers mb:=by
 refine ⟨(hk.block fb (Array.getElem?_eq_some_iff.1 h.box).1 hf).trans h.box,fun k hk2=>?_⟩;have hl:gp<w.heap.size:=by
  rcases Nat.lt_or_ge gp w.heap.size with hh | hh
  ·exact hh
  ·have:=h.prog k hk2
   simp [World.cell?,Array.getElem?_eq_none hh] at this
 exact (hk.cell hl (hg (by omega))).trans (h.prog k hk2)
theorem skip_nums (k n bh tw:Nat) (h1:k+2<n) (hn:n<=65535) (hb:bh<=n) (ht:tw<65536):(k:Int)+1<n/\(k:Int)+2<n/\(0:Int)<=(k:Int)+1/\(0:Int)<=(k:Int)+2/\wrap64 ((k:Int)+1)=(k:Int)+1/\wrap64 ((k:Int)+2)=(k:Int)+2/\IntKind.i64.wrap ((k:Int)+1)=(k:Int)+1/\IntKind.i64.wrap ((k:Int)+2)=(k:Int)+2/\((k:Int)+1).toNat=k+1/\((k:Int)+2).toNat=k+2/\wrap64 ((bh:Int)+tw)=(bh:Int)+tw/\IntKind.i64.wrap ((bh:Int)+tw)=(bh:Int)+tw :=
 ⟨by omega,by omega,by omega,by omega,IntWalk.wrap64_in _ (by omega),IntWalk.wrap64_in _ (by omega),IntWalk.i64_in _ (by omega),IntWalk.i64_in _ (by omega),by omega,by omega,IntWalk.wrap64_in _ (by omega),IntWalk.i64_in _ (by omega)⟩
theorem goOver_any (w:World) (fb gp cp:Nat) (p:List UInt8) (leaves numbers mb k n:Nat) (a:Mx.Aw) (h:FlM w fb gp cp p leaves numbers mb) (hm:AwM w mb n a) (hk:k<p.length) (hp:p.length<=65535) (hn:n<=900000) (ha:∀ j d,a.get j=some d->d<=32) :
  Calls Tryz.prog 134 #[.pointer (some ⟨fb,0,none⟩),.int .i64 k] w fun e w'=>GoR w mb n (Mx.goOver p leaves numbers k a) e w':=by
 have c0:w.cell? ⟨fb,0,none⟩=some (.slice (some ⟨gp,0,none⟩) p.length cp):=Lib.cell_of_heap h.box 0;have d0:=h.prog k hk;have hki:(k:Int)<p.length:=by omega
 have hk0:(0:Int)<=k:=by omega
 have HG:Hid (p.getD k 0=p[k]):=hide (by simp [hk]);have HS:=hide (shapeOf_any w p[k]);have HF:=hide h;have HM:=hide hm;clear h hm;go_enter Tryz.func134,Tryz.ntmps134;go_wp2_with fail;refine HS.out.mono ?_;rintro e w1 ⟨rfl,hb1⟩;have hfl:=(Array.getElem?_eq_some_iff.1 HF.out.box).1;obtain ⟨D,ho,hD⟩:=HM.out;have hml:=ho.lt;have HB1:=hide hb1
 cases hsh:Mx.shapeOf p[k] with
 | none =>
  have HR:Hid (Mx.goOver p leaves numbers k a=none):=hide (by unfold Mx.goOver;rw [HG.out,hsh]);have hX:=(below_a w1 (.cells #[.int .i64 0,.int .i64 0,.int .i64 0,.bool false] 285));have hWX:Below w.heap.size w (w1.alloc (.cells #[.int .i64 0,.int .i64 0,.int .i64 0,.bool false] 285)):=hb1.trans (hX.mono hb1.size);have c3:(w1.alloc (.cells #[.int .i64 0,.int .i64 0,.int .i64 0,.bool false] 285)).cell? ⟨fb,3,none⟩=some (.map (some mb)):=(hWX.cell (p:=⟨fb,3,none⟩) hfl).trans (Lib.cell_of_heap HF.out.box 3);have hoX:=ho.kept (w':=w1.alloc (.cells #[.int .i64 0,.int .i64 0,.int .i64 0,.bool false] 285)) (row:=none) ⟨hWX.os,hWX.tape,hWX.output,hWX.size,fun i hi _=>hWX.block i hi⟩ (by simp);obtain ⟨v,ps,hrun,hv⟩:=hoX.look_ok Tryz.keyInt Tryz.underlying240 (Tryz.zeroInt _) (plainElem_int Tryz.underlying3 (by decide)) (key_int k (by omega));have HWX:=hide hWX;rw [show shV none=.tuple #[.agg #[.int .i64 0,.int .i64 0,.int .i64 0,.bool false],.bool false] from rfl];obtain ⟨x,rfl,_,_⟩:=plainElem_int_inv Tryz.underlying3 hv;clear hb1 hX hWX hoX hv;go_wp2_with fail;refine bodyPost_ret (v:=.tuple #[.int .i64 0,.bool false]) (by simp [results,Tryz.results134,go_sem, *]) rfl ?_;exact ⟨Kp.ofBelow HWX.out,by rw [HR.out];exact .inl rfl⟩
 | some sh =>
  obtain ⟨wd,tk,pt,en⟩:=sh;rw [show shV (some ⟨wd,tk,pt,en⟩)=.tuple #[.agg #[.int .i64 wd,.int .i64 tk,.int .i64 pt,.bool en],.bool true] from rfl];have hX:=(below_a w1 (.cells #[.int .i64 wd,.int .i64 tk,.int .i64 pt,.bool en] 285));have hWX:Below w.heap.size w (w1.alloc (.cells #[.int .i64 wd,.int .i64 tk,.int .i64 pt,.bool en] 285)):=hb1.trans (hX.mono hb1.size);have hSX:=heap_alloc_new w1 (.cells #[.int .i64 wd,.int .i64 tk,.int .i64 pt,.bool en] 285);have c3:(w1.alloc (.cells #[.int .i64 wd,.int .i64 tk,.int .i64 pt,.bool en] 285)).cell? ⟨fb,3,none⟩=some (.map (some mb)):=(hWX.cell (p:=⟨fb,3,none⟩) hfl).trans (Lib.cell_of_heap HF.out.box 3);have hoX:=ho.kept (w':=w1.alloc (.cells #[.int .i64 wd,.int .i64 tk,.int .i64 pt,.bool en] 285)) (row:=none) ⟨hWX.os,hWX.tape,hWX.output,hWX.size,fun i hi _=>hWX.block i hi⟩ (by simp);obtain ⟨v,ps,hrun,hv⟩:=hoX.look_ok Tryz.keyInt Tryz.underlying240 (Tryz.zeroInt _) (plainElem_int Tryz.underlying3 (by decide)) (key_int k (by omega));obtain ⟨x,rfl,hx,_⟩:=plainElem_int_inv Tryz.underlying3 hv;simp only [Prod.mk.injEq] at hx;have hx2:x=((a.get k).getD 0:Nat):=by
   have h3:=(hD.look k).symm.trans hx.1;simpa using h3.symm
  rw [hD.has k] at hrun;have HWX:=hide hWX;have HSX:=hide hSX;have HSH:=hide hsh;clear hb1 hX hWX hv hx hSX hsh
  cases hg:a.get k with
  | none =>
   have HR:Hid (Mx.goOver p leaves numbers k a=none):=hide (by unfold Mx.goOver;rw [HG.out,HSH.out,hg]);rw [hg] at hrun hx2;subst hx2;clear hg hoX;go_wp2_with fail;refine bodyPost_ret (v:=.tuple #[.int .i64 0,.bool false]) (by simp [results,Tryz.results134,go_sem, *]) rfl ?_;exact ⟨Kp.ofBelow HWX.out,by rw [HR.out];exact .inl rfl⟩
  | some c =>
   rw [hg] at hrun hx2;have hxc:x=c:=by simpa using hx2
   subst hxc;have hc32:=ha k c hg;obtain ⟨w2,hdr,ho2,ht2⟩:=hoX.drop Tryz.keyInt Tryz.underlying240 (key_int k (by omega)) 0;have hg2:=ht2.grown;have hk2:Kp (fun k=>k=mb) (w1.alloc (.cells #[.int .i64 wd,.int .i64 tk,.int .i64 pt,.bool en] 285)) w2:=⟨hg2.os,hg2.tape,hg2.output,hg2.size,fun j hj hn=>hg2.block j hj (by simpa using hn)⟩;have HA2:Hid (AwM w2 mb n (a.del k)):=hide ⟨_,ho2,hD.del k⟩;have HGK:=hide hg;clear hx2 hg hoX ho2 ht2 hg2;have hne:=map_off HM.out (Lib.cell_of_heap HF.out.box 0);have hng:=map_off HM.out (HF.out.prog k hk);have HFX:=hide (HF.out.kept (Kp.ofBelow (F:=fun _=>False) HWX.out) id (fun _=>id));have HF2:=hide (HFX.out.kept hk2 hne (fun _=>hng));have h1s:=HB1.out.size;have hS2:=(hk2.block w1.heap.size (by simp) (by omega)).trans HSX.out;have HK2:Hid (Kp (fun k=>k=mb) w w2):=hide ((Kp.ofBelow HWX.out).trans hk2 (fun k h=>.inl h));have HS2:=hide hS2;have s0:w2.cell? ⟨w1.heap.size,0,none⟩=some (.int .i64 wd):=Lib.cell_of_heap hS2 0;have s1:w2.cell? ⟨w1.heap.size,1,none⟩=some (.int .i64 tk):=Lib.cell_of_heap hS2 1;have s2:w2.cell? ⟨w1.heap.size,2,none⟩=some (.int .i64 pt):=Lib.cell_of_heap hS2 2;have s3:w2.cell? ⟨w1.heap.size,3,none⟩=some (.bool en):=Lib.cell_of_heap hS2 3;have t0:w2.cell? ⟨fb,0,none⟩=some (.slice (some ⟨gp,0,none⟩) p.length cp):=Lib.cell_of_heap HF2.out.box 0;obtain ⟨l1,l2,l3,l4,l5,l6⟩:=shape_le HSH.out;have HRR:Hid (Mx.goOver p leaves numbers k a=if p.length<k+1+wd\/c<tk\/Mx.named p leaves numbers k=false then none else if en=true then some (k+1+wd,a.del k) else (match (if p.getD k 0=2 then Mx.come (a.del k) (k+1+wd+Mx.two (p.getD (k+1) 0) (p.getD (k+2) 0)) (c-tk+pt) else some (a.del k)) with | some a2=>(Mx.come a2 (k+1+wd) (c-tk+pt)).map fun a3=>(k+1+wd,a3) | none=>none)):=hide (by unfold Mx.goOver;rw [HG.out,HSH.out,HGK.out];rfl);clear hS2 hk2 hfl hml HFX HSX;go_upto_region 7 with (fail);clear hrun hdr c3;obtain ⟨bh,hbh⟩ : ∃ bh,bh=k+1+wd:=⟨_,rfl⟩;rw [<- hbh] at HRR
   by_cases hlen:p.length<bh
   ·have hli:(p.length:Int)<(k:Int)+1+wd:=by omega
    have HR:Hid (Mx.goOver p leaves numbers k a=none):=hide (by rw [HRR.out,if_pos (.inl hlen)]);go_wp2_with fail;refine bodyPost_ret (v:=.tuple #[.int .i64 0,.bool false]) (by simp [results,Tryz.results134,go_sem, *]) rfl ?_;exact ⟨HK2.out,by rw [HR.out];exact .inl rfl⟩
   have hli:¬ (p.length:Int)<(k:Int)+1+wd:=by omega
   by_cases hct:c<tk
   ·have hci:(c:Int)<tk:=by omega
    have HR:Hid (Mx.goOver p leaves numbers k a=none):=hide (by rw [HRR.out,if_pos (.inr (.inl hct))]);go_wp2_with fail;refine bodyPost_ret (v:=.tuple #[.int .i64 0,.bool false]) (by simp [results,Tryz.results134,go_sem, *]) rfl ?_;exact ⟨HK2.out,by rw [HR.out];exact .inl rfl⟩
   have hci:¬ (c:Int)<tk:=by omega
   have HIN:=hide (isNamed_any w2 fb gp cp p leaves numbers mb k HF2.out hk hp (fun e=>by
    rcases e with e | e
    ·have:=l4 e;omega
    ·have:=l5 e;omega))
   obtain ⟨nm,hnm⟩ : ∃ nm,nm=Mx.named p leaves numbers k:=⟨_,rfl⟩;rw [<- hnm] at HIN HRR;clear hnm;go_wp2_with fail;refine HIN.out.mono ?_;rintro e w3 ⟨rfl,hb3⟩;have HK3:Hid (Kp (fun k=>k=mb) w w3):=hide (HK2.out.below hb3);have HF3:=hide (HF2.out.kept (Kp.ofBelow (F:=fun _=>False) hb3) id (fun _=>id))
   have HA3:Hid (AwM w3 mb n (a.del k)):=hide (by
    obtain ⟨D2,ho2,hD2⟩:=HA2.out
    exact ⟨D2,ho2.kept (row:=none) ⟨hb3.os,hb3.tape,hb3.output,hb3.size,fun i hi _=>hb3.block i hi⟩ (by simp),hD2⟩)
   have hS3:=(hb3.block w1.heap.size (Array.getElem?_eq_some_iff.1 HS2.out).1).trans HS2.out;have HS3:=hide hS3;clear s0 s1 s2 s3 t0 hb3;have s1:w3.cell? ⟨w1.heap.size,1,none⟩=some (.int .i64 tk):=Lib.cell_of_heap hS3 1;have s2:w3.cell? ⟨w1.heap.size,2,none⟩=some (.int .i64 pt):=Lib.cell_of_heap hS3 2;have s3:w3.cell? ⟨w1.heap.size,3,none⟩=some (.bool en):=Lib.cell_of_heap hS3 3;have t0:w3.cell? ⟨fb,0,none⟩=some (.slice (some ⟨gp,0,none⟩) p.length cp):=Lib.cell_of_heap HF3.out.box 0;clear hS3
   cases nm with
   | false =>
    have HR:Hid (Mx.goOver p leaves numbers k a=none):=hide (by rw [HRR.out,if_pos (.inr (.inr rfl))]);go_wp2_with fail;refine bodyPost_ret (v:=.tuple #[.int .i64 0,.bool false]) (by simp [results,Tryz.results134,go_sem, *]) rfl ?_;exact ⟨HK3.out,by rw [HR.out];exact .inl rfl⟩
   | true =>
    have HR1:Hid (Mx.goOver p leaves numbers k a=if en=true then some (bh,a.del k) else (match (if p.getD k 0=2 then Mx.come (a.del k) (bh+Mx.two (p.getD (k+1) 0) (p.getD (k+2) 0)) (c-tk+pt) else some (a.del k)) with | some a2=>(Mx.come a2 bh (c-tk+pt)).map fun a3=>(bh,a3) | none=>none)):=hide (by rw [HRR.out,if_neg (by simp;omega)]);have hbi:((k:Int)+1+wd)=(bh:Int):=by omega
    have hbl:bh<=p.length:=by omega
    have HBH:=hide hbh;have htk:tk<=c:=by omega
    clear hbh
    cases en with
    | true =>
     have HR:Hid (Mx.goOver p leaves numbers k a=some (bh,a.del k)):=hide (by rw [HR1.out,if_pos rfl]);go_wp2_with fail;refine bodyPost_ret (v:=.tuple #[.int .i64 bh,.bool true]) (by simp [results,Tryz.results134,go_sem, *]) rfl ?_;refine ⟨HK3.out,?_⟩;rw [HR.out];obtain ⟨D2,ho2,hD2⟩:=HA3.out;exact ⟨rfl,D2,ho2.mono (by omega),hD2⟩
    | false =>
     obtain ⟨lf,hlf⟩ : ∃ lf,lf=c-tk+pt:=⟨_,rfl⟩;have hlfi:(c:Int)-tk+pt=(lf:Int):=by omega
     have hlf2:lf<=1000:=by omega
     have HR2:Hid (Mx.goOver p leaves numbers k a=(match (if p.getD k 0=2 then Mx.come (a.del k) (bh+Mx.two (p.getD (k+1) 0) (p.getD (k+2) 0)) lf else some (a.del k)) with | some a2=>(Mx.come a2 bh lf).map fun a3=>(bh,a3) | none=>none)):=hide (by rw [HR1.out,if_neg (by decide),hlf]);clear hlf
     by_cases hb2:p[k]=2
     ·have hl6:=l6 hb2
      have HBHo:=HBH.out;have hk1:k+1<p.length:=by omega
      have hk2:k+2<p.length:=by omega
      have HR3:Hid (Mx.goOver p leaves numbers k a=(match Mx.come (a.del k) (bh+Mx.two p[k+1] p[k+2]) lf with | some a2=>(Mx.come a2 bh lf).map fun a3=>(bh,a3) | none=>none)):=hide (by rw [HR2.out,HG.out,if_pos hb2,show p.getD (k+1) 0=p[k+1] by simp [hk1],show p.getD (k+2) 0=p[k+2] by simp [hk2]]);have d1:=HF3.out.prog (k+1) hk1;have d2:=HF3.out.prog (k+2) hk2;obtain ⟨tw,htw⟩ : ∃ tw,tw=Mx.two p[k+1] p[k+2]:=⟨_,rfl⟩;have htwl:tw<65536:=by rw [htw];exact Mx.two_lt _ _
      have HTW:=hide (fun W=>Two_any W p[k+1] p[k+2]);rw [<- htw] at HTW HR3;clear htw;have hb2i:(p[k].toNat:Int)=2:=by rw [hb2];rfl
      have HCM:=hide (come_any w3.drew fb gp cp p leaves numbers mb (bh+tw) lf n (a.del k) ⟨HF3.out.box,HF3.out.prog⟩ HA3.out (by omega) hlf2 (by omega));obtain ⟨u1,hu1⟩ : ∃ u1:Nat,u1=p[k+1].toNat:=⟨_,rfl⟩;obtain ⟨u2,hu2⟩ : ∃ u2:Nat,u2=p[k+2].toNat:=⟨_,rfl⟩;rw [<- hu1] at d1 HTW;rw [<- hu2] at d2 HTW;clear hu1 hu2;obtain ⟨hki1,hki2,hk10,hk20,hw1,hw2,hw3,hw4,ht1,ht2,hw5,hw6⟩:=skip_nums k p.length bh tw hk2 hp hbl htwl;have hft:=(Array.getElem?_eq_some_iff.1 HF3.out.box).1;have hgt:gp<w3.heap.size:=World.block_lt_of_cell? w3 ⟨gp,k+1,none⟩ d1;rw [show (((bh+tw:Nat)):Int)=(bh:Int)+tw from Int.natCast_add bh tw] at HCM;clear hl6 HBHo hb2;go_upto_region 13 with (fail);refine wp_region_held_drew (S:=fun Y=>Y.cell? ⟨fb,0,none⟩=some (.slice (some ⟨gp,0,none⟩) p.length cp)/\Y.cell? ⟨gp,k+1,none⟩=some (.int .u8 u1)/\Y.cell? ⟨gp,k+2,none⟩=some (.int .u8 u2)) (by kernel_rfl) ⟨t0,d1,d2⟩ (fun hHeld=>?_);refine tkR 0 rfl ?_ ?_ hHeld ?_;rotate_left
      ·intro w hSw;(try dsimp only at hSw);go_simp;(try with_reducible rfl)
      (try simp only [Act.put,qA,qB,qC,qD,qE])
      refine tkR 1 rfl (.bool true) ?_ hHeld ?_
      ·intro w hSw;(try dsimp only at hSw);go_simp;(try simp);(try omega)
      (try simp only [Act.put,qA,qB,qC,qD,qE,qF])
      refine tkR 2 rfl ?_ ?_ hHeld ?_;rotate_left
      ·intro w hSw;(try dsimp only at hSw);go_simp;(try with_reducible rfl)
      (try simp only [Act.put,qA,qB,qC,qD,qE,qF])
      refine tkR 3 rfl ?_ ?_ hHeld ?_;rotate_left
      ·intro w hSw;(try dsimp only at hSw);go_simp;(try with_reducible rfl)
      (try simp only [Act.put,qA,qB,qC,qD,qE,qF])
      refine tkR 4 rfl ?_ ?_ hHeld ?_;rotate_left
      ·intro w hSw;(try dsimp only at hSw);go_simp;(try with_reducible rfl)
      (try simp only [Act.put,qA,qB,qC,qD,qE,qF])
      refine tkR 5 rfl ?_ ?_ hHeld ?_;rotate_left
      ·intro w hSw;(try dsimp only at hSw);go_simp;(try with_reducible rfl)
      (try simp only [Act.put,qA,qB,qC,qD,qE,qF])
      refine tkR 6 rfl ?_ ?_ hHeld ?_;rotate_left
      ·intro w hSw;(try dsimp only at hSw);go_simp;(try with_reducible rfl)
      (try simp only [Act.put,qA,qB,qC,qD,qE,qF])
      refine tkR 7 rfl ?_ ?_ hHeld ?_;rotate_left
      ·intro w hSw;(try dsimp only at hSw);go_simp;(try with_reducible rfl)
      (try simp only [Act.put,qA,qB,qC,qD,qE,qF])
      refine tkR 8 rfl ?_ ?_ hHeld ?_;rotate_left
      ·intro w hSw;(try dsimp only at hSw);go_simp;(try with_reducible rfl)
      (try simp only [Act.put,qA,qB,qC,qD,qE,qF])
      refine tkR 9 rfl ?_ ?_ hHeld ?_;rotate_left
      ·intro w hSw;(try dsimp only at hSw);go_simp;(try with_reducible rfl)
      (try simp only [Act.put,qA,qB,qC,qD,qE,qF])
      refine tkR 10 rfl ?_ ?_ hHeld ?_;rotate_left
      ·intro w hSw;(try dsimp only at hSw);go_simp;(try with_reducible rfl)
      (try simp only [Act.put,qA,qB,qC,qD,qE,qF])
      refine tkR 11 rfl ?_ ?_ hHeld ?_;rotate_left
      ·intro w hSw;(try dsimp only at hSw);go_simp;(try with_reducible rfl)
      (try simp only [Act.put,qA,qB,qC,qD,qE,qF])
      refine tkR 12 rfl ?_ ?_ hHeld ?_;rotate_left
      ·intro w hSw;(try dsimp only at hSw);go_simp;(try with_reducible rfl)
      (try simp only [Act.put,qA,qB,qC,qD,qE,qF])
      refine tkR 13 rfl ?_ ?_ hHeld ?_;rotate_left
      ·intro w hSw;(try dsimp only at hSw);go_simp;(try with_reducible rfl)
      (try simp only [Act.put,qA,qB,qC,qD,qE,qF])
      refine tkR 14 rfl ?_ ?_ hHeld ?_;rotate_left
      ·intro w hSw;(try dsimp only at hSw);go_simp;(try with_reducible rfl)
      (try simp only [Act.put,qA,qB,qC,qD,qE,qF])
      refine tkR 15 rfl ?_ ?_ hHeld ?_;rotate_left
      ·intro w hSw;(try dsimp only at hSw);go_simp;(try with_reducible rfl)
      (try simp only [Act.put,qA,qB,qC,qD,qE,qF])
      refine tkR 16 rfl ?_ ?_ hHeld ?_;rotate_left
      ·intro w hSw;(try dsimp only at hSw);go_simp;(try with_reducible rfl)
      (try simp only [Act.put,qA,qB,qC,qD,qE,qF])
      refine tkR 17 rfl ?_ ?_ hHeld ?_;rotate_left
      ·intro w hSw;(try dsimp only at hSw);go_simp;(try with_reducible rfl)
      (try simp only [Act.put,qA,qB,qC,qD,qE,qF])
      refine tkR 18 rfl ?_ ?_ hHeld ?_;rotate_left
      ·intro w hSw;(try dsimp only at hSw);go_simp;(try with_reducible rfl)
      (try simp only [Act.put,qA,qB,qC,qD,qE,qF])
      refine tkR 19 rfl ?_ ?_ hHeld ?_;rotate_left
      ·intro w hSw;(try dsimp only at hSw);go_simp;(try with_reducible rfl)
      (try simp only [Act.put,qA,qB,qC,qD,qE,qF])
      refine tkR 20 rfl ?_ ?_ hHeld ?_;rotate_left
      ·intro w hSw;(try dsimp only at hSw);go_simp;(try with_reducible rfl)
      (try simp only [Act.put,qA,qB,qC,qD,qE,qF])
      refine tkR 23 rfl ?_ ?_ hHeld ?_;rotate_left
      ·intro w hSw;(try dsimp only at hSw);go_simp;(try with_reducible rfl)
      (try simp only [Act.put,qA,qB,qC,qD,qE,qF])
      refine wpAnyH_ready (rs:=[21]) (by kernel_rfl) (by simp) ?_;refine AllReadyH.cons rfl (fun K hK=>?_) AllReadyH.nil
      go_simp
      refine (HTW.out _).mono ?_;rintro e w9 ⟨rfl,rfl⟩;refine hK.out _ _ ⟨t0,d1,d2⟩ (fun _=>?_);clear hK K
      (try simp only [Act.put,qA,qB,qC,qD,qE,qF])
      refine tkR 22 rfl ?_ ?_ hHeld ?_;rotate_left
      ·intro w hSw;(try dsimp only at hSw);go_simp;(try with_reducible rfl)
      (try simp only [Act.put,qA,qB,qC,qD,qE,qF])
      refine wpAnyH_ready (rs:=[24]) (by kernel_rfl) (by simp) ?_;refine AllReadyH.cons rfl (fun K hK=>?_) AllReadyH.nil
      go_simp
      refine HCM.out.mono ?_;rintro e w4 ⟨hk4,hm4⟩;have t4:w4.cell? ⟨fb,0,none⟩=some (.slice (some ⟨gp,0,none⟩) p.length cp):=(hk4.cell hft hne).trans t0;have d14:w4.cell? ⟨gp,k+1,none⟩=some (.int .u8 u1):=(hk4.cell hgt hng).trans d1;have d24:w4.cell? ⟨gp,k+2,none⟩=some (.int .u8 u2):=(hk4.cell hgt hng).trans d2;have HF4:=hide (FlM.kept (w:=w3.drew) ⟨HF3.out.box,HF3.out.prog⟩ hk4 hne (fun _=>hng));have HK4:Hid (Kp (fun k=>k=mb) w w4):=hide (HK3.out.drew.trans hk4 (fun k h=>.inl h));obtain ⟨cr,hcr⟩ : ∃ cr,cr=Mx.come (a.del k) (bh+tw) lf:=⟨_,rfl⟩;rw [<- hcr] at hm4 HR3;clear hcr hk4
      cases cr with
      | none =>
       obtain rfl:=hm4;refine hK.out _ _ ⟨t4,d14,d24⟩ (fun hHeld=>?_);clear hK K
       (try simp only [Act.put,qA,qB,qC,qD,qE,qF])
       refine tkR 25 rfl ?_ ?_ hHeld ?_;rotate_left
       ·intro w hSw;(try dsimp only at hSw);go_simp;(try with_reducible rfl)
       (try simp only [Act.put,qA,qB,qC,qD,qE,qF])
       refine tkR 26 rfl ?_ ?_ hHeld ?_;rotate_left
       ·intro w hSw;(try dsimp only at hSw);go_simp;(try with_reducible rfl)
       (try simp only [Act.put,qA,qB,qC,qD,qE,qF])
       refine wpAnyH_done (by kernel_rfl) ?_ _;go_wp2_with fail;refine bodyPost_ret (v:=.tuple #[.int .i64 0,.bool false]) (by simp [results,Tryz.results134,go_sem, *]) rfl ?_;exact ⟨HK4.out,by rw [HR3.out];exact .inl rfl⟩
      | some a2 =>
       obtain ⟨rfl,hm5⟩:=hm4;have HC2:=hide (come_any w4 fb gp cp p leaves numbers mb bh lf (n+1) a2 HF4.out hm5 (Nat.le_trans hbl (Nat.le_trans hp (by decide))) hlf2 (Nat.le_trans (Nat.succ_le_succ hn) (by decide)));clear hm5;refine hK.out _ _ ⟨t4,d14,d24⟩ (fun hHeld=>?_);clear hK K
       (try simp only [Act.put,qA,qB,qC,qD,qE,qF])
       refine tkR 25 rfl ?_ ?_ hHeld ?_;rotate_left
       ·intro w hSw;(try dsimp only at hSw);go_simp;(try with_reducible rfl)
       (try simp only [Act.put,qA,qB,qC,qD,qE,qF])
       refine tkR 26 rfl ?_ ?_ hHeld ?_;rotate_left
       ·intro w hSw;(try dsimp only at hSw);go_simp;(try with_reducible rfl)
       (try simp only [Act.put,qA,qB,qC,qD,qE,qF])
       refine wpAnyH_done (by kernel_rfl) ?_ _;go_wp2_with fail;refine HC2.out.mono ?_;rintro e w5 ⟨hk5,hm5⟩;have HK5:Hid (Kp (fun k=>k=mb) w w5):=hide (HK4.out.trans hk5 (fun k h=>.inl h));obtain ⟨cr,hcr⟩ : ∃ cr,cr=Mx.come a2 bh lf:=⟨_,rfl⟩;rw [<- hcr] at hm5;have HR4:Hid (Mx.goOver p leaves numbers k a=cr.map fun a3=>(bh,a3)):=hide (by rw [HR3.out,hcr]);clear hcr hk5 HR3
       cases cr with
       | none =>
        obtain rfl:=hm5;go_wp2_with fail;refine bodyPost_ret (v:=.tuple #[.int .i64 bh,.bool false]) (by simp [results,Tryz.results134,go_sem, *]) rfl ?_;exact ⟨HK5.out,by rw [HR4.out];exact .inr ⟨bh,rfl⟩⟩
       | some a3 =>
        obtain ⟨rfl,hm6⟩:=hm5;have HM6:=hide hm6;clear hm6;go_wp2_with fail;refine bodyPost_ret (v:=.tuple #[.int .i64 bh,.bool true]) (by simp [results,Tryz.results134,go_sem, *]) rfl ?_;refine ⟨HK5.out,?_⟩;rw [HR4.out];obtain ⟨D5,ho5,hD5⟩:=HM6.out;exact ⟨rfl,D5,ho5,hD5⟩
     ·have hb2i:¬ (p[k].toNat:Int)=2:=u8_neq p[k] 2 (by omega) hb2
      have HR3:Hid (Mx.goOver p leaves numbers k a=(Mx.come (a.del k) bh lf).map fun a3=>(bh,a3)):=hide (by rw [HR2.out,HG.out,if_neg hb2]);have HCM:=hide (come_any w3.drew fb gp cp p leaves numbers mb bh lf n (a.del k) ⟨HF3.out.box,HF3.out.prog⟩ HA3.out (by omega) hlf2 (by omega));clear hb2;go_upto_region 13 with (fail);refine wp_region_held_drew (S:=fun _=>True) (by kernel_rfl) trivial (fun hHeld=>?_);refine tkR 0 rfl ?_ ?_ hHeld ?_;rotate_left
      ·intro w hSw;(try dsimp only at hSw);go_simp;(try with_reducible rfl)
      (try simp only [Act.put,qA,qB,qC,qD,qE])
      refine tkR 1 rfl (.bool false) ?_ hHeld ?_
      ·intro w hSw;(try dsimp only at hSw);go_simp;(try simp);(try omega)
      (try simp only [Act.put,qA,qB,qC,qD,qE,qF])
      refine tkR 2 rfl ?_ ?_ hHeld ?_;rotate_left
      ·intro w hSw;(try dsimp only at hSw);go_simp;(try with_reducible rfl)
      (try simp only [Act.put,qA,qB,qC,qD,qE,qF])
      refine skR 3 rfl hHeld ?_
      (try simp only [Act.put,qA,qB,qC,qD,qE,qF])
      refine skR 4 rfl hHeld ?_
      (try simp only [Act.put,qA,qB,qC,qD,qE,qF])
      refine skR 5 rfl hHeld ?_
      (try simp only [Act.put,qA,qB,qC,qD,qE,qF])
      refine skR 6 rfl hHeld ?_
      (try simp only [Act.put,qA,qB,qC,qD,qE,qF])
      refine skR 7 rfl hHeld ?_
      (try simp only [Act.put,qA,qB,qC,qD,qE,qF])
      refine skR 8 rfl hHeld ?_
      (try simp only [Act.put,qA,qB,qC,qD,qE,qF])
      refine skR 9 rfl hHeld ?_
      (try simp only [Act.put,qA,qB,qC,qD,qE,qF])
      refine skR 10 rfl hHeld ?_
      (try simp only [Act.put,qA,qB,qC,qD,qE,qF])
      refine skR 11 rfl hHeld ?_
      (try simp only [Act.put,qA,qB,qC,qD,qE,qF])
      refine skR 12 rfl hHeld ?_
      (try simp only [Act.put,qA,qB,qC,qD,qE,qF])
      refine skR 13 rfl hHeld ?_
      (try simp only [Act.put,qA,qB,qC,qD,qE,qF])
      refine skR 14 rfl hHeld ?_
      (try simp only [Act.put,qA,qB,qC,qD,qE,qF])
      refine skR 15 rfl hHeld ?_
      (try simp only [Act.put,qA,qB,qC,qD,qE,qF])
      refine skR 16 rfl hHeld ?_
      (try simp only [Act.put,qA,qB,qC,qD,qE,qF])
      refine skR 17 rfl hHeld ?_
      (try simp only [Act.put,qA,qB,qC,qD,qE,qF])
      refine skR 18 rfl hHeld ?_
      (try simp only [Act.put,qA,qB,qC,qD,qE,qF])
      refine skR 19 rfl hHeld ?_
      (try simp only [Act.put,qA,qB,qC,qD,qE,qF])
      refine skR 20 rfl hHeld ?_
      (try simp only [Act.put,qA,qB,qC,qD,qE,qF])
      refine skR 21 rfl hHeld ?_
      (try simp only [Act.put,qA,qB,qC,qD,qE,qF])
      refine skR 22 rfl hHeld ?_
      (try simp only [Act.put,qA,qB,qC,qD,qE,qF])
      refine skR 23 rfl hHeld ?_
      (try simp only [Act.put,qA,qB,qC,qD,qE,qF])
      refine skR 24 rfl hHeld ?_
      (try simp only [Act.put,qA,qB,qC,qD,qE,qF])
      refine skR 25 rfl hHeld ?_
      (try simp only [Act.put,qA,qB,qC,qD,qE,qF])
      refine tkR 26 rfl ?_ ?_ hHeld ?_;rotate_left
      ·intro w hSw;(try dsimp only at hSw);go_simp;(try with_reducible rfl)
      (try simp only [Act.put,qA,qB,qC,qD,qE,qF])
      refine wpAnyH_done (by kernel_rfl) ?_ _;go_wp2_with fail;refine HCM.out.mono ?_;rintro e w4 ⟨hk4,hm4⟩;have HK4:Hid (Kp (fun k=>k=mb) w w4):=hide (HK3.out.drew.trans hk4 (fun k h=>.inl h));obtain ⟨cr,hcr⟩ : ∃ cr,cr=Mx.come (a.del k) bh lf:=⟨_,rfl⟩;rw [<- hcr] at hm4 HR3;clear hcr hk4
      cases cr with
      | none =>
       obtain rfl:=hm4;go_wp2_with fail;refine bodyPost_ret (v:=.tuple #[.int .i64 bh,.bool false]) (by simp [results,Tryz.results134,go_sem, *]) rfl ?_;exact ⟨HK4.out,by rw [HR3.out];exact .inr ⟨bh,rfl⟩⟩
      | some a2 =>
       obtain ⟨rfl,hm5⟩:=hm4;have HM5:=hide hm5;clear hm5;go_wp2_with fail;refine bodyPost_ret (v:=.tuple #[.int .i64 bh,.bool true]) (by simp [results,Tryz.results134,go_sem, *]) rfl ?_;refine ⟨HK4.out,?_⟩;rw [HR3.out];obtain ⟨D5,ho5,hD5⟩:=HM5.out;exact ⟨rfl,D5,ho5.mono (by omega),hD5⟩
end
section
open Go.RowKit Go.Maps
theorem awM_one:AwIs ((DataW.map [] : DataW Unit).put (kOf 0) (.lit (.int .i64 (0:Nat)))) [(0,0)]:=awIs_nil.put 0 0
theorem IsRight_any (w:World) (gp cp:Nat) (p:List UInt8) (leaves numbers:Nat) (hp:p.length<=65535) (hg:gp<w.heap.size) (hpr:∀ k (hk:k<p.length),w.cell? ⟨gp,k,none⟩=some (.int .u8 (p[k].toNat:Int))) :
  Calls Tryz.prog 90 #[.slice (some ⟨gp,0,none⟩) p.length cp,.int .i64 leaves,.int .i64 numbers] w fun e w'=>e=.returned (.bool (Mx.isRight p leaves numbers))/\Below w.heap.size w w':=by
 have HPR:=hide hpr;have hmm:=@run_makeMap Tryz.prog;obtain ⟨w2,hst,ho2,ht2⟩:=(World.ownsMap_made (H:=Unit) w Tryz.prog 3 (plainElem Tryz.prog 3)).store Tryz.keyInt Tryz.underlying240 (by unfold maxLen;omega) (key_int 0 (by omega)) (plainElem_int Tryz.underlying3 (wf_i64 ((0:Nat):Int) (by omega)));have hg2:=ht2.grown;have HK2:Hid (Kp (fun k=>k=w.heap.size) (w.alloc (.map #[] 0)) w2):=hide ⟨hg2.os,hg2.tape,hg2.output,hg2.size,fun j hj hn=>hg2.block j hj (by simpa using hn)⟩;have HA2:Hid (AwM w2 w.heap.size 1 [(0,0)]):=hide ⟨_,ho2,awM_one⟩;clear hpr ho2 ht2 hg2;rw [show (((0:Nat):Int))=0 from rfl] at hst;have hs2:=HK2.out.size;simp at hs2;have hF:FlM (w2.alloc (.cells #[.slice (some ⟨gp,0,none⟩) p.length cp,.int .i64 leaves,.int .i64 numbers,.map (some w.heap.size)] 242)) w2.heap.size gp cp p leaves numbers w.heap.size:=by
  refine ⟨heap_alloc_new w2 _,fun k hk=>?_⟩;exact ((below_a w2 _).cell (p:=⟨gp,k,none⟩) (by show gp<_;omega)).trans ((HK2.out.cell (by simp;omega) (by omega)).trans (((below_a w _).cell (p:=⟨gp,k,none⟩) hg).trans (HPR.out k hk)))
 have HF:=hide hF
 have HAX:Hid (AwM (w2.alloc (.cells #[.slice (some ⟨gp,0,none⟩) p.length cp,.int .i64 leaves,.int .i64 numbers,.map (some w.heap.size)] 242)) w.heap.size 1 [(0,0)]):=hide (by
  obtain ⟨D,ho,hD⟩:=HA2.out
  exact ⟨D,ho.alloc _,hD⟩)
 have HBX:Hid (Below w.heap.size w (w2.alloc (.cells #[.slice (some ⟨gp,0,none⟩) p.length cp,.int .i64 leaves,.int .i64 numbers,.map (some w.heap.size)] 242))):=hide (((below_a w (.map #[] 0)).trans (HK2.out.toBelow (fun k e=>by omega) (by simp))).trans ((below_a w2 _).mono (by omega)));obtain ⟨ans,hans⟩ : ∃ ans,ans=Mx.isRight p leaves numbers:=⟨_,rfl⟩;rw [<- hans];have HAN:=hide hans;clear hF HA2 HK2 hans;go_enter Tryz.func90,Tryz.ntmps90;go_wp2_with fail;clear hst hmm;generalize w2.alloc (.cells #[.slice (some ⟨gp,0,none⟩) p.length cp,.int .i64 leaves,.int .i64 numbers,.map (some w.heap.size)] 242)=X at *
 go_loopg [8] (p.length) (fun m v8 wr=>∃ (i n f:Nat) (a:Mx.Aw),i+m=p.length/\v8=.int .i64 i/\Below w.heap.size w wr/\FlM wr w2.heap.size gp cp p leaves numbers w.heap.size/\AwM wr w.heap.size n a/\n<=2*i+1/\p.length<f+i/\ans=Mx.rightF p leaves numbers f i a/\(∀ j d,a.get j=some d->d<=32))
 case atStart=>exact ⟨0,1,p.length+1,[(0,0)],by omega,rfl,HBX.out,HF.out,HAX.out,by omega,by omega,HAN.out,fun j d hj=>by
  simp only [Mx.Aw.get,List.lookup] at hj;split at hj
  ·cases hj;omega
  ·cases hj⟩
 case round =>
  obtain ⟨i,n,f,a,hi,rfl,hbr,hfr,har,hn,hf,hrt,ha⟩:=hrel;have HB:=hide hbr;have HFr:=hide hfr;have HAr:=hide har;obtain ⟨ff,rfl⟩ : ∃ ff,f=ff+1:=⟨f-1,by omega⟩
  by_cases hlt:i<p.length
  ·have hii:(i:Int)<p.length:=by omega
   have hrf:Mx.rightF p leaves numbers (ff+1) i a=(match Mx.goOver p leaves numbers i a with | some (b,a2)=>Mx.rightF p leaves numbers ff b a2 | none=>false):=by
    simp only [Mx.rightF];rw [if_pos hlt];rfl
   rw [hrf] at hrt;have HR:=hide hrt;have HG:=hide (goOver_any wr w2.heap.size gp cp p leaves numbers w.heap.size i n a hfr har hlt hp (by omega) ha);have HGT:=hide (fun b a2=>Mx.goOver_gt (p:=p) (leaves:=leaves) (numbers:=numbers) (k:=i) (a:=a) (b:=b) (a2:=a2));have HGL:=hide (fun b a2 (h:Mx.goOver p leaves numbers i a=some (b,a2))=>Mx.goOver_le h ha);generalize Mx.goOver p leaves numbers i a=q at *;clear hbr hfr har hrt hrf ha;go_wp2_with fail;refine HG.out.mono ?_;rintro e w3 ⟨hk3,hm3⟩;have HB3:Hid (Below w.heap.size w w3):=hide (HB.out.trans (hk3.toBelow (fun k e=>by omega) HB.out.size));have HF3:Hid (FlM w3 w2.heap.size gp cp p leaves numbers w.heap.size):=hide (HFr.out.kept hk3 (by omega) (fun _=>by omega));clear hk3 HG
   cases q with
   | none =>
    have HA:Hid (ans=false):=hide HR.out;rcases hm3 with rfl | ⟨x,rfl⟩
    all_goals
     go_wp2_with fail;go_ret;exact ⟨by rw [HA.out];rfl,HB3.out⟩
   | some bq =>
    obtain ⟨b,a2⟩:=bq;obtain ⟨rfl,hm4⟩:=hm3;have HM4:=hide hm4;have hgt:=HGT.out b a2 rfl;have HL2:=hide (HGL.out b a2 rfl);have HR2:Hid (ans=Mx.rightF p leaves numbers ff b a2):=hide HR.out;clear hm4 HGT HGL;go_wp2_with fail
    go_roundg (p.length-b)
    case measure=>omega
    case rel=>exact ⟨b,n+2,ff,a2,by omega,rfl,HB3.out,HF3.out,HM4.out,by omega,by omega,HR2.out,HL2.out⟩
  ·have hii:¬ (i:Int)<p.length:=by omega
   have c3:wr.cell? ⟨w2.heap.size,3,none⟩=some (.map (some w.heap.size)):=Lib.cell_of_heap hfr.box 3;obtain ⟨D,ho,hD⟩:=har;have hlen:=fun ty=>ho.len Tryz.underlying240 ty
   rw [hD.size] at hlen
   have HA:Hid (ans=((a.length:Int) == 0)):=hide (by
    rw [hrt];simp only [Mx.rightF];rw [if_neg hlt]
    cases a with
    | nil=>rfl
    | cons _ _=>simp;omega)
   clear hbr hfr hrt ho hD ha;go_wp2_with fail;go_ret;exact ⟨by rw [HA.out];rfl,HB.out⟩
end
section
open Go.RowKit
def RRR (bs:List UInt8) (w:World) (e:Ending) (w':World):Prop:=Below w.heap.size w w'/\match Mx.load bs with
 | none=>e=.returned (.tuple #[.agg #[.slice none 0 0,.slice none 0 0,.int .i64 0],.bool false])
 | some im=>∃ av cv al cl,e=.returned (.tuple #[.agg #[.slice av im.vars.length cv,.slice al im.leaves.length cl,.int .i64 im.first],.bool true])/\ImM w' w'.heap.size av al im
theorem readRight_any (w:World) (bs:List UInt8) (hs:bs.length<=maxLen) :
  Calls Tryz.prog 59 #[.string (bstr bs)] w fun e w'=>RRR bs w e w':=by
 obtain ⟨X,hX⟩ : ∃ X,X=w.alloc (.cells #[.slice none 0 0,.slice none 0 0,.int .i64 0] 106):=⟨_,rfl⟩;have hXb:Below w.heap.size w X:=by rw [hX];exact below_a w _
 have hXn:X.heap[w.heap.size]? = some (.cells #[.slice none 0 0,.slice none 0 0,.int .i64 0] 106 (0,0)):=by rw [hX];exact heap_alloc_new w _
 have hXs:X.heap.size=w.heap.size+1:=by rw [hX];simp
 have HXB:=hide hXb;have HXN:=hide hXn;have HD:=hide (Decode_any X bs hs);clear hXb hXn;have HLD:Hid (Mx.load bs=match Mx.decode bs with | some im=>if im.leaves.all (fun l=>Mx.isRight l.2 im.leaves.length (2*im.vars.length)) then some im else none | none=>none):=hide rfl;have HOK:=hide (fun im=>Mx.decode_ok (bs:=bs) (im:=im));unfold DecR at HD;generalize Mx.decode bs=dq at *;go_enter Tryz.func59,Tryz.ntmps59;go_wp2_with fail;rw [<- hX];clear hX;refine HD.out.mono ?_;rintro e w1 ⟨hb1,hm1⟩;have hs1:=hb1.size;have hR1:=(hb1.block w.heap.size (by omega)).trans HXN.out;have HW1:Hid (Below w.heap.size w w1):=hide (HXB.out.trans (hb1.mono HXB.out.size))
 cases dq with
 | none =>
  obtain rfl:=hm1;have hBY:=below_a w1 (.cells #[.slice none 0 0,.slice none 0 0,.int .i64 0] 106);have hYR:=(hBY.block w.heap.size (by omega)).trans hR1;have z0:=Lib.cell_of_heap hYR 0;have z1:=Lib.cell_of_heap hYR 1;have z2:=Lib.cell_of_heap hYR 2;have f0:=Lib.frozen_of_heap hYR 0;have f1:=Lib.frozen_of_heap hYR 1;have f2:=Lib.frozen_of_heap hYR 2;have HWY:=hide (HW1.out.trans (hBY.mono HW1.out.size));have HL:Hid (Mx.load bs=none):=hide HLD.out;clear hBY hYR hb1 hR1;go_wp2_with fail;refine bodyPost_ret (v:=.tuple #[.agg #[.slice none 0 0,.slice none 0 0,.int .i64 0],.bool false]) (by simp [results,Tryz.results59,go_sem, *]) rfl ?_;refine ⟨set3_below HWY.out _ _ _,?_⟩;rw [HL.out]
 | some im =>
  obtain ⟨av,cv,al,cl,rfl,him⟩:=hm1;have hok:=HOK.out im rfl;obtain ⟨gl,_,hal,_⟩:=him.leaves (by have:=hok.first;omega);subst hal;have hBY:=below_a w1 (.cells #[.slice av im.vars.length cv,.slice (some ⟨gl,0,none⟩) im.leaves.length cl,.int .i64 im.first] 106);have HYR:=hide ((hBY.block w.heap.size (by omega)).trans hR1);have HWY:=hide (HW1.out.trans (hBY.mono HW1.out.size));have hYI:=heap_alloc_new w1 (.cells #[.slice av im.vars.length cv,.slice (some ⟨gl,0,none⟩) im.leaves.length cl,.int .i64 im.first] 106);have HYI:=hide hYI;have y1:=Lib.cell_of_heap hYI 1;have HIM:=hide (him.below hBY);have HSY:Hid ((w1.alloc (.cells #[.slice av im.vars.length cv,.slice (some ⟨gl,0,none⟩) im.leaves.length cl,.int .i64 im.first] 106)).heap.size=w1.heap.size+1):=hide (by simp);have HL:Hid (Mx.load bs=if im.leaves.all (fun l=>Mx.isRight l.2 im.leaves.length (2*im.vars.length)) then some im else none):=hide HLD.out;have HOKI:=hide hok;have hl12:=hok.leaves;have hv3:=hok.vars;obtain ⟨Y,hY⟩ : ∃ Y,Y=w1.alloc (.cells #[.slice av im.vars.length cv,.slice (some ⟨gl,0,none⟩) im.leaves.length cl,.int .i64 im.first] 106):=⟨_,rfl⟩;rw [<- hY] at HYR HWY HYI HIM HSY y1;clear hBY hYI hb1 hR1 him hok HD HLD HOK;have hys:w1.heap.size<Y.heap.size:=by rw [HSY.out];omega
  have hwy:w.heap.size<Y.heap.size:=by omega
  go_wp2_with fail;rw [<- hY];clear hY y1
  go_loopg [19] (im.leaves.length) (fun k v19 wr=>∃ i:Nat,i+k=im.leaves.length/\v19=.int .i64 i/\Below Y.heap.size Y wr/\(im.leaves.take i).all (fun l=>Mx.isRight l.2 im.leaves.length (2*im.vars.length))=true)
  case atStart=>exact ⟨0,by omega,rfl,Below.refl _ _,rfl⟩
  case round =>
   obtain ⟨i,hi,rfl,hbr,hall⟩:=hrel;have hsr:=hbr.size;have hR:=(hbr.block w.heap.size hwy).trans HYR.out;have hI:=(hbr.block w1.heap.size hys).trans HYI.out;have HBR:=hide hbr;have HALL:=hide hall;have y0:=Lib.cell_of_heap hI 0;have y1:=Lib.cell_of_heap hI 1;have y2:=Lib.cell_of_heap hI 2;have z0:=Lib.cell_of_heap hR 0;have z1:=Lib.cell_of_heap hR 1;have z2:=Lib.cell_of_heap hR 2;have f0:=Lib.frozen_of_heap hR 0;have f1:=Lib.frozen_of_heap hR 1;have f2:=Lib.frozen_of_heap hR 2;have HR:=hide hR;have HI:=hide hI;have HWR:Hid (Below w.heap.size w wr):=hide (HWY.out.trans (hbr.mono HWY.out.size))
   by_cases hlt:i<im.leaves.length
   ·have hii:(i:Int)<im.leaves.length:=by omega
    have hi0:(0:Int)<=i:=by omega
    obtain ⟨g,cur,e,hgc,hgh,hc⟩:=(HIM.out.kept (Kp.ofBelow (F:=fun _=>False) hbr) (fun _ _ _ _ _ _ _=>id)).leaves (by omega)
    cases e
    obtain ⟨hc0,gp,cp,cup,fr,hc1,hgp,hgph,hpc⟩:=hc i hlt;have d0:wr.cell? ⟨gl,i*2,none⟩=some (.string (bstr im.leaves[i].1)):=(Lib.cell_of_heap hgh (i*2)).trans hc0;have d1:wr.cell? ⟨gl,i*2+1,none⟩=some (.slice (some ⟨gp,0,none⟩) im.leaves[i].2.length cp):=(Lib.cell_of_heap hgh (i*2+1)).trans hc1;have hsh:=HOKI.out.progs im.leaves[i] (List.getElem_mem hlt);unfold Mx.Short at hsh;have hgl:=(Array.getElem?_eq_some_iff.1 hgph).1;have hT:(im.leaves.take (i+1)).all (fun l=>Mx.isRight l.2 im.leaves.length (2*im.vars.length))=Mx.isRight im.leaves[i].2 im.leaves.length (2*im.vars.length):=by
     rw [List.take_add_one,List.getElem?_eq_getElem hlt,List.all_append,hall];simp
    have HT:=hide hT
    have HF:Hid (Mx.isRight im.leaves[i].2 im.leaves.length (2*im.vars.length)=false->im.leaves.all (fun l=>Mx.isRight l.2 im.leaves.length (2*im.vars.length))=false):=hide (fun hf=>by
     rw [List.all_eq_false]
     exact ⟨_,List.getElem_mem hlt,by simp [hf]⟩)
    have hBZ:=below_a wr (.cells #[.string (bstr im.leaves[i].1),.slice (some ⟨gp,0,none⟩) im.leaves[i].2.length cp] 102);have hZn:=heap_alloc_new wr (.cells #[.string (bstr im.leaves[i].1),.slice (some ⟨gp,0,none⟩) im.leaves[i].2.length cp] 102);have hZI:=(hBZ.block w1.heap.size (by omega)).trans hI;have l1:=Lib.cell_of_heap hZn 1;have q0:=Lib.cell_of_heap hZI 0;have q1:=Lib.cell_of_heap hZI 1;have HIR:=hide (IsRight_any (wr.alloc (.cells #[.string (bstr im.leaves[i].1),.slice (some ⟨gp,0,none⟩) im.leaves[i].2.length cp] 102)) gp cp im.leaves[i].2 im.leaves.length (2*im.vars.length) (by omega) (Nat.lt_of_lt_of_le hgl hBZ.size) (fun k hk=>(hBZ.cell (p:=⟨gp,k,none⟩) hgl).trans ((Lib.cell_of_heap hgph k).trans (hpc k hk))));rw [show ((2*im.vars.length:Nat):Int)=2*(im.vars.length:Int) by omega] at HIR;have HBZ:=hide hBZ;have HBYZ:Hid (Below Y.heap.size Y (wr.alloc (.cells #[.string (bstr im.leaves[i].1),.slice (some ⟨gp,0,none⟩) im.leaves[i].2.length cp] 102))):=hide (hbr.trans (hBZ.mono hsr));have hzs:wr.heap.size<=(wr.alloc (.cells #[.string (bstr im.leaves[i].1),.slice (some ⟨gp,0,none⟩) im.leaves[i].2.length cp] 102)).heap.size:=hBZ.size;generalize Mx.isRight im.leaves[i].2 im.leaves.length (2*im.vars.length)=ans at *;generalize bstr im.leaves[i].1=nm at *;generalize im.leaves[i].2=pg at *;clear hgh hc0 hc1 hgph hpc hc hT hBZ hZn hZI hbr hR hI hall y0 y1 y2 z0 z1 z2 f0 f1 f2;go_wp2_with fail;generalize wr.alloc (.cells #[.string nm,.slice (some ⟨gp,0,none⟩) pg.length cp] 102)=Z at *;refine HIR.out.mono ?_;rintro e w3 ⟨rfl,hb3⟩;have HB3:Hid (Below Y.heap.size Y w3):=hide (HBYZ.out.trans (hb3.mono (Nat.le_trans hsr hzs)));clear hb3 HIR
    cases ans with
    | true =>
     go_wp2_with fail
     go_roundg (im.leaves.length-(i+1))
     case measure=>omega
     case rel=>exact ⟨i+1,by omega,by go_num,HB3.out,HT.out⟩
    | false =>
     have hR3:=(HB3.out.block w.heap.size hwy).trans HYR.out;have z0:=Lib.cell_of_heap hR3 0;have z1:=Lib.cell_of_heap hR3 1;have z2:=Lib.cell_of_heap hR3 2;have f0:=Lib.frozen_of_heap hR3 0;have f1:=Lib.frozen_of_heap hR3 1;have f2:=Lib.frozen_of_heap hR3 2;have HLN:Hid (Mx.load bs=none):=hide (by rw [HL.out,HF.out rfl];rfl);have HW3:=hide (HWY.out.trans (HB3.out.mono HWY.out.size));clear hR3;go_wp2_with fail;refine bodyPost_ret (v:=.tuple #[.agg #[.slice none 0 0,.slice none 0 0,.int .i64 0],.bool false]) (by simp [results,Tryz.results59,go_sem, *]) rfl ?_;refine ⟨set3_below HW3.out _ _ _,?_⟩;rw [HLN.out]
   ·obtain rfl:i=im.leaves.length:=by omega
    have HLS:Hid (Mx.load bs=some im):=hide (by rw [List.take_length] at hall;rw [HL.out,hall];rfl);have HIMR:=hide (HIM.out.kept (Kp.ofBelow (F:=fun _=>False) hbr) (fun _ _ _ _ _ _ _=>id));clear hbr hR hI hall;go_wp2_with fail;refine bodyPost_ret (v:=.tuple #[.agg #[.slice av im.vars.length cv,.slice (some ⟨gl,0,none⟩) im.leaves.length cl,.int .i64 im.first],.bool true]) (by simp [results,Tryz.results59,go_sem, *]) rfl ?_;refine ⟨set3_below HWR.out _ _ _,?_⟩;rw [HLS.out];refine ⟨av,cv,_,cl,rfl,?_⟩;have hk:=set3_kp wr w.heap.size (.slice av im.vars.length cv) (.slice (some ⟨gl,0,none⟩) im.leaves.length cl) (.int .i64 im.first);refine (HIMR.out.kept hk (fun g cur T fr _ hg hT e=>?_)).mono (by simp;omega);subst e;rw [HR.out] at hg;simp only [Option.some.injEq,Obj.cells.injEq] at hg;rcases hT with e | e | e <;> rw [e] at hg <;> exact absurd hg.2.1 (by decide)
end
section
open Go.RowKit
theorem load_good {bs:List UInt8} {im:Mx.Img} (h:Mx.load bs=some im):im.Good:=by
 obtain ⟨h1,h2⟩:=Mx.load_ok h;exact ⟨h1,fun k hk=>by rw [Mx.Img.leaf_at hk];exact h2 _ (List.getElem_mem hk)⟩
def LoadR (bs:List UInt8) (w:World) (e:Ending) (w':World):Prop:=Below w.heap.size w w'/\match Mx.load bs with
 | none=>e=.returned (.tuple #[.pointer none,.bool false])
 | some im=>∃ M:MaP,M.im=im/\e=.returned (.tuple #[.pointer (some ⟨M.mb,0,none⟩),.bool true])/\MaM w' M ⟨im.first,none⟩ (.slice none 0 0)/\w.heap.size<=M.mb
theorem Load_any (w:World) (bs:List UInt8) (hs:bs.length<=maxLen) :
  Calls Tryz.prog 33 #[.string (bstr bs)] w fun e w'=>LoadR bs w e w':=by
 have HD:=hide (readRight_any w bs hs);have HG:=hide (fun im=>load_good (bs:=bs) (im:=im));unfold RRR at HD;unfold LoadR;generalize Mx.load bs=dq at *;go_enter Tryz.func33,Tryz.ntmps33;go_wp2_with fail;refine HD.out.mono ?_;rintro e w1 ⟨hb1,hm1⟩
 cases dq with
 | none =>
  obtain rfl:=hm1;have HB:=hide ((hb1.alloc hb1.size (.cells #[.slice none 0 0,.slice none 0 0,.int .i64 0] 106)));clear hb1 HD HG;go_wp2_with fail;refine bodyPost_ret (v:=.tuple #[.pointer none,.bool false]) (by simp [results,Tryz.results33,go_sem]) rfl ?_;exact ⟨HB.out,rfl⟩
 | some im =>
  obtain ⟨av,cv,al,cl,rfl,him⟩:=hm1;have hgd:=HG.out im rfl;have hBY:=below_a w1 (.cells #[.slice av im.vars.length cv,.slice al im.leaves.length cl,.int .i64 im.first] 106);have hYI:=heap_alloc_new w1 (.cells #[.slice av im.vars.length cv,.slice al im.leaves.length cl,.int .i64 im.first] 106);have y0:=Lib.cell_of_heap hYI 0;have y1:=Lib.cell_of_heap hYI 1;have y2:=Lib.cell_of_heap hYI 2;have HGD:=hide hgd;have HIM:=hide (him.below hBY);have HWY:=hide (hb1.alloc hb1.size (.cells #[.slice av im.vars.length cv,.slice al im.leaves.length cl,.int .i64 im.first] 106));have HSY:Hid ((w1.alloc (.cells #[.slice av im.vars.length cv,.slice al im.leaves.length cl,.int .i64 im.first] 106)).heap.size=w1.heap.size+1):=hide (by simp);have hs1:=hb1.size;clear hBY hYI hb1 him HD HG hgd;have hf:=HGD.out.ok.first;obtain ⟨Y,hY⟩ : ∃ Y,Y=w1.alloc (.cells #[.slice av im.vars.length cv,.slice al im.leaves.length cl,.int .i64 im.first] 106):=⟨_,rfl⟩;rw [<- hY] at HIM HWY HSY y0 y1 y2;obtain ⟨Z,hZ⟩ : ∃ Z,Z=Y.alloc (.cells #[.slice av im.vars.length cv,.slice al im.leaves.length cl,.int .i64 im.first,.int .i64 0,.slice none 0 0] 108):=⟨_,rfl⟩;have hZM:MaM Z ⟨w1.heap.size,w1.heap.size+1,av,cv,al,cl,im⟩ ⟨0,none⟩ (.slice none 0 0):=by
   refine ⟨?_,?_,Nat.le_succ _,by show 0<im.leaves.length;omega,.inl ⟨rfl,.inl rfl⟩,(fun _ e=>by cases e)⟩
   ·show Z.heap[w1.heap.size+1]? = _
    rw [hZ,<- HSY.out];exact heap_alloc_new Y _
   ·rw [hZ]
    exact HIM.out.below ((below_a Y _).mono (by rw [HSY.out];omega))
  have HRS:=hide (Reset_any Z ⟨w1.heap.size,w1.heap.size+1,av,cv,al,cl,im⟩ ⟨0,none⟩ (.slice none 0 0) hZM hf);have HBZ:Hid (Below w.heap.size w Z):=hide (by rw [hZ];exact HWY.out.alloc HWY.out.size _);have hsz:w1.heap.size+1<Z.heap.size:=hZM.lt;have HMB:=hide (show (w.heap.size<=w1.heap.size+1) by omega);clear hZM;go_wp2_with fail;rw [<- hY,<- hZ];clear hY hZ y0 y1 y2;refine HRS.out.mono ?_;rintro e w3 ⟨rfl,hm3,hk3⟩;have HM3:=hide hm3;have HB3:Hid (Below w.heap.size w w3):=hide (HBZ.out.trans (hk3.toBelow (fun k e=>by have e':k=w1.heap.size+1:=e;omega) (by omega)));clear hm3 hk3 HRS;go_wp2_with fail;refine bodyPost_ret (v:=.tuple #[.pointer (some ⟨w1.heap.size+1,0,none⟩),.bool true]) (by simp [results,Tryz.results33,go_sem]) rfl ?_;exact ⟨HB3.out,⟨w1.heap.size,w1.heap.size+1,av,cv,al,cl,im⟩,rfl,rfl,HM3.out,HMB.out⟩
end
section
def rightIm:Mx.Img:=(Mx.load (Cx.imageOf rightP.1 rightP.2)).getD ⟨[],[],0⟩
theorem right_some:(Mx.load (Cx.imageOf rightP.1 rightP.2)).isSome=true:=by kernel_rfl
theorem right_load:Mx.load (Cx.imageOf rightP.1 rightP.2)=some rightIm:=by
 unfold rightIm
 cases h:Mx.load (Cx.imageOf rightP.1 rightP.2) with
 | none=>have:=right_some;rw [h] at this;cases this
 | some im=>rfl
theorem right_first:rightIm.first=0:=by kernel_rfl
theorem right_low:(rightIm.leaf 0).1=[108,111,119]:=by kernel_rfl
theorem right_high:(rightIm.leaf 1).1=[104,105,103,104]:=by kernel_rfl
theorem right_step1:Mx.mstep rightIm ⟨0,none⟩ [6]=some ⟨1,some [6]⟩:=by kernel_rfl
theorem right_step2:Mx.mstep rightIm ⟨1,some [6]⟩ [3]=some ⟨1,some [3]⟩:=by kernel_rfl
theorem right_step3:Mx.mstep rightIm ⟨1,some [3]⟩ [10]=none:=by kernel_rfl
theorem right_size:(Cx.imageOf rightP.1 rightP.2).length<=1000:=by decide +kernel
end
section
open Go.RowKit
theorem machineR_any (w:World) (hsg:SignsIs w) (htab:∀ W,Below w.heap.size w W->Lib.TabIs Tryz.prog W "internal/strconv.uint64pow10" .u64 Lib.pow10Tab) :
  Calls Tryz.prog 29 #[.string ⟨rightL.toArray⟩] w fun e w'=>∃ M:MaP,e=.returned (.pointer (some ⟨M.mb,0,none⟩))/\M.im=rightIm/\MaM w' M ⟨0,none⟩ (.slice none 0 0)/\w.heap.size<=M.mb/\Below w.heap.size w w':=by
 have HC:=hide (compile_s ⟨rightL.toArray⟩ w (by unfold maxLen;decide +kernel) hsg htab);clear hsg htab;go_enter Tryz.func29,Tryz.ntmps29;go_wp2_with fail;refine HC.out.mono ?_;rintro e w1 ⟨img,code,line,nm,av,au,nv,cv,nu,cu,rfl,hc,hb⟩;obtain ⟨rfl,rfl,hi⟩:=comp_right hc;have hX1:=heap_alloc_new w1 (.cells #[.int .i64 0,.int .i64 ((0:Nat):Int),.string nm,.slice av nv cv,.slice au nu cu] 34);have hbX:=hb.alloc hb.size (.cells #[.int .i64 0,.int .i64 ((0:Nat):Int),.string nm,.slice av nv cv,.slice au nu cu] 34);have a0:=Lib.cell_of_heap hX1 0;have HB:=hide hbX;have HLD:=hide (Load_any (w1.alloc (.cells #[.int .i64 0,.int .i64 ((0:Nat):Int),.string nm,.slice av nv cv,.slice au nu cu] 34)) (Cx.imageOf rightP.1 rightP.2) (by have:=right_size;unfold maxLen;omega));unfold LoadR at HLD;rw [right_load] at HLD;have hi2:img=bstr (Cx.imageOf rightP.1 rightP.2):=hi;rw [<- hi2] at HLD;have hsz:=hb.size;clear hc hi hi2 hb hX1 hbX HC;go_wp2_with fail;generalize w1.alloc (.cells #[.int .i64 0,.int .i64 ((0:Nat):Int),.string nm,.slice av nv cv,.slice au nu cu] 34)=X at *;refine HLD.out.mono ?_;rintro e w2 ⟨hb2,M,hM,rfl,hm2,hmb⟩;have hs2:=HB.out.size;have HB2:=hide (HB.out.trans (hb2.mono HB.out.size));have HMB:Hid (w.heap.size<=M.mb):=hide (Nat.le_trans hs2 hmb);rw [right_first] at hm2;have HM2:=hide hm2;have HIM:=hide hM;clear hb2 hm2 hM hmb HLD;go_wp2_with fail;go_ret;exact ⟨M,rfl,HIM.out,HM2.out,HMB.out,HB2.out⟩
end
section
open Go.RowKit
theorem sl_one {W:World} {b:Nat} {x:Int} (h:W.heap[b]? = some (.cells #[.int .i64 x] 3 (0,0))):SlI W (some ⟨b,0,none⟩) [x]:=fun i hi=>by
 have:i=0:=by simpa using hi
 subst this;exact ⟨b,0,rfl,(Array.getElem?_eq_some_iff.1 h).1,Lib.cell_of_heap h 0⟩
theorem step_one (W:World) (M:MaP) (s:Mx.Mst) (vh:Value) (x:Int) (h:MaM W M s vh) (hG:M.im.Good) :
  Calls Tryz.prog 30 #[.pointer (some ⟨M.mb,0,none⟩),.slice (some ⟨W.heap.size,0,none⟩) 1 1] (W.alloc (.cells #[.int .i64 x] 3)) fun e w'=>Kp (fun k=>k=M.mb) W w'/\(match Mx.mstep M.im s [x] with
 | some s2=>e=.returned (.tuple #[.string (bstr (M.im.leaf s2.at_).1),.int .i64 0])/\∃ vh,MaM w' M s2 vh
 | none=>e=.returned (.tuple #[.string ⟨#[]⟩,.int .i64 8])/\∃ vh,MaM w' M s vh):=by
 have hl:=h.lt;refine (Step_any (W.alloc (.cells #[.int .i64 x] 3)) M s vh (some ⟨W.heap.size,0,none⟩) 1 [x] (h.kept (below_a W _)) hG (sl_one (heap_alloc_new W _)) (fun e=>by cases e) (fun _ g o e=>?_)).mono fun e w' hr=>⟨(Kp.ofBelow (below_a W _)).trans hr.1 (fun k h=>.inl h),hr.2⟩
 cases e
 omega
theorem awake_any (w:World) (hsg:SignsIs w) (htab:∀ W,Below w.heap.size w W->Lib.TabIs Tryz.prog W "internal/strconv.uint64pow10" .u64 Lib.pow10Tab) :
  Calls Tryz.prog 28 #[] w fun e w'=>e=.returned (.bool true)/\Below w.heap.size w w':=by
 have HM:=hide (machineR_any w hsg htab);clear hsg htab;go_enter Tryz.func28,Tryz.ntmps28;go_wp2_with fail;refine HM.out.mono ?_;rintro e w1 ⟨M,rfl,him,hm1,hmb,hb1⟩;have hG:M.im.Good:=by rw [him];exact load_good right_load
 have hml:=hm1.lt;have HMD:=hide (Mode_any w1 M ⟨0,none⟩ _ hm1 (hG.name 0));have HM1:=hide hm1;have HB1:=hide hb1;have HG:=hide hG;have HIM:=hide him;have hlow:bstr (M.im.leaf 0).1=⟨#[108,111,119]⟩:=by rw [him,right_low];rfl
 rw [hlow] at HMD;clear hlow hG hm1 hb1 HM him;go_wp2_with fail;refine HMD.out.mono ?_;rintro e w2 ⟨rfl,hb2⟩;have hm2:=HM1.out.kept hb2;have hl2:=hm2.lt;have HB2:=hide (HB1.out.trans (hb2.mono HB1.out.size));have HS1:=hide (step_one w2 M ⟨0,none⟩ _ 6 hm2 HG.out);rw [HIM.out,right_step1] at HS1;clear HMD hb2 HM1 HB1 hm2;go_wp2_with fail;refine HS1.out.mono ?_;rintro e w3 ⟨hk3,rfl,vh3,hm3⟩;have HK3:Hid (Kp (fun k=>k=M.mb) w2 w3):=hide hk3;have HS2:=hide (step_one w3 M ⟨1,some [6]⟩ vh3 3 hm3 HG.out);rw [HIM.out,right_step2] at HS2;have h31:bstr (rightIm.leaf 1).1=⟨#[104,105,103,104]⟩:=by rw [right_high];rfl
 simp only at HS2 |-;rw [h31] at HS2 |-;clear hk3 hm3 HS1;go_wp2_with fail;refine HS2.out.mono ?_;rintro e w4 ⟨hk4,rfl,vh4,hm4⟩;have HK4:Hid (Kp (fun k=>k=M.mb) w2 w4):=hide (HK3.out.trans hk4 (fun k h=>.inl h));have HS3:=hide (step_one w4 M ⟨1,some [3]⟩ vh4 10 hm4 HG.out);rw [HIM.out,right_step3] at HS3;clear hk4 hm4 HS2 HK3;go_wp2_with fail;refine HS3.out.mono ?_;rintro e w5 ⟨hk5,rfl,vh5,hm5⟩;have HK5:Hid (Below w.heap.size w w5):=hide (HB2.out.trans ((HK4.out.trans hk5 (fun k h=>.inl h)).toBelow (fun k e=>by have e':k=M.mb:=e;omega) HB2.out.size));clear hk5 hm5 HS3 HK4;go_wp2_with fail;go_ret;exact ⟨rfl,HK5.out⟩
end
section
open Go.ChangeShapes Go.WideShapes Go.ChangeAt Go.WideMaps Go.WideElems Go.RowKit
theorem own:ownKnob Tryz.prog.godebug=none:=by kernel_rfl
theorem gPow:Tryz.prog.globalNamed "internal/strconv.uint64pow10" = some 4:=by kernel_rfl
theorem tPow:(Tryz.prog.globals[4]?).map (·.type)=some 367:=by kernel_rfl
theorem gSigns:Tryz.prog.globalNamed "helm/token.signs" = some 0:=by kernel_rfl
theorem tSigns:(Tryz.prog.globals[0]?).map (·.type)=some 293:=by kernel_rfl
def laidL:List (String×DataW Unit):=[("math/bits.deBruijn32tab",Rows.laid_math_bits_deBruijn32tab),("math/bits.deBruijn64tab",Rows.laid_math_bits_deBruijn64tab),("internal/strconv.uint64pow10",Rows.laid_internal_strconv_uint64pow10),("strconv.ErrRange",Rows.laid_strconv_ErrRange),("strconv.ErrSyntax",Rows.laid_strconv_ErrSyntax),("helm/token.signs",Rows.laid_helm_token_signs)]
theorem cells_of_strs {H:Type} {enc:TypeId×Value->H} {P:Program} {w:World} {base:Nat} {sp:Nat->Bool} {held:Bool} {fuel:Nat} {t e:TypeId} {n:Nat} {cs:List Value} {zs:List (List UInt8)} {p:List MemPlace}
  (ht:P.underlying t=some (.array n e)) (he:P.underlying e=some .string) (hce:P.cellsOf e=1) (hct:P.cellsOf t=n)
  (h:DataW.trod enc P w base sp held fuel t cs=some (.agg (zs.map fun z=>.lit (.string z)),p)):cs=zs.map fun z=>Value.string ⟨z.toArray⟩:=by
 cases fuel with
 | zero=>simp [DataW.trod] at h
 | succ fuel =>
  simp only [DataW.trod,ht,hce,hct,Nat.mul_one] at h;split at h
  ·rename_i hl
   obtain ⟨xs,hm,hx⟩:=Option.map_eq_some_iff.1 h;have hxs:xs.map (·.1)=zs.map fun z=>(DataW.lit (.string z):DataW H):=by
    have:=congrArg Prod.fst hx;simpa using this
   have hxl:xs.length=n:=by simpa using Lib.mapM_length hm
   have hzl:zs.length=n:=by
    have:=congrArg List.length hxs;simp at this;omega
   apply List.ext_getElem?;intro i
   by_cases hi:i<n
   ·obtain ⟨b,hb,hf⟩:=Lib.mapM_at hm i i (by simp [hi])
    obtain ⟨z,hc,rfl,_⟩:=DataW.trod_string he hf;have h1:cs[i]? = some (.string z):=by
     have:=congrArg (·[0]?) hc;simpa [List.getElem?_take,List.getElem?_drop] using this
    have h2:(xs.map (·.1))[i]? = some (DataW.lit (.string z.data.toList):DataW H):=by simp [hb]
    rw [hxs] at h2;simp only [List.getElem?_map,Option.map_eq_some_iff,DataW.lit.injEq,Lit.string.injEq] at h2;obtain ⟨z',hz',hz2⟩:=h2;have e:(⟨z'.toArray⟩ : ByteArray)=z:=by rw [hz2]
    simp [h1,hz',e]
   ·rw [List.getElem?_eq_none (by omega),List.getElem?_eq_none (by simp;omega)]
  ·cases h
theorem of_laid {W:World} (h:laidMetH Tryz.prog laidL W):SignsIs W/\Lib.TabIs Tryz.prog W "internal/strconv.uint64pow10" .u64 Lib.pow10Tab:=by
 rw [MakeChecks.laidMetH_plain _ _ _ (by kernel_rfl)] at h;constructor
 ·obtain ⟨ps,⟨g,t,cs,fuel,p,q,hg,ht,hv,hd,_,_⟩,_⟩:=h.tail.tail.tail.tail.tail
  obtain rfl:=Option.some.inj (gSigns.symm.trans hg);obtain rfl:=Option.some.inj (tSigns.symm.trans ht);have hcs:cs.toList=[[46,46],[60,61],[61,61],[33,61],[62,61],[123],[125],[40],[41],[59],[60],[62]].map fun z=>Value.string ⟨z.toArray⟩ :=
   cells_of_strs Tryz.underlying293 Tryz.underlying9 (by kernel_rfl) (by kernel_rfl) hd
  have hcs2:cs=signsC:=by
   have:cs=cs.toList.toArray:=by simp
   rw [this,hcs];rfl
  simp only [World.var?,gSigns,Option.bind_some] at hv;split at hv
  ·rename_i cs' t' fr hh
   simp only [Option.some.injEq] at hv;exact ⟨t',fr,by rw [hh,hv,hcs2]⟩
  ·cases hv
 ·exact Lib.tabIs_of_head gPow tPow Tryz.underlying367 Tryz.underlying333 (by kernel_rfl) (by kernel_rfl) (rest:=[("strconv.ErrRange",Rows.laid_strconv_ErrRange),("strconv.ErrSyntax",Rows.laid_strconv_ErrSyntax),("helm/token.signs",Rows.laid_helm_token_signs)]) h.tail.tail
theorem tab_below {W:World} (h:Lib.TabIs Tryz.prog W "internal/strconv.uint64pow10" .u64 Lib.pow10Tab):∀ V,Below W.heap.size W V->Lib.TabIs Tryz.prog V "internal/strconv.uint64pow10" .u64 Lib.pow10Tab:=Lib.tabBelow_of_tabIs h
theorem door_met (os:Os) (args:Array Value):laidMetH Tryz.prog laidL ((World.doorLaid Tryz.prog 4000 os).forCall (fun _ _=>0) ⟨#[],args,[]⟩).memory :=
 laidMetH_of_parts3 (fuel:=8) (laidMet_of_run' 8 (by kernel_rfl) (by kernel_rfl)) (by kernel_rfl) (by kernel_rfl)
end
end Go.Proofs.YtdjaiolfdbamcaaGreatDoor
