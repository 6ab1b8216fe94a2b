/- Walks of a token's Is and of what stands between two tokens. -/
import Derived.Test.YtdjaiolfdbamcaaGreatDoorZWScan1
import Derived.Test.YtdjaiolfdbamcaaGreatDoorZWRef2
import Derived.Test.YtdjaiolfdbamcaaGreatDoorZBase
import Derived.Shelf.Strings.Builder1
import Derived.Test.YtdjaiolfdbamcaaGreatDoorShelf
import Derived.Deep.RegionHeld3
import Derived.Deep.CutRange
import Derived.Laws.Tables
import Derived.Lib.Atoi
import Derived.Lib.ItoaNum
set_option maxRecDepth 20000
set_option maxHeartbeats 1000000
namespace Go.Proofs.YtdjaiolfdbamcaaGreatDoor
section
open Go.RowKit
def isMark (t:Hx.Tok) (m:List UInt8):Bool:=(kindA t.k == 3) && (t.s.toList == m)
theorem is_any (t:Hx.Tok) (m:ByteArray) (w:World) :
  Calls Tryz.prog 110 #[aggA t,.string m] w fun e w'=>e=.returned (.bool (isMark t m.toList))/\Below w.heap.size w w':=by
 unfold aggA isMark;generalize kindA t.k=k
 cases hk:(k == 3) with
 | true =>
  go_enter Tryz.func110,Tryz.ntmps110;go_wp2;go_ret;exact ⟨ret_bool (by simp),(Below.refl _ _).alloc (Nat.le_refl _) _⟩
 | false =>
  go_enter Tryz.func110,Tryz.ntmps110;go_wp2;go_ret;exact ⟨ret_bool (by simp),(Below.refl _ _).alloc (Nat.le_refl _) _⟩
end
section
open Go.RowKit
theorem Tryz.infoByte:(Tryz.prog.info? 5).map (fun i=>(i.zero,i.size,i.bytes))=some (some (.int .u8 0),1,1):=by kernel_rfl
end
section
open Go.RowKit
def TokMemA (w:World) (gt:Nat) (ts:List Hx.Tok):Prop:=∀ i (hi:i<ts.length),
 w.cell? ⟨gt,i*4,none⟩=some (.int .i64 (kindA ts[i].k))/\w.cell? ⟨gt,i*4+1,none⟩=some (.string ts[i].s)/\w.cell? ⟨gt,i*4+2,none⟩=some (.int .i64 ts[i].n)/\w.cell? ⟨gt,i*4+3,none⟩=some (.int .i64 ts[i].line)
end
section
end
section
namespace Hx
theorem decN_digits (f:Nat):∀ n,n<10 ^ (f+1)->decN f n=Lib.decDigits n:=by
 induction f with
 | zero =>
  intro n h;have h':n<10:=by simpa using h
  rw [Lib.decDigits,dif_pos h',decN,Nat.mod_eq_of_lt h']
 | succ f ih =>
  intro n h;rw [Lib.decDigits,decN]
  by_cases hn:n<10
  ·rw [dif_pos hn,if_neg (by omega),Nat.mod_eq_of_lt hn];rfl
  ·rw [dif_neg hn,if_pos (by omega),ih _ (by rw [Nat.pow_succ] at h;omega)]
theorem decI_itoa (n:Int) (h0 : -9999<=n) (h1:n<=9999):decI n=Lib.itoa n:=by
 unfold decI Lib.itoa;split
 ·rw [decN_digits 4 _ (by omega)]
 ·rw [decN_digits 4 _ (by omega),show n.natAbs=n.toNat by omega]
theorem dec_all (l:List UInt8):∀ (acc:Nat),(∀ c∈l,isDig c=true)->∃ m:Nat,Lib.decFrom acc l=some m/\(m:Int)=l.foldl (fun a c=>10*a+(c.toNat:Int)-48) (acc:Int)/\(m:Int)<(acc+1)*10 ^ l.length:=by
 induction l with
 | nil=>intro acc _;exact ⟨acc,rfl,rfl,by simp;omega⟩
 | cons c r ih =>
  intro acc h;have hc:48<=c.toNat/\c.toNat<=57:=by
   have:=h c (by simp);simp only [isDig,Bool.and_eq_true,decide_eq_true_eq,UInt8.le_iff_toNat_le] at this;exact this
  obtain ⟨m,h1,h2,h3⟩:=ih (acc*10+(c.toNat-48)) (fun x hx=>h x (by simp [hx]));refine ⟨m,?_,?_,?_⟩
  ·simp only [Lib.decFrom,Lib.digitVal,if_pos hc];exact h1
  ·rw [h2,List.foldl_cons];congr 1;omega
  ·refine Int.lt_of_lt_of_le h3 ?_
   rw [List.length_cons,Int.pow_succ,Int.mul_comm ((10:Int) ^ r.length) 10,<- Int.mul_assoc];exact Int.mul_le_mul_of_nonneg_right (by omega) (Int.le_of_lt (Int.pow_pos (by omega)))
theorem span_mem (p:UInt8->Bool) (l:List UInt8):∀ c∈l.take (spanLen p l),p c=true:=by
 induction l with
 | nil=>simp
 | cons a r ih =>
  intro c hc
  cases ha:p a with
  | false=>simp [spanLen,ha] at hc
  | true =>
   simp only [spanLen,ha,if_true,List.take_succ_cons,List.mem_cons] at hc;rcases hc with rfl | hc
   ·exact ha
   ·exact ih c hc
theorem atoi_digits (l:List UInt8) (d:Nat) (hd:spanLen isDig l=d) (h0:0<d) (h4:¬ 4<d) :
  Lib.atoi (l.take d)=some (numOf (l.take d))/\Lib.atoi (45::l.take d)=some (-numOf (l.take d))/\0<=numOf (l.take d)/\numOf (l.take d)<=9999:=by
 subst hd;have hall:=span_mem isDig l;have hle:=spanLen_le isDig l;have hlen:(l.take (spanLen isDig l)).length=spanLen isDig l:=by rw [List.length_take];omega
 generalize l.take (spanLen isDig l)=t at *;obtain ⟨m,h1,h2,h3⟩:=dec_all t 0 hall;have hm:numOf t=m:=h2.symm;have hp:((0:Nat)+1:Int)*10 ^ t.length<=10000:=by
  rw [hlen];generalize spanLen isDig l=d at *
  match d with
  | 0 | 1 | 2 | 3 | 4=>decide
  | d+5=>omega
 cases t with
 | nil=>simp at hlen;omega
 | cons c r =>
  have hc:48<=c.toNat/\c.toNat<=57:=by
   have:=hall c (by simp);simp only [isDig,Bool.and_eq_true,decide_eq_true_eq,UInt8.le_iff_toNat_le] at this;exact this
  have n1:(c == 45)=false:=by rw [beq_eq_false_iff_ne];rintro rfl;exact absurd hc.1 (by decide)
  have n2:(c == 43)=false:=by rw [beq_eq_false_iff_ne];rintro rfl;exact absurd hc.1 (by decide)
  have hn:Lib.decNat (c::r)=some m:=by rw [Lib.decNat];exact h1
  refine ⟨?_,?_,by omega,by omega⟩
  ·simp only [Lib.atoi,n1,n2]
   rw [hn,hm];rfl
  ·simp only [Lib.atoi,beq_self_eq_true,if_true]
   rw [hn,hm];rfl
end Hx
end
end Go.Proofs.YtdjaiolfdbamcaaGreatDoor
