/- Walks of the scanner's takeSign: the signs, the longer ones first. -/
import Derived.Test.YtdjaiolfdbamcaaGreatDoorZWScan1
import Derived.Test.YtdjaiolfdbamcaaGreatDoorZWJoin
import Derived.Test.YtdjaiolfdbamcaaGreatDoorShelf
import Derived.Deep.RegionHeld3
import Derived.Lib.Strings
set_option maxRecDepth 20000
set_option maxHeartbeats 400000
namespace Go.Proofs.YtdjaiolfdbamcaaGreatDoor
open Go.RowKit
namespace Hx
def sgs:List (List UInt8):=[[46,46],[60,61],[61,61],[33,61],[62,61],[123],[125],[40],[41],[59],[60],[62]]
def findSign:List (List UInt8)->List UInt8->Nat
 | [],_=>0
 | p::r,l=>if Lib.hasPrefix l p then p.length else findSign r l
theorem fl (a c:UInt8):(a == c)=(c == a):=BEq.comm
theorem find_nil:findSign sgs []=signLen []:=by decide
theorem find_one (a:UInt8):findSign sgs [a]=signLen [a]:=by
 simp only [findSign,sgs,Lib.hasPrefix,List.isPrefixOf,signLen];simp only [Bool.and_false,Bool.and_true,Bool.false_eq_true,if_false,fl a]
 by_cases h1:((123:UInt8) == a)=true
 ·simp [h1]
 by_cases h2:((125:UInt8) == a)=true
 ·simp [h1,h2]
 by_cases h3:((40:UInt8) == a)=true
 ·simp [h1,h2,h3]
 by_cases h4:((41:UInt8) == a)=true
 ·simp [h1,h2,h3,h4]
 by_cases h5:((59:UInt8) == a)=true
 ·simp [h1,h2,h3,h4,h5]
 by_cases h6:((60:UInt8) == a)=true
 ·simp [h1,h2,h3,h4,h5,h6]
 by_cases h7:((62:UInt8) == a)=true
 ·simp [h1,h2,h3,h4,h5,h6,h7]
 simp [h1,h2,h3,h4,h5,h6,h7]
theorem find_two (a b:UInt8) (r:List UInt8):findSign sgs (a::b::r)=signLen (a::b::r):=by
 simp only [findSign,sgs,Lib.hasPrefix,List.isPrefixOf,signLen];simp only [Bool.and_true,fl a,fl b]
 by_cases g1:((46:UInt8) == a && (46:UInt8) == b)=true
 ·simp only [g1,Bool.true_or,if_true];rfl
 by_cases g2:((60:UInt8) == a && (61:UInt8) == b)=true
 ·simp only [g1,g2,Bool.true_or,Bool.or_true,Bool.false_eq_true,if_true,if_false];rfl
 by_cases g3:((61:UInt8) == a && (61:UInt8) == b)=true
 ·simp only [g1,g2,g3,Bool.true_or,Bool.or_true,Bool.false_eq_true,if_true,if_false];rfl
 by_cases g4:((33:UInt8) == a && (61:UInt8) == b)=true
 ·simp only [g1,g2,g3,g4,Bool.true_or,Bool.or_true,Bool.false_eq_true,if_true,if_false];rfl
 by_cases g5:((62:UInt8) == a && (61:UInt8) == b)=true
 ·simp only [g1,g2,g3,g4,g5,Bool.or_true,Bool.false_eq_true,if_true,if_false];rfl
 simp only [g1,g2,g3,g4,g5,Bool.or_false,Bool.false_eq_true,if_false];have:=find_one a;simp only [findSign,sgs,Lib.hasPrefix,List.isPrefixOf,signLen] at this;simp only [Bool.and_false,Bool.and_true,Bool.false_eq_true,if_false,fl a] at this;exact this
theorem find_sign (l:List UInt8):findSign sgs l=signLen l:=by
 rcases l with _ | ⟨a,_ | ⟨b,r⟩⟩
 ·exact find_nil
 ·exact find_one a
 ·exact find_two a b r
theorem sgs_len:sgs.length=12:=rfl
theorem find_hit (l:List UInt8) (k:Nat) (hk:k<sgs.length) (e:Lib.hasPrefix l sgs[k]=true):findSign (sgs.drop k) l=sgs[k].length:=by
 rw [List.drop_eq_getElem_cons hk,findSign,if_pos e]
theorem find_miss (l:List UInt8) (k:Nat) (hk:k<sgs.length) (e:Lib.hasPrefix l sgs[k]=false):findSign (sgs.drop k) l=findSign (sgs.drop (k+1)) l:=by
 rw [List.drop_eq_getElem_cons hk,findSign,if_neg (by simp [e])]
theorem find_done (l:List UInt8) (k:Nat) (hk:sgs.length<=k):findSign (sgs.drop k) l=0:=by
 rw [List.drop_of_length_le hk,findSign]
theorem prefix_le (l p:List UInt8) (h:Lib.hasPrefix l p=true):p.length<=l.length:=by
 obtain ⟨t,rfl⟩:=List.isPrefixOf_iff_prefix.1 h;simp
end Hx
def signsC:Array Value:=#[.string ⟨#[46,46]⟩,.string ⟨#[60,61]⟩,.string ⟨#[61,61]⟩,.string ⟨#[33,61]⟩,.string ⟨#[62,61]⟩,.string ⟨#[123]⟩,.string ⟨#[125]⟩,.string ⟨#[40]⟩,.string ⟨#[41]⟩,.string ⟨#[59]⟩,.string ⟨#[60]⟩,.string ⟨#[62]⟩]
def SignsIs (w:World):Prop:=∃ t fr,w.heap[0]? = some (.cells signsC t fr)
theorem cell_set4 {w:World} {b g j:Nat} {v c0 c1 c2 c3:Value} (hn:b≠g) (h:w.cell? ⟨b,j,none⟩=some v) :
  ((((w.setCell ⟨g,0,none⟩ c0).setCell ⟨g,1,none⟩ c1).setCell ⟨g,2,none⟩ c2).setCell ⟨g,3,none⟩ c3).cell? ⟨b,j,none⟩=some v:=by
 rw [World.cell?_setCell_other,World.cell?_setCell_other,World.cell?_setCell_other,World.cell?_setCell_other]
 ·exact h
 all_goals (intro e;exact hn (by cases e;rfl))
theorem sgs_pos (k:Nat) (h:k<Hx.sgs.length):0<(⟨Hx.sgs[k].toArray⟩ : ByteArray).size:=by
 have:k<12:=h;rcases k with _ | _ | _ | _ | _ | _ | _ | _ | _ | _ | _ | _ | k
 all_goals first | omega | (simp [Hx.sgs,ByteArray.size])
theorem index_at (W:World) (k:Nat) (hk:k<Hx.sgs.length):(Instr.index 293 (.agg signsC) (.int .i64 k)).run Tryz.prog W=.ok (.string ⟨Hx.sgs[k].toArray⟩) W:=by
 have:k<12:=hk;unfold signsC;rcases k with _ | _ | _ | _ | _ | _ | _ | _ | _ | _ | _ | _ | k
 all_goals first | omega | simp [go_sem,Instr.index,Hx.sgs]
namespace Hx
theorem sign_tok (q:ByteArray) (line:Nat) (h0:0<q.size) (hm:¬ q[0]=45) (hl:isLow q[0]=false) (hd:isDig q[0]=false) :
  tokOf q.data.toList line=if signLen q.data.toList=0 then none else some (signLen q.data.toList,⟨115,q.extract 0 (signLen q.data.toList),0,line⟩):=by
 have hl':¬ (97<=(q[0].toNat:Int)/\(q[0].toNat:Int)<=122):=by
  have:=isLow_iff q[0];rw [hl] at this;simp at this;omega
 have hs:=span_miss isDig q 0 h0 hd
 by_cases hn:signLen q.data.toList=0
 ·rw [if_pos hn];exact tok_sign0_none q 0 line ⟨h0,hm,hl'⟩ hs hn
 ·rw [if_neg hn];have:=tok_sign0 q 0 _ line ⟨h0,hm,hl'⟩ hs rfl hn;simpa using this
end Hx
theorem takeSign_any (w:World) (b:Nat) (q:ByteArray) (line:Nat) (h:ScanIs w b q line) (h0:0<q.size) (hm:¬ q[0]=45) (hlo:Hx.isLow q[0]=false) (hdi:Hx.isDig q[0]=false) (hsg:SignsIs w) :
  Calls Tryz.prog 153 #[.pointer (some ⟨b,0,none⟩)] w fun e w'=>TakeR w b q line e w':=by
 have HS:=hide h;have HT:=hide (Hx.sign_tok q line h0 hm hlo hdi);have HF:=hide (Hx.find_sign q.data.toList);clear hm hlo hdi;obtain ⟨tg,fr,hg⟩:=hsg;have hgs:0<w.heap.size:=(Array.getElem?_eq_some_iff.1 hg).1;have s0:w.cell? ⟨0,0,none⟩=some (.string ⟨#[46,46]⟩):=Lib.cell_of_heap hg 0;have s1:w.cell? ⟨0,1,none⟩=some (.string ⟨#[60,61]⟩):=Lib.cell_of_heap hg 1;have s2:w.cell? ⟨0,2,none⟩=some (.string ⟨#[61,61]⟩):=Lib.cell_of_heap hg 2;have s3:w.cell? ⟨0,3,none⟩=some (.string ⟨#[33,61]⟩):=Lib.cell_of_heap hg 3;have s4:w.cell? ⟨0,4,none⟩=some (.string ⟨#[62,61]⟩):=Lib.cell_of_heap hg 4;have s5:w.cell? ⟨0,5,none⟩=some (.string ⟨#[123]⟩):=Lib.cell_of_heap hg 5;have s6:w.cell? ⟨0,6,none⟩=some (.string ⟨#[125]⟩):=Lib.cell_of_heap hg 6;have s7:w.cell? ⟨0,7,none⟩=some (.string ⟨#[40]⟩):=Lib.cell_of_heap hg 7;have s8:w.cell? ⟨0,8,none⟩=some (.string ⟨#[41]⟩):=Lib.cell_of_heap hg 8;have s9:w.cell? ⟨0,9,none⟩=some (.string ⟨#[59]⟩):=Lib.cell_of_heap hg 9;have s10:w.cell? ⟨0,10,none⟩=some (.string ⟨#[60]⟩):=Lib.cell_of_heap hg 10;have s11:w.cell? ⟨0,11,none⟩=some (.string ⟨#[62]⟩):=Lib.cell_of_heap hg 11;have HG:=hide hg;clear hg;obtain ⟨c0,c1,f0,f1,hl⟩:=h;go_enter Tryz.func153,Tryz.ntmps153;go_wp2_with fail
 go_loop [7] (fun n=>∃ k:Nat,k<=12/\n=.int .i64 k/\Hx.findSign (Hx.sgs.drop k) q.data.toList=Hx.signLen q.data.toList) (fun n=>12-(intOf n).toNat)
 case atStart=>exact ⟨0,by omega,rfl,HF.out⟩
 case round =>
  obtain ⟨k,hk,rfl,hh⟩:=hrel;clear s0 s1 s2 s3 s4 s5 s6 s7 s8 s9 s10 s11;have H:=hide hh;clear hh
  by_cases hlt:k<12
  ·have hki:(k:Int)<12:=by omega
   have hk0:(0:Int)<=k:=by omega
   have hix:=fun W=>index_at W k hlt
   obtain ⟨sk,hsk⟩ : ∃ sk:ByteArray,sk=⟨Hx.sgs[k].toArray⟩:=⟨_,rfl⟩;rw [<- hsk] at hix;have HK:=hide hsk;clear hsk;simp only [signsC] at hix;go_wp2_with fail;clear hix;refine (Tryz.strings_HasPrefix q sk _).mono ?_;rintro e w1 ⟨rfl,rfl⟩
   cases hp:Lib.hasPrefix q.data.toList sk.data.toList with
   | false =>
    go_wp2_with fail
    go_round
    case rel=>exact ⟨k+1,by omega,by go_num,by rw [<- H.out,Hx.find_miss _ k hlt (by rw [HK.out] at hp;simpa using hp)]⟩
    case measure=>simp [intOf];omega
   | true =>
    have hsz:sk.size<=q.size:=by have:=Hx.prefix_le _ _ hp;simpa using this
    have HE:Hid (sk.size=Hx.signLen q.data.toList):=hide (by rw [<- H.out,Hx.find_hit _ k hlt (by rw [HK.out] at hp;simpa using hp),HK.out];simp [ByteArray.size]);have hs0:0<sk.size:=by rw [HK.out];exact sgs_pos k hlt
    have hne:b≠w.heap.size:=by omega
    have hL:∀ o,((w.setCell ⟨b,0,none⟩ (.string (q.extract sk.size q.size))).alloc o).drew.cell? ⟨b,1,none⟩=some (.int .i64 line):=fun o=>((HS.out.set0 _).below ((Below.refl _ _).alloc (Nat.le_refl _) o)).line
    go_wp2_with fail
    go_region_held3 (fun W=>W.cell? ⟨b,1,none⟩=some (.int .i64 line)) (first | with_reducible exact hL _ | with_reducible exact cell_set4 hne (hL _) | go_keep)
     ((go_at_call 147;refine (cut_any _ b q line sk.size ?_ hsz).mono ?_;exact HS.out.below ((Below.refl _ _).alloc (Nat.le_refl _) _).drew;rintro e w1 ⟨rfl,rfl⟩))
    go_wp2_with fail;refine bodyPost_ret (v:=.tuple #[.agg #[.int .i64 3,.string (q.extract 0 sk.size),.int .i64 0,.int .i64 line],.bool true]) (by simp [results,Tryz.results153,go_sem]) rfl ?_;refine ⟨(((Kp.refl (fun k=>k=b) w).setCell (p:=⟨b,0,none⟩) (.inl rfl) _).alloc _).drew,?_⟩;rw [HT.out,<- HE.out,if_neg (by omega)];exact ⟨rfl,(HS.out.set0 _).below (((Below.refl _ _).alloc (Nat.le_refl _) _).drew),hs0,hsz⟩
  ·have HZ:Hid (Hx.signLen q.data.toList=0):=hide (by rw [<- H.out];exact Hx.find_done _ k (by rw [Hx.sgs_len];omega))
   go_wp2_with fail;refine bodyPost_ret (v:=.tuple #[zeroA,.bool false]) (by simp [results,Tryz.results153,go_sem,zeroA]) rfl ?_;refine ⟨(Kp.refl _ _).alloc _,?_⟩;rw [HT.out,if_pos HZ.out];exact ⟨rfl,HS.out.below ((Below.refl _ _).alloc (Nat.le_refl _) _)⟩
end Go.Proofs.YtdjaiolfdbamcaaGreatDoor
