/- Walks of the scanner's smallest functions: each call returns what a plain function says. -/
import Derived.Test.YtdjaiolfdbamcaaGreatDoorZWRef2
import Derived.Test.YtdjaiolfdbamcaaGreatDoorZBase
import Derived.Test.YtdjaiolfdbamcaaGreatDoorShelf
import Derived.Deep.LoopGhost
import Derived.Deep.RegionHeld3
set_option maxRecDepth 20000
set_option maxHeartbeats 1000000
namespace Go.Proofs.YtdjaiolfdbamcaaGreatDoor
section
open Go.RowKit
theorem isLetter_any (c:UInt8) (w:World):Calls Tryz.prog 149 #[.int .u8 c.toNat] w fun e w'=>e=.returned (.bool (Hx.isLow c))/\w'=w:=by
 have HI:=hide (Hx.isLow_iff c);go_enter Tryz.func149,Tryz.ntmps149;go_wp2
 all_goals go_ret
 all_goals exact ⟨ret_bool (by rw [HI.out,Bool.eq_iff_iff];simp;try omega),rfl⟩
theorem isDigit_any (c:UInt8) (w:World):Calls Tryz.prog 151 #[.int .u8 c.toNat] w fun e w'=>e=.returned (.bool (Hx.isDig c))/\w'=w:=by
 have HI:=hide (Hx.isDig_iff c);go_enter Tryz.func151,Tryz.ntmps151;go_wp2
 all_goals go_ret
 all_goals exact ⟨ret_bool (by rw [HI.out,Bool.eq_iff_iff];simp;try omega),rfl⟩
theorem isNameByte_any (c:UInt8) (w:World):Calls Tryz.prog 191 #[.int .u8 c.toNat] w fun e w'=>e=.returned (.bool (Hx.isNm c))/\w'=w:=by
 cases h1:Hx.isLow c with
 | true =>
  have HN:=hide (show Hx.isNm c=true by simp [Hx.isNm,h1]);have H1:=hide h1;clear h1;go_enter Tryz.func191,Tryz.ntmps191;go_wp2_with fail;refine (isLetter_any c _).mono ?_;rintro e w' ⟨rfl,rfl⟩;rw [H1.out];go_wp2_with fail;go_ret;exact ⟨ret_bool HN.out.symm,rfl⟩
 | false =>
  have HN:=hide (show Hx.isNm c=Hx.isDig c by simp [Hx.isNm,h1]);have H1:=hide h1;clear h1;go_enter Tryz.func191,Tryz.ntmps191;go_wp2_with fail;refine (isLetter_any c _).mono ?_;rintro e w' ⟨rfl,rfl⟩;rw [H1.out];go_wp2_with fail;refine (isDigit_any c _).mono ?_;rintro e w' ⟨rfl,rfl⟩;go_wp2_with fail;go_ret;exact ⟨ret_bool HN.out.symm,rfl⟩
theorem word_yes {s:ByteArray} {y:List UInt8} (hy:y∈Hx.wWords) (h:(s.toList == y)=true):Hx.wWords.contains s.data.toList=true:=by
 rw [Lib.toList_data,beq_iff_eq] at h;rw [h];simpa using hy
theorem isWord_any (s:ByteArray) (w:World):Calls Tryz.prog 192 #[.string s] w fun e w'=>e=.returned (.bool (Hx.wWords.contains s.data.toList))/\w'=w:=by
 go_enter Tryz.func192,Tryz.ntmps192;go_wp2
 all_goals go_ret
 all_goals first
  | (exact (Bool.false_ne_true (‹(s.toList == [118,97,114])=false›.symm.trans ‹(s.toList == [118,97,114])=true›)).elim)
  | (exact (Bool.false_ne_true (‹(s.toList == [109,111,100,101])=false›.symm.trans ‹(s.toList == [109,111,100,101])=true›)).elim)
  | (exact (Bool.false_ne_true (‹(s.toList == [100,101,102,97,117,108,116])=false›.symm.trans ‹(s.toList == [100,101,102,97,117,108,116])=true›)).elim)
  | (exact (Bool.false_ne_true (‹(s.toList == [119,104,101,110])=false›.symm.trans ‹(s.toList == [119,104,101,110])=true›)).elim)
  | (exact (Bool.false_ne_true (‹(s.toList == [116,111])=false›.symm.trans ‹(s.toList == [116,111])=true›)).elim)
  | (exact (Bool.false_ne_true (‹(s.toList == [115,116,97,121])=false›.symm.trans ‹(s.toList == [115,116,97,121])=true›)).elim)
  | (exact (Bool.false_ne_true (‹(s.toList == [97,110,100])=false›.symm.trans ‹(s.toList == [97,110,100])=true›)).elim)
  | (exact (Bool.false_ne_true (‹(s.toList == [111,114])=false›.symm.trans ‹(s.toList == [111,114])=true›)).elim)
  | (exact (Bool.false_ne_true (‹(s.toList == [110,111,116])=false›.symm.trans ‹(s.toList == [110,111,116])=true›)).elim)
  | (exact (Bool.false_ne_true (‹(s.toList == [119,97,115])=false›.symm.trans ‹(s.toList == [119,97,115])=true›)).elim)
  | (exact (Bool.false_ne_true (‹(s.toList == [116,114,117,101])=false›.symm.trans ‹(s.toList == [116,114,117,101])=true›)).elim)
  | (exact ⟨ret_bool (word_yes (y:=[118,97,114]) (by decide) ‹(s.toList == [118,97,114])=true›).symm,rfl⟩)
  | (exact ⟨ret_bool (word_yes (y:=[109,111,100,101]) (by decide) ‹(s.toList == [109,111,100,101])=true›).symm,rfl⟩)
  | (exact ⟨ret_bool (word_yes (y:=[100,101,102,97,117,108,116]) (by decide) ‹(s.toList == [100,101,102,97,117,108,116])=true›).symm,rfl⟩)
  | (exact ⟨ret_bool (word_yes (y:=[119,104,101,110]) (by decide) ‹(s.toList == [119,104,101,110])=true›).symm,rfl⟩)
  | (exact ⟨ret_bool (word_yes (y:=[116,111]) (by decide) ‹(s.toList == [116,111])=true›).symm,rfl⟩)
  | (exact ⟨ret_bool (word_yes (y:=[115,116,97,121]) (by decide) ‹(s.toList == [115,116,97,121])=true›).symm,rfl⟩)
  | (exact ⟨ret_bool (word_yes (y:=[97,110,100]) (by decide) ‹(s.toList == [97,110,100])=true›).symm,rfl⟩)
  | (exact ⟨ret_bool (word_yes (y:=[111,114]) (by decide) ‹(s.toList == [111,114])=true›).symm,rfl⟩)
  | (exact ⟨ret_bool (word_yes (y:=[110,111,116]) (by decide) ‹(s.toList == [110,111,116])=true›).symm,rfl⟩)
  | (exact ⟨ret_bool (word_yes (y:=[119,97,115]) (by decide) ‹(s.toList == [119,97,115])=true›).symm,rfl⟩)
  | (exact ⟨ret_bool (word_yes (y:=[116,114,117,101]) (by decide) ‹(s.toList == [116,114,117,101])=true›).symm,rfl⟩)
  | (refine ⟨ret_bool ?_,rfl⟩;rw [<- Lib.toList_data];symm;simp only [Hx.wWords,List.contains_cons,List.contains_nil,Bool.or_false, *])
end
section
open Go.RowKit
theorem span_dig (s:ByteArray) (w:World) (hs:s.size<=3000) :
  Calls Tryz.prog 190 #[.string s,.func (.func 151) #[] #[]] w fun e w'=>e=.returned (.int .i64 (Hx.spanLen Hx.isDig s.data.toList))/\w'=w:=by
 go_enter Tryz.func190,Tryz.ntmps190;go_wp2_with fail
 go_loop [5] (fun n=>∃ k:Nat,k<=s.size/\n=.int .i64 k/\k+Hx.spanLen Hx.isDig (s.data.toList.drop k)=Hx.spanLen Hx.isDig s.data.toList) (fun n=>s.size-(intOf n).toNat)
 case atStart=>exact ⟨0,by omega,rfl,by simp⟩
 case round =>
  obtain ⟨k,hk,rfl,hh⟩:=hrel;have H:=hide hh;clear hh
  by_cases hlt:k<s.size
  ·cases hp:Hx.isDig s[k] with
   | true =>
    have HN:=hide (Hx.span_hit _ s k hlt hp);have HPP:=hide hp;clear hp;go_wp2_with fail;refine (isDigit_any _ _).mono ?_;rintro e w' ⟨rfl,rfl⟩;rw [HPP.out];go_wp2_with fail
    go_round
    case rel=>exact ⟨k+1,by omega,by go_num,by have:=H.out;rw [HN.out] at this;omega⟩
    case measure=>simp [intOf];omega
   | false =>
    have HN:=hide (Hx.span_miss _ s k hlt hp);have HPP:=hide hp;clear hp;go_wp2_with fail;refine (isDigit_any _ _).mono ?_;rintro e w' ⟨rfl,rfl⟩;rw [HPP.out];go_wp2_with fail;go_ret;exact ⟨ret_int (by have:=H.out;rw [HN.out] at this;omega),rfl⟩
  ·have HN:=hide (Hx.span_end Hx.isDig s k (by omega))
   go_wp2_with fail;go_ret;exact ⟨ret_int (by have:=H.out;rw [HN.out] at this;omega),rfl⟩
theorem span_nm (s:ByteArray) (w:World) (hs:s.size<=3000) :
  Calls Tryz.prog 190 #[.string s,.func (.func 191) #[] #[]] w fun e w'=>e=.returned (.int .i64 (Hx.spanLen Hx.isNm s.data.toList))/\w'=w:=by
 go_enter Tryz.func190,Tryz.ntmps190;go_wp2_with fail
 go_loop [5] (fun n=>∃ k:Nat,k<=s.size/\n=.int .i64 k/\k+Hx.spanLen Hx.isNm (s.data.toList.drop k)=Hx.spanLen Hx.isNm s.data.toList) (fun n=>s.size-(intOf n).toNat)
 case atStart=>exact ⟨0,by omega,rfl,by simp⟩
 case round =>
  obtain ⟨k,hk,rfl,hh⟩:=hrel;have H:=hide hh;clear hh
  by_cases hlt:k<s.size
  ·cases hp:Hx.isNm s[k] with
   | true =>
    have HN:=hide (Hx.span_hit _ s k hlt hp);have HPP:=hide hp;clear hp;go_wp2_with fail;refine (isNameByte_any _ _).mono ?_;rintro e w' ⟨rfl,rfl⟩;rw [HPP.out];go_wp2_with fail
    go_round
    case rel=>exact ⟨k+1,by omega,by go_num,by have:=H.out;rw [HN.out] at this;omega⟩
    case measure=>simp [intOf];omega
   | false =>
    have HN:=hide (Hx.span_miss _ s k hlt hp);have HPP:=hide hp;clear hp;go_wp2_with fail;refine (isNameByte_any _ _).mono ?_;rintro e w' ⟨rfl,rfl⟩;rw [HPP.out];go_wp2_with fail;go_ret;exact ⟨ret_int (by have:=H.out;rw [HN.out] at this;omega),rfl⟩
  ·have HN:=hide (Hx.span_end Hx.isNm s k (by omega))
   go_wp2_with fail;go_ret;exact ⟨ret_int (by have:=H.out;rw [HN.out] at this;omega),rfl⟩
end
section
open Go.RowKit
structure ScanIs (w:World) (b:Nat) (r:ByteArray) (line:Nat):Prop where
 rest:w.cell? ⟨b,0,none⟩=some (.string r)
 line:w.cell? ⟨b,1,none⟩=some (.int .i64 line)
 free0:w.frozen? ⟨b,0,none⟩=false
 free1:w.frozen? ⟨b,1,none⟩=false
 lies:b<w.heap.size
theorem ScanIs.set0 {w:World} {b:Nat} {r:ByteArray} {line:Nat} (h:ScanIs w b r line) (r':ByteArray):ScanIs (w.setCell ⟨b,0,none⟩ (.string r')) b r' line :=
 ⟨World.cell?_setCell_same' _ _ _ (by rw [h.rest];rfl),by rw [set_other _ _ _ _ (by simp)];exact h.line,by simpa using h.free0,by simpa using h.free1,by simpa [World.setCell] using h.lies⟩
theorem ScanIs.set1 {w:World} {b:Nat} {r:ByteArray} {line:Nat} (h:ScanIs w b r line) (l':Nat):ScanIs (w.setCell ⟨b,1,none⟩ (.int .i64 l')) b r l' :=
 ⟨by rw [set_other _ _ _ _ (by simp)];exact h.rest,World.cell?_setCell_same' _ _ _ (by rw [h.line];rfl),by simpa using h.free0,by simpa using h.free1,by simpa [World.setCell] using h.lies⟩
theorem cut_any (w:World) (b:Nat) (r:ByteArray) (line n:Nat) (h:ScanIs w b r line) (hn:n<=r.size) :
  Calls Tryz.prog 147 #[.pointer (some ⟨b,0,none⟩),.int .i64 n] w fun e w'=>e=.returned (.string (r.extract 0 n))/\w'=w.setCell ⟨b,0,none⟩ (.string (r.extract n r.size)):=by
 obtain ⟨c0,c1,f0,f1,hl⟩:=h;have hn':(n:Int)<=r.size:=by omega
 have hn0:(0:Int)<=n:=by omega
 go_enter Tryz.func147,Tryz.ntmps147;go_wp2;go_ret;exact ⟨rfl,rfl⟩
end
section
open Go.RowKit
theorem idx_rem (l:List UInt8):(Lib.indexByte l 10 = -1/\Hx.dropRem l=[])\/∃ o:Nat,Lib.indexByte l 10=o/\o<l.length/\Hx.dropRem l=l.drop o:=by
 induction l with
 | nil=>left;exact ⟨rfl,rfl⟩
 | cons c r ih =>
  simp only [Lib.indexByte,Hx.dropRem]
  by_cases h:c=10
  ·right;exact ⟨0,by simp [h],by simp,by simp [h]⟩
  ·have h':(c == 10)=false:=by simpa using h
   rw [h',if_neg h];rcases ih with ⟨h1,h2⟩ | ⟨o,h1,h2,h3⟩
   ·left;exact ⟨by simp [h1],h2⟩
   ·right
    refine ⟨o+1,?_,by simp;omega,by simpa using h3⟩;rw [h1];have:((o:Int) == -1)=false:=by rw [beq_eq_false_iff_ne];omega
    simp [this]
theorem skipRemark_any (w:World) (b:Nat) (r:ByteArray) (line:Nat) (h:ScanIs w b r line) :
  Calls Tryz.prog 148 #[.pointer (some ⟨b,0,none⟩)] w fun e w'=>e=.returned (.tuple #[])/\∃ r':ByteArray,r'.data.toList=Hx.dropRem r.data.toList/\w'=w.setCell ⟨b,0,none⟩ (.string r'):=by
 have HS:=hide h;obtain ⟨c0,c1,f0,f1,hl⟩:=h;have hten:(Int.toNat 10).toUInt8=10:=rfl;have HT:=hide hten;clear hten;rcases idx_rem r.data.toList with ⟨h1,h2⟩ | ⟨o,h1,h2,h3⟩
 ·have H1:=hide h1
  have H2:=hide h2;clear h1 h2;go_enter Tryz.func148,Tryz.ntmps148;go_wp2_with fail;refine (Tryz.strings_IndexByte _ _ _).mono ?_;rintro e w' ⟨rfl,rfl⟩;rw [HT.out,H1.out];go_wp2_with fail;refine (cut_any _ b r line r.size HS.out (Nat.le_refl _)).mono ?_;rintro e w' ⟨rfl,rfl⟩;go_wp2_with fail;go_end0;refine ⟨rfl,_,?_,rfl⟩;rw [H2.out];simp
 ·have H1:=hide h1
  have H3:=hide h3;have ho:o<=r.size:=by simp at h2;omega
  clear h1 h2 h3;go_enter Tryz.func148,Tryz.ntmps148;go_wp2_with fail;refine (Tryz.strings_IndexByte _ _ _).mono ?_;rintro e w' ⟨rfl,rfl⟩;rw [HT.out,H1.out];go_wp2_with fail;refine (cut_any _ b r line o HS.out ho).mono ?_;rintro e w' ⟨rfl,rfl⟩;go_wp2_with fail;go_end0;refine ⟨rfl,_,?_,rfl⟩;rw [H3.out,Lib.extract_data,List.take_of_length_le (by simp)]
def Sk (l:List UInt8) (line:Nat) (l':List UInt8) (line':Nat):Prop :=
 ∀ f acc,l.length<f->∃ f',l'.length<f'/\Hx.lexF f l line acc=Hx.lexF f' l' line' acc
theorem Sk.refl (l:List UInt8) (line:Nat):Sk l line l line:=fun f _ h=>⟨f,h,rfl⟩
theorem Sk.trans {l l1 l2:List UInt8} {n n1 n2:Nat} (h:Sk l n l1 n1) (k:Sk l1 n1 l2 n2):Sk l n l2 n2:=fun f acc hf=>by
 obtain ⟨f1,h1,e1⟩:=h f acc hf;obtain ⟨f2,h2,e2⟩:=k f1 acc h1;exact ⟨f2,h2,e1.trans e2⟩
theorem Sk.blank {c:UInt8} {l:List UInt8} {n:Nat} (h:c=32\/c=9):Sk (c::l) n l n:=fun f acc hf=>by
 obtain ⟨g,rfl⟩ : ∃ g,f=g+1:=⟨f-1,by simp at hf;omega⟩;have h1:¬ c=10:=by rcases h with rfl | rfl <;> decide
 exact ⟨g,by simp at hf;omega,by rw [Hx.lexF,if_neg h1,if_pos h]⟩
theorem Sk.lf {l:List UInt8} {n:Nat}:Sk (10::l) n l (n+1):=fun f acc hf=>by
 obtain ⟨g,rfl⟩ : ∃ g,f=g+1:=⟨f-1,by simp at hf;omega⟩;exact ⟨g,by simp at hf;omega,by rw [Hx.lexF,if_pos rfl]⟩
theorem dropRem_le (l:List UInt8):(Hx.dropRem l).length<=l.length:=by
 induction l with
 | nil=>simp [Hx.dropRem]
 | cons c r ih=>simp only [Hx.dropRem];split <;> simp <;> omega
theorem Sk.rem {l:List UInt8} {n:Nat}:Sk (35::l) n (Hx.dropRem (35::l)) n:=fun f acc hf=>by
 obtain ⟨g,rfl⟩ : ∃ g,f=g+1:=⟨f-1,by simp at hf;omega⟩;have e:Hx.dropRem (35::l)=Hx.dropRem l:=by rw [Hx.dropRem,if_neg (by decide)]
 have:=dropRem_le l;exact ⟨g,by rw [e];simp at hf;omega,by rw [e,Hx.lexF,if_neg (by decide),if_neg (by decide),if_pos rfl]⟩
def SkInv (w:World) (b:Nat) (r:ByteArray) (line k:Nat) (wr:World):Prop :=
 ∃ (r':ByteArray) (line':Nat),ScanIs wr b r' line'/\Kp (fun k=>k=b) w wr/\Sk r.data.toList line r'.data.toList line'/\r'.size<k/\r'.size<=r.size/\line'+r'.size<=line+r.size
def Bare (l:List UInt8):Prop:=∀ c r,l=c::r->¬ c=10/\¬ (c=32\/c=9)/\¬ c=35
theorem tail_data (r:ByteArray) (h:0<r.size):∃ l,r.data.toList=r[0]::l/\(r.extract 1 r.size).data.toList=l:=by
 refine ⟨r.data.toList.drop 1,?_,?_⟩
 ·have:=Hx.drop_one r 0 h;simpa using this
 ·rw [Lib.extract_data,List.take_of_length_le (by simp)]
theorem skipBlanks_any (w:World) (b:Nat) (r:ByteArray) (line:Nat) (h:ScanIs w b r line) (hr:r.size<=3000) (hline:line<=10000) :
  Calls Tryz.prog 101 #[.pointer (some ⟨b,0,none⟩)] w fun e w'=>e=.returned (.tuple #[])/\∃ (r':ByteArray) (line':Nat),ScanIs w' b r' line'/\Kp (fun k=>k=b) w w'/\Sk r.data.toList line r'.data.toList line'/\r'.size<=r.size/\line'+r'.size<=line+r.size/\Bare r'.data.toList:=by
 have H0:Hid (SkInv w b r line (r.size+1) w):=⟨r,line,h,Kp.refl _ _,Sk.refl _ _,by omega,by omega,by omega⟩;clear h;go_enter Tryz.func101,Tryz.ntmps101;go_wp2_with fail
 go_loopg [] (r.size+1) (fun k wr=>SkInv w b r line k wr)
 case atStart=>exact H0.out
 case round =>
  obtain ⟨q,n,hS,hK,hk,hq,hqr,hqn⟩:=hrel;clear H0;have HS:=hide hS;have HK:=hide hK;have HSk:=hide hk;obtain ⟨c0,c1,f0,f1,hl⟩:=hS;clear hK hk
  by_cases h0:q.size=0
  ·have e0:(q.toList == [])=true:=by rw [Lib.toList_data];simp;exact Array.eq_empty_of_size_eq_zero h0
   have e0':(q.toList != [])=false:=by simp [bne,e0]
   have HB:=hide (show Bare q.data.toList from fun c r e=>by have:=congrArg List.length e;simp at this;omega);clear h0;go_wp2_with fail;go_end0;exact ⟨rfl,q,n,HS.out,HK.out,HSk.out,hqr,hqn,HB.out⟩
  ·have hpos:0<q.size:=by omega
   have e0:(q.toList == [])=false:=by rw [Lib.toList_data,beq_eq_false_iff_ne];intro e;have h2:=Lib.size_eq q;rw [e] at h2;simp only [List.length_nil] at h2;omega
   have e0':(q.toList != [])=true:=by simp [bne,e0]
   obtain ⟨tl,t1,t2⟩:=tail_data q hpos;have HQ:=hide (And.intro t1 t2);clear t1 t2 h0
   by_cases k32:q[0]=32
   ·have c32:=Hx.byte_yes (m:=32) rfl k32
    have HC:=hide k32;clear k32;go_wp2_with fail;refine (cut_any _ b q n 1 HS.out (by omega)).mono ?_;rintro e w1 ⟨rfl,rfl⟩;go_wp2_with fail
    go_roundg (q.size)
    case measure=>omega
    case rel=>exact ⟨q.extract 1 q.size,n,HS.out.set0 _,HK.out.setCell (.inl rfl) _,HSk.out.trans (by rw [HQ.out.1,HQ.out.2];exact Sk.blank (.inl HC.out)),by simp;omega,by simp;omega,by simp;omega⟩
   ·have c32:=Hx.byte_no (m:=32) rfl k32
    have H32:=hide k32;clear k32
    by_cases k9:q[0]=9
    ·have c9:=Hx.byte_yes (m:=9) rfl k9
     have HC:=hide k9;clear k9;go_wp2_with fail;refine (cut_any _ b q n 1 HS.out (by omega)).mono ?_;rintro e w1 ⟨rfl,rfl⟩;go_wp2_with fail
     go_roundg (q.size)
     case measure=>omega
     case rel=>exact ⟨q.extract 1 q.size,n,HS.out.set0 _,HK.out.setCell (.inl rfl) _,HSk.out.trans (by rw [HQ.out.1,HQ.out.2];exact Sk.blank (.inr HC.out)),by simp;omega,by simp;omega,by simp;omega⟩
    ·have c9:=Hx.byte_no (m:=9) rfl k9
     have H9:=hide k9;clear k9
     by_cases k10:q[0]=10
     ·have c10:=Hx.byte_yes (m:=10) rfl k10
      have HC:=hide k10;clear k10;go_wp2_with fail;refine (cut_any _ b q n 1 HS.out (by omega)).mono ?_;rintro e w1 ⟨rfl,rfl⟩;have HS1:=hide (HS.out.set0 (q.extract 1 q.size));obtain ⟨d0,d1,g0,g1,hl1⟩:=HS1.out;go_wp2_with fail
      go_roundg (q.size)
      case measure=>omega
      case rel=>exact ⟨q.extract 1 q.size,n+1,by have:=HS1.out.set1 (n+1);exact this,(HK.out.setCell (.inl rfl) _).setCell (.inl rfl) _,HSk.out.trans (by rw [HQ.out.1,HQ.out.2,HC.out];exact Sk.lf),by simp;omega,by simp;omega,by simp;omega⟩
     ·have c10:=Hx.byte_no (m:=10) rfl k10
      have H10:=hide k10;clear k10
      by_cases k35:q[0]=35
      ·have c35:=Hx.byte_yes (m:=35) rfl k35
       have HC:=hide k35;clear k35;go_wp2_with fail;refine (skipRemark_any _ b q n HS.out).mono ?_;rintro e w1 ⟨rfl,r1,hr1,rfl⟩;have hle:r1.size<q.size:=by
        have e1:r1.data.toList.length=(Hx.dropRem q.data.toList).length:=by rw [hr1]
        rw [HQ.out.1,HC.out,Hx.dropRem,if_neg (by decide)] at e1;have e2:=dropRem_le tl;have e3:q.data.toList.length=tl.length+1:=by rw [HQ.out.1];rfl
        simp at e1 e3;omega
       have HR1:=hide hr1;clear hr1;go_wp2_with fail
       go_roundg (q.size)
       case measure=>omega
       case rel=>exact ⟨r1,n,HS.out.set0 _,HK.out.setCell (.inl rfl) _,HSk.out.trans (by rw [HR1.out,HQ.out.1,HC.out];exact Sk.rem),by omega,by omega,by omega⟩
      ·have c35:=Hx.byte_no (m:=35) rfl k35
       have HB:=hide (show Bare q.data.toList from fun c r e=>by
        rw [HQ.out.1] at e
        cases e
        exact ⟨H10.out,fun h=>h.elim H32.out H9.out,k35⟩)
       clear k35;go_wp2_with fail;refine bodyPost_ret (results_none rfl _ _ _) rfl ?_;exact ⟨rfl,q,n,HS.out,HK.out,HSk.out,hqr,hqn,HB.out⟩
end
section
open Go.RowKit
def kindA (k:Nat):Int:=if k=101 then 0 else if k=110 then 1 else if k=105 then 2 else 3
def aggA (t:Hx.Tok):Value:=.agg #[.int .i64 (kindA t.k),.string t.s,.int .i64 t.n,.int .i64 t.line]
def zeroA:Value:=.agg #[.int .i64 0,.string ⟨#[]⟩,.int .i64 0,.int .i64 0]
def TakeR (w:World) (b:Nat) (q:ByteArray) (line:Nat) (e:Ending) (w':World):Prop :=
 Kp (fun k=>k=b) w w'/\match Hx.tokOf q.data.toList line with
  | none=>e=.returned (.tuple #[zeroA,.bool false])/\ScanIs w' b q line
  | some (n,t)=>e=.returned (.tuple #[aggA t,.bool true])/\ScanIs w' b (q.extract n q.size) line/\0<n/\n<=q.size
theorem ScanIs.below {w w':World} {b:Nat} {r:ByteArray} {line:Nat} (h:ScanIs w b r line) (hb:Below w.heap.size w w'):ScanIs w' b r line :=
 ⟨(hb.cell h.lies).trans h.rest,(hb.cell h.lies).trans h.line,(hb.frozen h.lies).trans h.free0,(hb.frozen h.lies).trans h.free1,Nat.lt_of_lt_of_le h.lies hb.size⟩
namespace Hx
theorem word_none (q:ByteArray) (h0:0<q.size) (hlow:isLow q[0]=true):(∃ hi:0<q.size,(¬ q[0]=45)/\97<=(q[0].toNat:Int)/\(q[0].toNat:Int)<=122)/\spanLen isDig (q.data.toList.drop (0+0))=0:=by
 rw [isLow_iff] at hlow;simp at hlow;refine ⟨⟨h0,fun e=>by rw [e] at hlow;revert hlow;decide,by omega,by omega⟩,span_miss isDig q 0 h0 (dig_no (by omega))⟩
theorem word_long (q:ByteArray) (n line:Nat) (h0:0<q.size) (hlow:isLow q[0]=true) (hn:spanLen isNm q.data.toList=n) (n8:8<n):tokOf q.data.toList line=none :=
 tok_name_long q 0 n line (word_none q h0 hlow).1 (word_none q h0 hlow).2 hn n8
theorem word_take (q:ByteArray) (n line:Nat) (h0:0<q.size) (hlow:isLow q[0]=true) (hn:spanLen isNm q.data.toList=n) (n8:¬ 8<n) :
  tokOf q.data.toList line=some (n,⟨if wWords.contains (q.extract 0 n).data.toList then 119 else 110,q.extract 0 n,0,line⟩):=by
 cases hw:wWords.contains (q.extract 0 n).data.toList with
 | true=>have:=tok_name_119 q 0 n line (word_none q h0 hlow).1 (word_none q h0 hlow).2 hn n8 (by simpa using hw);simpa using this
 | false=>have:=tok_name_110 q 0 n line (word_none q h0 hlow).1 (word_none q h0 hlow).2 hn n8 (by simpa using hw);simpa using this
end Hx
theorem takeWord_any (w:World) (b:Nat) (q:ByteArray) (line:Nat) (h:ScanIs w b q line) (hq:q.size<=3000) (h0:0<q.size) (hlow:Hx.isLow q[0]=true) :
  Calls Tryz.prog 150 #[.pointer (some ⟨b,0,none⟩)] w fun e w'=>TakeR w b q line e w':=by
 have HS:=hide h;obtain ⟨c0,c1,f0,f1,hl⟩:=h;go_enter Tryz.func150,Tryz.ntmps150;go_wp2_with fail;refine (span_nm q _ hq).mono ?_;rintro e w1 ⟨rfl,rfl⟩;generalize hn:Hx.spanLen Hx.isNm q.data.toList=n;have HN:=hide hn;have hnl:n<=q.size:=by have:=Hx.spanLen_le Hx.isNm q.data.toList;rw [hn] at this;simpa using this
 clear hn;have hq0:q.data.toList.drop 0=q.data.toList:=rfl
 by_cases n8:8<n
 ·have HT:=hide (Hx.word_long q n line h0 hlow HN.out n8)
  go_wp2_with fail;refine bodyPost_ret (v:=.tuple #[zeroA,.bool false]) (by simp [results,Tryz.results150,go_sem,zeroA]) rfl ?_;refine ⟨(Kp.refl _ _).alloc _,?_⟩;rw [HT.out];exact ⟨rfl,HS.out.below ((Below.refl _ _).alloc (Nat.le_refl _) _)⟩
 ·have hwn:=Hx.word_take q n line h0 hlow HN.out n8
  have HW:=hide hwn;clear hwn;have hn0:0<n:=by
   rw [<- HN.out];have:=Hx.span_hit Hx.isNm q 0 h0 (Hx.nm_of_low hlow);simp only [List.drop_zero] at this;omega
  have hL1:∀ o,((w.setCell ⟨b,0,none⟩ (.string (q.extract n q.size))).alloc o).cell? ⟨b,1,none⟩=some (.int .i64 line):=fun o=>((HS.out.set0 _).below ((Below.refl _ _).alloc (Nat.le_refl _) o)).line
  have hL2:∀ o o',(((w.setCell ⟨b,0,none⟩ (.string (q.extract n q.size))).alloc o).alloc o').cell? ⟨b,1,none⟩=some (.int .i64 line):=fun o o'=>((HS.out.set0 _).below (((Below.refl _ _).alloc (Nat.le_refl _) o).alloc (by simp) o')).line
  go_wp2_with fail
  go_region_held3 (fun W=>W.cell? ⟨b,1,none⟩=some (.int .i64 line)) (first | go_keep | (simp;assumption))
   ((go_at_call 147;refine (cut_any _ b q line n ?_ hnl).mono ?_;(first | exact HS.out.below ((Below.refl _ _).alloc (Nat.le_refl _) _).drew | exact HS.out.below (((Below.refl _ _).alloc (Nat.le_refl _) _).alloc (by simp) _).drew);rintro e w1 ⟨rfl,rfl⟩))
  all_goals
   go_wp2_with fail;refine (isWord_any _ _).mono ?_;rintro e w1 ⟨rfl,rfl⟩
   cases hw:Hx.wWords.contains (q.extract 0 n).data.toList with
   | true =>
    have HX:=hide (show Hx.tokOf q.data.toList line=some (n,⟨119,q.extract 0 n,0,line⟩) by rw [HW.out,hw];rfl);clear hw;go_wp2_with fail;refine bodyPost_ret (v:=.tuple #[.agg #[.int .i64 3,.string (q.extract 0 n),.int .i64 0,.int .i64 line],.bool true]) (by simp [results,Tryz.results150,go_sem]) rfl ?_;refine ⟨((((Kp.refl (fun k=>k=b) w).setCell (p:=⟨b,0,none⟩) (.inl rfl) _).alloc _).alloc _).drew,?_⟩;rw [HX.out];exact ⟨rfl,(HS.out.set0 _).below ((((Below.refl _ _).alloc (Nat.le_refl _) _).alloc (by simp) _).drew),hn0,hnl⟩
   | false =>
    have HX:=hide (show Hx.tokOf q.data.toList line=some (n,⟨110,q.extract 0 n,0,line⟩) by rw [HW.out,hw];rfl);clear hw;go_wp2_with fail;refine bodyPost_ret (v:=.tuple #[.agg #[.int .i64 1,.string (q.extract 0 n),.int .i64 0,.int .i64 line],.bool true]) (by simp [results,Tryz.results150,go_sem]) rfl ?_;refine ⟨((((Kp.refl (fun k=>k=b) w).setCell (p:=⟨b,0,none⟩) (.inl rfl) _).alloc _).alloc _).drew,?_⟩;rw [HX.out];exact ⟨rfl,(HS.out.set0 _).below ((((Below.refl _ _).alloc (Nat.le_refl _) _).alloc (by simp) _).drew),hn0,hnl⟩
end
end Go.Proofs.YtdjaiolfdbamcaaGreatDoor
