/- What the tokens of a text keep to; how many steps the grammar takes; nothing of the program is asked here. -/
import Derived.Test.YtdjaiolfdbamcaaGreatDoorZPar
import Derived.Test.YtdjaiolfdbamcaaGreatDoorZWJoin
namespace Go.Proofs.YtdjaiolfdbamcaaGreatDoor
section
namespace Hx
theorem decN_blank (f:Nat):∀ n,32 ∉ decN f n:=by
 have hd:∀ n:Nat,UInt8.ofNat (48+n % 10)≠32:=by
  intro n e;have:n % 10<10:=Nat.mod_lt _ (by omega);have h2:=congrArg UInt8.toNat e;rw [UInt8.toNat_ofNat_of_lt' (by simp [UInt8.size];omega)] at h2;have:(32:UInt8).toNat=32:=rfl;omega
 induction f with
 | zero=>intro n h;simp only [decN,List.mem_singleton] at h;exact hd n h.symm
 | succ f ih =>
  intro n h;simp only [decN,List.mem_append,List.mem_singleton] at h;rcases h with h | h
  ·split at h
   ·exact ih _ h
   ·simp at h
  ·exact hd n h.symm
theorem decI_blank (n:Int):32 ∉ decI n:=by
 unfold decI;split
 ·intro h;rcases List.mem_cons.1 h with h | h
  ·cases h
  ·exact decN_blank _ _ h
 ·exact decN_blank _ _
theorem decI_len (n:Int):(decI n).length<=8:=by
 have:=decN_len 4 n.natAbs;unfold decI;split
 ·simp;omega
 ·omega
structure TP (line:Nat) (t:Tok):Prop where
 good:Good t
 txt:Txt t
 ok:TokOk t
 ne:t.k≠101
 at_:t.line=line
theorem span_pos {p:UInt8->Bool} {c:UInt8} {r:List UInt8} (h:p c=true):0<spanLen p (c::r):=by simp [spanLen,h]
theorem sign_in (l:List UInt8) (h:signLen l≠0):l.take (signLen l)∈sgs/\signLen l<=2/\signLen l<=l.length:=by
 match l with
 | []=>simp [signLen] at h
 | [a] =>
  simp only [signLen] at h |-;split
  ·rename_i h1
   refine ⟨?_,by omega,by simp⟩;simp only [Bool.or_eq_true,beq_iff_eq] at h1;rcases h1 with (((((h1 | h1) | h1) | h1) | h1) | h1) | h1 <;> subst h1 <;> decide
  ·rename_i h1;rw [if_neg h1] at h;exact absurd rfl h
 | a::b::r =>
  simp only [signLen] at h |-;split
  ·rename_i h1
   refine ⟨?_,by omega,by simp⟩;simp only [Bool.or_eq_true,Bool.and_eq_true,beq_iff_eq] at h1;rcases h1 with (((h1 | h1) | h1) | h1) | h1 <;> obtain ⟨h1,h2⟩:=h1 <;> subst h1 h2 <;> simp only [List.take_succ_cons,List.take_zero] <;> decide
  ·rename_i h0
   rw [if_neg h0] at h;split
   ·rename_i h1
    refine ⟨?_,by omega,by simp⟩;simp only [Bool.or_eq_true,beq_iff_eq] at h1;rcases h1 with (((((h1 | h1) | h1) | h1) | h1) | h1) | h1 <;> subst h1 <;> simp only [List.take_succ_cons,List.take_zero] <;> decide
   ·rename_i h1;rw [if_neg h1] at h;exact absurd rfl h
theorem sgs_blank:∀ s∈sgs,32 ∉ s:=by decide
theorem tokOf_ok (c:UInt8) (r:List UInt8) (line n:Nat) (t:Tok) (hline:line<=3001) (h:tokOf (c::r) line=some (n,t)):0<n/\n<=(c::r).length/\TP line t:=by
 unfold tokOf at h;simp only at h;generalize hmn:(if (c::r).head? = some 45 then 1 else 0)=mn at h;have hm1:mn<=1:=by rw [<- hmn];split <;> omega
 split at h
 ·rename_i hd
  split at h
  ·cases h
  ·rename_i h4
   simp only [Option.some.injEq,Prod.mk.injEq] at h;obtain ⟨rfl,rfl⟩:=h;have hle:=spanLen_le isDig ((c::r).drop mn);rw [List.length_drop] at hle;have hnum:=numOf_lt4 ⟨(c::r).toArray⟩ mn (spanLen isDig ((c::r).drop mn)) (by simp) (by omega);simp only at hnum;generalize numOf (((c::r).drop mn).take (spanLen isDig ((c::r).drop mn)))=v at *;have hv : -9999<=(if mn=1 then -v else v)/\(if mn=1 then -v else v)<=9999:=by split <;> omega
   generalize (if mn=1 then -v else v)=v' at *;have hsz:(⟨(decI v').toArray⟩ : ByteArray).size=(decI v').length:=by simp [ByteArray.size]
   refine ⟨by omega,by omega,⟨.inr (.inr (.inl rfl)),⟨fun h=>by simp at h,fun _=>⟨by rw [Lib.toList_data],hv.1,hv.2⟩⟩,⟨by rw [hsz];exact decI_len _,by simpa using decI_blank v',hv.1,hv.2,hline,by simp⟩,by simp,rfl⟩⟩
 ·split at h
  ·rename_i hlow
   split at h
   ·cases h
   ·rename_i h8
    simp only [Option.some.injEq,Prod.mk.injEq] at h;obtain ⟨rfl,rfl⟩:=h;have hlow':isLow c=true:=by simpa using hlow
    have hpos:=span_pos (r:=r) (nm_of_low hlow');have hle:=spanLen_le isNm (c::r);have hbl:32 ∉ (c::r).take (spanLen isNm (c::r)):=fun h=>by
     have:=span_take isNm _ 32 h;revert this;decide
    have hne:(c::r).take (spanLen isNm (c::r))≠[]:=by
     obtain ⟨q,hq⟩ : ∃ q,spanLen isNm (c::r)=q+1:=⟨spanLen isNm (c::r)-1,by omega⟩;rw [hq];simp
    have hln:((c::r).take (spanLen isNm (c::r))).length<=8:=by rw [List.length_take];omega
    generalize (c::r).take (spanLen isNm (c::r))=x at *;refine ⟨hpos,hle,?_⟩
    by_cases hw:wWords.contains x=true
    ·rw [if_pos hw]
     exact ⟨.inr (.inr (.inr (.inl ⟨rfl,by simpa using hw⟩))),⟨fun h=>by simp at h,fun h=>by simp at h⟩,⟨by simpa [ByteArray.size] using hln,by simpa using hbl,by simp,by simp,hline,by simp⟩,by simp,rfl⟩
    ·rw [if_neg hw]
     exact ⟨.inr (.inl rfl),⟨fun _=>by rw [Lib.toList_data];simpa using hne,fun h=>by simp at h⟩,⟨by simpa [ByteArray.size] using hln,by simpa using hbl,by simp,by simp,hline,by simp⟩,by simp,rfl⟩
  ·split at h
   ·cases h
   ·rename_i hs0
    simp only [Option.some.injEq,Prod.mk.injEq] at h;obtain ⟨rfl,rfl⟩:=h;obtain ⟨a1,a2,a3⟩:=sign_in (c::r) hs0;have hbl:=sgs_blank _ a1;have hln:((c::r).take (signLen (c::r))).length<=8:=by rw [List.length_take];omega
    exact ⟨by omega,a3,⟨.inr (.inr (.inr (.inr ⟨rfl,by simpa using a1⟩))),⟨fun h=>by simp at h,fun h=>by simp at h⟩,⟨by simpa [ByteArray.size] using hln,by simpa using hbl,by simp,by simp,hline,by simp⟩,by simp,rfl⟩⟩
theorem dropRem_len (l:List UInt8):(dropRem l).length<=l.length:=by
 induction l with
 | nil=>simp [dropRem]
 | cons c r ih=>simp only [dropRem];split <;> simp;omega
theorem lexF_ok (f:Nat):∀ (l:List UInt8) (line:Nat) (acc ts:List Tok),acc.length+l.length<=3000->line+l.length<=3001->1<=line->(∀ t∈acc,∃ ln,1<=ln/\TP ln t)->lexF f l line acc=.inr ts ->
  ∃ acc' line',ts=acc'++[endTok line']/\acc'.length<=3000/\line'<=3001/\1<=line'/\∀ t∈acc',∃ ln,1<=ln/\TP ln t:=by
 induction f with
 | zero=>intro l line acc ts _ _ _ _ h;simp [lexF] at h
 | succ f ih =>
  intro l line acc ts h1 h2 hp h3 h
  cases l with
  | nil =>
   simp only [lexF,Sum.inr.injEq] at h;exact ⟨acc,line,h.symm,by simpa using h1,by simpa using h2,hp,h3⟩
  | cons c r =>
   simp only [List.length_cons] at h1 h2;simp only [lexF] at h;split at h
   ·exact ih r (line+1) acc ts (by omega) (by omega) (by omega) h3 h
   ·split at h
    ·exact ih r line acc ts (by omega) (by omega) hp h3 h
    ·split at h
     ·have:=dropRem_len r
      exact ih _ line acc ts (by omega) (by omega) hp h3 h
     ·split at h
      ·cases h
      ·rename_i n t ht
       obtain ⟨a1,a2,a3⟩:=tokOf_ok c r line n t (by omega) ht;simp only [List.length_cons] at a2;refine ih _ line (acc++[t]) ts (by simp;omega) (by simp;omega) hp ?_ h;intro t' ht';rcases List.mem_append.1 ht' with h' | h'
       ·exact h3 t' h'
       ·rw [List.mem_singleton] at h';subst h';exact ⟨line,hp,a3⟩
theorem endTok_ok (line:Nat) (h:line<=3001):Good (endTok line)/\Txt (endTok line)/\TokOk (endTok line) :=
 ⟨.inl rfl,⟨fun h=>by simp [endTok] at h,fun h=>by simp [endTok] at h⟩,⟨by simp [endTok,ByteArray.size],by simp [endTok],by simp [endTok],by simp [endTok],h,by simp [endTok]⟩⟩
theorem lex_ok (l:List UInt8) (hl:l.length<=3000) (ts:List Tok) (h:lex l=.inr ts):TsOk ts/\(∀ t∈ts,TokOk t)/\0<ts.length/\(∀ t∈ts,1<=t.line)/\∃ acc line,ts=acc++[endTok line]/\∀ t∈acc,t.k≠101:=by
 obtain ⟨acc,line,rfl,h1,h2,hp,h3⟩:=lexF_ok _ l 1 [] ts (by simpa using hl) (by omega) (by omega) (by simp) h;obtain ⟨e1,e2,e3⟩:=endTok_ok line h2;have hall:∀ t∈acc++[endTok line],Good t/\Txt t/\TokOk t:=fun t ht=>by
  rcases List.mem_append.1 ht with h | h
  ·obtain ⟨_,_,a⟩:=h3 t h;exact ⟨a.good,a.txt,a.ok⟩
  ·rw [List.mem_singleton] at h;subst h;exact ⟨e1,e2,e3⟩
 have hpos:∀ t∈acc++[endTok line],1<=t.line:=fun t ht=>by
  rcases List.mem_append.1 ht with h | h
  ·obtain ⟨ln,h1,a⟩:=h3 t h;rw [a.at_];exact h1
  ·rw [List.mem_singleton] at h;subst h;exact hp
 refine ⟨⟨by simp;omega,fun i hi hk=>?_,fun t ht=>(hall t ht).1,fun t ht=>(hall t ht).2.1⟩,fun t ht=>(hall t ht).2.2,by simp,hpos,acc,line,rfl,fun t ht=>by obtain ⟨_,_,a⟩:=h3 t ht;exact a.ne⟩
 by_cases hlt:i<acc.length
 ·simp;omega
 ·exfalso
  apply hk;simp at hi;have:i=acc.length:=by omega
  subst this;simp [endTok]
theorem runF_mono (f:Nat):∀ st l R,runF f st l=some R->∀ k,runF (f+k) st l=some R:=by
 induction f with
 | zero=>intro st l R h;simp [runF] at h
 | succ f ih =>
  intro st l R h k;rw [show f+1+k=(f+k)+1 by omega]
  cases st with
  | nil=>simpa only [runF] using h
  | cons y rest =>
   cases l with
   | nil=>simp [runF] at h
   | cons t r =>
    simp only [runF] at h |-;split
    ·rename_i m hm;simp only [hm] at h;exact ih _ _ _ h k
    ·rename_i hm
     simp only [hm] at h;split
     ·rename_i hf;rw [if_pos hf] at h;exact ih _ _ _ h k
     ·rename_i hf;rw [if_neg hf] at h;exact h
theorem runF_le {f g:Nat} {st:List (List UInt8)} {l:List Tok} {R:Nat} (h:runF f st l=some R) (hle:f<=g):runF g st l=some R:=by
 obtain ⟨k,rfl⟩ : ∃ k,g=f+k:=⟨g-f,by omega⟩;exact runF_mono f _ _ _ h k
end Hx
end
section
namespace Hx
end Hx
end
end Go.Proofs.YtdjaiolfdbamcaaGreatDoor
