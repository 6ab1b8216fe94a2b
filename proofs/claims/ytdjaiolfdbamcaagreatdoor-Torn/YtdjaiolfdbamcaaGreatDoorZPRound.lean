/- The walk of the program's Print. -/
import Derived.Test.YtdjaiolfdbamcaaGreatDoorZWRead1
import Derived.Test.YtdjaiolfdbamcaaGreatDoorZLexOk
import Derived.Test.YtdjaiolfdbamcaaGreatDoorZBase
import Derived.Test.YtdjaiolfdbamcaaGreatDoorZWPar11
import Derived.Test.YtdjaiolfdbamcaaGreatDoorZCFind
import Derived.Test.YtdjaiolfdbamcaaGreatDoorZWCE7
import Derived.KernelRfl
namespace Go.Proofs.YtdjaiolfdbamcaaGreatDoor
section
open Go.RowKit
end
section
namespace Hx
end Hx
end
section
namespace Hx
end Hx
open Hx
end
section
namespace Hx
theorem mark_other {t:Tok} {m m':List UInt8} (h:isMark t m=true) (hn:m≠m'):isMark t m'=false:=by
 unfold isMark at h |-;simp only [Bool.and_eq_true,beq_iff_eq] at h;rw [h.2];simp [hn]
theorem mark_kind {t:Tok} {m:List UInt8} (h:kindA t.k≠3):isMark t m=false:=by
 unfold isMark;rw [beq_eq_false_iff_ne.2 h];rfl
instance (t:Tok):Decidable (Txt t):=decidable_of_iff ((t.k=110->t.s.data.toList≠[])/\(t.k=105->t.s.data.toList=decI t.n /\ -9999<=t.n/\t.n<=9999)) (by unfold Txt;rw [Lib.toList_data])
def wasB:Option Tok->Bool
 | none=>true
 | some t=>t.k == 119 && t.s.data.toList == ywas
theorem wasB_iff (w:Option Tok):wasB w=true↔∀ t,w=some t->t.k=119/\t.s.toList=ywas:=by
 cases w with
 | none=>simp [wasB]
 | some t=>simp [wasB,Lib.toList_data]
instance (w:Option Tok) (n o i:Tok):Decidable (AtomOk w n o i):=decidable_of_iff (wasB w=true/\n.k=110/\o.k=115/\i.k=105/\Txt i)
 ⟨fun h=>⟨(wasB_iff w).1 h.1,h.2.1,h.2.2.1,h.2.2.2.1,h.2.2.2.2⟩,fun h=>⟨(wasB_iff w).2 h.was,h.nm,h.op,h.num,h.txt⟩⟩
def atomG (w:Option Tok) (n o i:Tok) (r:List Tok):Option (G×List Tok):=if h:AtomOk w n o i then some (.atom w n o i h,r) else none
def pG:Nat->Nat->G->List Tok->Option (G×List Tok)
 | 0,_,_,_=>none
 | f+1,0,_,l=>match l with
  | []=>none
  | t::r=>if isMark t ytrue=true then some (.tru,r)
   else if isMark t ynot=true then (match pG f 0 .tru r with | some (g,r')=>some (.not g,r') | none=>none)
   else if isMark t yLp=true then (match pG f 4 .tru r with | some (g,p::r')=>if isMark p yRp=true then some (.group t g,r') else none | _=>none)
   else (match r with
    | o::i::r'=>if t.k=110 then atomG none t o i r' else (match r' with | x::r2=>atomG (some t) o i x r2 | []=>none)
    | _=>none)
 | f+1,1,g,l=>match l with
  | []=>none
  | a::m=>if isMark a yand=true then (match pG f 0 .tru m with | some (h,l')=>pG f 1 (.and g h) l' | none=>none) else some (g,a::m)
 | f+1,2,_,l=>match pG f 0 .tru l with | some (g,l')=>pG f 1 g l' | none=>none
 | f+1,3,g,l=>match l with
  | []=>none
  | a::m=>if isMark a yor=true then (match pG f 2 .tru m with | some (h,l')=>pG f 3 (.or g h) l' | none=>none) else some (g,a::m)
 | f+1,_+4,_,l=>match pG f 2 .tru l with | some (g,l')=>pG f 3 g l' | none=>none
def EvG (lv:Nat) (a:G) (l:List Tok) (R:G×List Tok):Prop:=∃ f0,∀ f,f0<=f->pG f lv a l=some R
theorem up {f0 f:Nat} (h:f0+1<=f):∃ k,f=k+1/\f0<=k:=⟨f-1,by omega,by omega⟩
theorem up2 {f0 f1 f:Nat} (h:f0+f1+1<=f):∃ k,f=k+1/\f0<=k/\f1<=k:=⟨f-1,by omega,by omega,by omega⟩
def DerE (lv:Nat) (l:List Tok) (g:G) (l':List Tok):Prop:=match lv with
 | 0=>EvG 0 .tru l (g,l')
 | 1=>∀ R,EvG 1 g l' R->EvG 2 .tru l R
 | 2=>EvG 2 .tru l (g,l')
 | 3=>∀ R,EvG 3 g l' R->EvG 4 .tru l R
 | _=>EvG 4 .tru l (g,l')
theorem der_ev {lv:Nat} {l l':List Tok} {g:G} (h:Der lv l g l'):DerE lv l g l':=by
 induction h with
 | tru h=>exact ⟨1,fun f hf=>by obtain ⟨k,rfl,_⟩:=up hf;simp only [pG,h,if_true]⟩
 | not h _ ih =>
  obtain ⟨f0,e⟩:=ih;refine ⟨f0+1,fun f hf=>?_⟩;obtain ⟨k,rfl,hk⟩:=up hf;have h1:=mark_other h (m':=ytrue) (by decide);simp only [pG,h,h1,Bool.false_eq_true,if_false,if_true,e k hk]
 | group h _ hp ih =>
  obtain ⟨f0,e⟩:=ih;refine ⟨f0+1,fun f hf=>?_⟩;obtain ⟨k,rfl,hk⟩:=up hf;have h1:=mark_other h (m':=ytrue) (by decide);have h2:=mark_other h (m':=ynot) (by decide);simp only [pG,h,h1,h2,Bool.false_eq_true,if_false,if_true,e k hk,hp]
 | atom0 ok =>
  refine ⟨1,fun f hf=>?_⟩;obtain ⟨k,rfl,hk⟩:=up hf;rename_i n0 o0 i0 r0;have hk3:kindA n0.k≠3:=by rw [ok.nm];decide
  simp only [pG,mark_kind hk3,Bool.false_eq_true,if_false,ok.nm,if_true,atomG];rw [dif_pos ok]
 | atom1 ok =>
  refine ⟨1,fun f hf=>?_⟩;obtain ⟨k,rfl,hk⟩:=up hf;rename_i w0 n0 o0 i0 r0;have hw:=ok.was _ rfl;have hm:∀ m,ywas≠m->isMark w0 m=false:=fun m hm=>mark_other (m:=ywas) (by unfold isMark;rw [hw.1,hw.2];decide) hm
  have hn:¬ w0.k=110:=fun e=>by rw [hw.1] at e;cases e
  simp only [pG,hm ytrue (by decide),hm ynot (by decide),hm yLp (by decide),Bool.false_eq_true,if_false,hn,atomG];rw [dif_pos ok]
 | c0 _ ih =>
  rintro R ⟨f1,e1⟩;obtain ⟨f0,e⟩:=ih;refine ⟨f0+f1+1,fun f hf=>?_⟩;obtain ⟨k,rfl,hk,hk1⟩:=up2 hf;simp only [pG,e k hk,e1 k hk1]
 | c1 _ ha _ ih ih2 =>
  rintro R ⟨f1,e1⟩;refine ih R ?_;obtain ⟨f0,e⟩:=ih2;refine ⟨f0+f1+1,fun f hf=>?_⟩;obtain ⟨k,rfl,hk,hk1⟩:=up2 hf;simp only [pG,ha,if_true,e k hk,e1 k hk1]
 | c2 _ ha ih =>
  refine ih _ ⟨1,fun f hf=>?_⟩;obtain ⟨k,rfl,hk⟩:=up hf;simp only [pG,ha,Bool.false_eq_true,if_false]
 | g0 _ ih =>
  rintro R ⟨f1,e1⟩;obtain ⟨f0,e⟩:=ih;refine ⟨f0+f1+1,fun f hf=>?_⟩;obtain ⟨k,rfl,hk,hk1⟩:=up2 hf;simp only [pG,e k hk,e1 k hk1]
 | g1 _ ha _ ih ih2 =>
  rintro R ⟨f1,e1⟩;refine ih R ?_;obtain ⟨f0,e⟩:=ih2;refine ⟨f0+f1+1,fun f hf=>?_⟩;obtain ⟨k,rfl,hk,hk1⟩:=up2 hf;simp only [pG,ha,if_true,e k hk,e1 k hk1]
 | g2 _ ha ih =>
  refine ih _ ⟨1,fun f hf=>?_⟩;obtain ⟨k,rfl,hk⟩:=up hf;simp only [pG,ha,Bool.false_eq_true,if_false]
def destB:Option Tok->Bool
 | none=>true
 | some a=>!a.s.data.toList.isEmpty
theorem destB_ok {d:Option Tok} (h:destB d=true):∀ a,d=some a->a.s.toList≠[]:=by
 intro a e;subst e;rw [Lib.toList_data];intro hz;simp [destB,hz] at h
theorem destB_of {d:Option Tok} (h:∀ a,d=some a->a.s.toList≠[]):destB d=true:=by
 cases d with
 | none=>rfl
 | some a =>
  have:=h a rfl;rw [Lib.toList_data] at this;simp only [destB,Bool.not_eq_true']
  cases hz:a.s.data.toList with
  | nil=>exact absurd hz this
  | cons _ _=>rfl
def mkRow (wh:Tok) (g:G) (dest:Option Tok):Option RowA:=if h:destB dest=true/\g.deep<=3001 then some ⟨wh,g,dest,destB_ok h.1,h.2⟩ else none
theorem mkRow_of (r:RowA):mkRow r.wh r.g r.dest=some r:=by
 unfold mkRow;rw [dif_pos ⟨destB_of r.ok,r.deep⟩]
def pR:Nat->List RowA->List Tok->Option (List RowA×List Tok)
 | 0,_,_=>none
 | f+1,acc,l=>match l with
  | []=>none
  | t::l1=>if isMark t ywhen=true then (match pG f 4 .tru l1 with
    | some (g,d::e::r)=>if isMark d ystay=true then (match mkRow t g none with | some x=>pR f (acc++[x]) r | none=>none)
      else (match r with | _::r'=>(match mkRow t g (some e) with | some x=>pR f (acc++[x]) r' | none=>none) | []=>none)
    | _=>none)
   else some (acc,t::l1)
def EvR (a:List RowA) (l:List Tok) (R:List RowA×List Tok):Prop:=∃ f0,∀ f,f0<=f->pR f a l=some R
theorem row_ev {l l':List Tok} {r:RowA} (h:RowD l r l') {acc:List RowA} {R:List RowA×List Tok} (k:EvR (acc++[r]) l' R):EvR acc l R:=by
 obtain ⟨l1,l2,rfl,hw,hd,hdest⟩:=h;obtain ⟨f0,e0⟩:=der_ev hd;obtain ⟨f1,e1⟩:=k;refine ⟨f0+f1+1,fun f hf=>?_⟩;obtain ⟨k,rfl,hk,hk1⟩:=up2 hf;have hm:=mkRow_of r;rcases hdest with ⟨t,sc,rfl,h1,h2,h3⟩ | ⟨t,a,sc,rfl,h1,h2,h3,h4⟩
 ·rw [h3] at hm
  simp only [pR,hw,if_true,e0 k hk,h1,hm,e1 k hk1]
 ·rw [h4] at hm
  have h5:=mark_other h1 (m':=ystay) (by decide);simp only [pR,hw,if_true,e0 k hk,h5,Bool.false_eq_true,if_false,hm,e1 k hk1]
theorem rows_ev {l l':List Tok} {rs:List RowA} (h:RowsD l rs l'):∀ R,EvR rs l' R->EvR [] l R:=by
 induction h with
 | nil=>exact fun R h=>h
 | snoc _ k ih=>exact fun R h=>ih R (row_ev k h)
def pM:Nat->Bool->List MA->List Tok->Int->Bool->Nat->Nat->Option (List MA×List Tok)
 | 0,_,_,_,_,_,_,_=>none
 | f+1,false,_,l,o,df,d,n=>match l with
  | _::nm::_::l1=>(match pR f [] l1 with
   | some (rs,l2)=>(match pM f true [] l2 n false (d+1) (n+1) with
    | some (ext,_::l')=>some (⟨nm,df,d,o,rs⟩::ext,l')
    | _=>none)
   | none=>none)
  | _=>none
 | f+1,true,ext,l,o,_,d,n=>match l with
  | []=>none
  | t::m=>if isMark t ydefault=true then (match pM f false [] m o true d (n+ext.length) with | some (ex,l')=>pM f true (ext++ex) l' o false d n | none=>none)
   else if isMark t ymode=true then (match pM f false [] (t::m) o false d (n+ext.length) with | some (ex,l')=>pM f true (ext++ex) l' o false d n | none=>none)
   else some (ext,t::m)
def EvM (b:Bool) (a:List MA) (l:List Tok) (o:Int) (df:Bool) (d n:Nat) (R:List MA×List Tok):Prop:=∃ f0,∀ f,f0<=f->pM f b a l o df d n=some R
def MDE (b:Bool) (l:List Tok) (o:Int) (df:Bool) (d n:Nat) (ms:List MA) (l':List Tok):Prop:=match b with
 | false=>EvM false [] l o df d n (ms,l')
 | true=>∀ R,EvM true ms l' o false d n R->EvM true [] l o false d n R
theorem md_ev {b:Bool} {l l':List Tok} {o:Int} {df:Bool} {d n:Nat} {ms:List MA} (h:MD b l o df d n ms l'):MDE b l o df d n ms l':=by
 induction h with
 | none l o d n=>exact fun R h=>h
 | dear _ ht _ ih ih2 =>
  rintro R ⟨f1,e1⟩;refine ih R ?_;obtain ⟨f0,e⟩:=ih2;refine ⟨f0+f1+1,fun f hf=>?_⟩;obtain ⟨k,rfl,hk,hk1⟩:=up2 hf;simp only [pM,ht,if_true,e k hk,e1 k hk1]
 | more _ ht hm _ ih ih2 =>
  rintro R ⟨f1,e1⟩;refine ih R ?_;obtain ⟨f0,e⟩:=ih2;refine ⟨f0+f1+1,fun f hf=>?_⟩;obtain ⟨k,rfl,hk,hk1⟩:=up2 hf;simp only [pM,ht,hm,Bool.false_eq_true,if_false,if_true,e k hk,e1 k hk1]
 | mode ht hn hl hr h2 _ hb ih =>
  rename_i rb t2 l1 l2 l9 o2 df2 d2 n2 rs ext _;have hx:=rows_ev hr (rs,t2::l2) ⟨1,fun f hf=>by obtain ⟨k,rfl,_⟩:=up hf;simp only [pR,h2,Bool.false_eq_true,if_false]⟩
  have hy:=ih (ext,rb::l9) ⟨1,fun f hf=>by
   obtain ⟨k,rfl,_⟩:=up hf
   simp only [pM,mark_other hb (m':=ydefault) (by decide),mark_other hb (m':=ymode) (by decide),Bool.false_eq_true,if_false]⟩
  obtain ⟨f0,e0⟩:=hx;obtain ⟨f1,e1⟩:=hy;refine ⟨f0+f1+1,fun f hf=>?_⟩;obtain ⟨k,rfl,hk,hk1⟩:=up2 hf;simp only [pM,e0 k hk,e1 k hk1]
end Hx
open Hx
def pV:Nat->List VarA->List Tok->Option (List VarA×List Tok)
 | 0,_,_=>none
 | f+1,acc,l=>match l with
  | []=>none
  | t::r=>if isMark t yvar=true then (match r with | a::b::_::c::_::r'=>pV f (acc++[⟨a,b,c⟩]) r' | _=>none) else some (acc,t::r)
def EvV (a:List VarA) (l:List Tok) (R:List VarA×List Tok):Prop:=∃ f0,∀ f,f0<=f->pV f a l=some R
theorem vars_ev {l l':List Tok} {vs:List VarA} (h:VarsD l vs l'):∀ R,EvV vs l' R->EvV [] l R:=by
 induction h with
 | nil=>exact fun R h=>h
 | snoc _ ht ih =>
  rintro R ⟨f1,e1⟩;refine ih R ⟨f1+1,fun f hf=>?_⟩;obtain ⟨k,rfl,hk⟩:=up hf;simp only [pV,ht,if_true];exact e1 k hk
def pTab (f:Nat) (ts:List Tok):Option (List VarA×List MA):=match pV f [] ts with
 | some (vs,l)=>(match pM f false [] l (-1) false 0 0 with | some (ms,_)=>some (vs,ms) | none=>none)
 | none=>none
theorem tab_ev {ts:List Tok} {vs:List VarA} {ms:List MA} (h:TabD ts vs ms):∃ f0,∀ f,f0<=f->pTab f ts=some (vs,ms):=by
 obtain ⟨t,m,e,r,hv,ht,hm,_⟩:=h;obtain ⟨f0,e0⟩:=vars_ev hv (vs,t::m) ⟨1,fun f hf=>by obtain ⟨k,rfl,_⟩:=up hf;simp only [pV,ht,Bool.false_eq_true,if_false]⟩;obtain ⟨f1,e1⟩:=md_ev hm;refine ⟨f0+f1,fun f hf=>?_⟩;simp only [pTab,e0 f (by omega),e1 f (by omega)]
end
section
namespace Hx
end Hx
open Hx
namespace Cx
end Cx
end
section
open Hx
theorem Hx.Run.det {st:List (List UInt8)} {l:List Tok} {R R':Nat} (h:Run st l R) (k:Run st l R'):R=R':=by
 obtain ⟨f,hf⟩:=h;obtain ⟨g,hg⟩:=k;have a:=runF_le hf (Nat.le_add_right f g);have b:=runF_le hg (Nat.le_add_left g f);rw [a] at b;simpa using b
theorem sen_det {n m:Nat} {l:List Tok} {inn d:Int} {dear:Bool} {s S S':St} (h:senF n l inn d dear s=some S) (k:senF m l inn d dear s=some S'):S=S':=by
 have a:=senF_mono n _ _ _ _ _ _ h m;have b:=senF_mono m _ _ _ _ _ _ k n;rw [Nat.add_comm] at b;rw [a] at b;simpa using b
theorem fault_table {s:ByteArray} {c l:Nat} {ts:List Tok} (h:FaultOf s c l) (k:TableOf s ts):False:=by
 obtain ⟨k1,k2,k3,n,S,k4,k5⟩:=k;rcases h with ⟨h,_⟩ | ⟨_,⟨h,_⟩ | ⟨ts',h,⟨h1,h2,_⟩ | ⟨_,m,S',h2,h3,_,h4⟩⟩⟩
 ·omega
 ·rw [k2] at h;cases h
 ·rw [k2] at h;cases h;have:=h1.det k3;omega
 ·rw [k2] at h;cases h;have:=sen_det h2 k4;subst this;omega
theorem table_det {s:ByteArray} {ts ts':List Tok} (h:TableOf s ts) (k:TableOf s ts'):ts=ts':=by
 have a:=h.2.1;rw [k.2.1] at a
 cases a;rfl
end
section
open Hx
def rightL:List UInt8:=[118,97,114,32,120,32,48,32,46,46,32,57,59,10,109,111,100,101,32,116,111,112,32,123,32,100,101,102,97,117,108,116,32,109,111,100,101,32,108,111,119,32,123,32,119,104,101,110,32,120,32,62,32,53,32,116,111,32,104,105,103,104,59,32,119,104,101,110,32,120,32,60,61,32,53,32,115,116,97,121,59,32,125,10,32,109,111,100,101,32,104,105,103,104,32,123,32,119,104,101,110,32,120,32,60,32,51,32,116,111,32,108,111,119,59,32,119,104,101,110,32,110,111,116,32,120,32,60,32,51,32,115,116,97,121,59,32,125,32,125]
def rightT:List Tok:=[⟨119,⟨#[118,97,114]⟩,0,1⟩,⟨110,⟨#[120]⟩,0,1⟩,⟨105,⟨#[48]⟩,0,1⟩,⟨115,⟨#[46,46]⟩,0,1⟩,⟨105,⟨#[57]⟩,9,1⟩,⟨115,⟨#[59]⟩,0,1⟩,⟨119,⟨#[109,111,100,101]⟩,0,2⟩,⟨110,⟨#[116,111,112]⟩,0,2⟩,⟨115,⟨#[123]⟩,0,2⟩,⟨119,⟨#[100,101,102,97,117,108,116]⟩,0,2⟩,⟨119,⟨#[109,111,100,101]⟩,0,2⟩,⟨110,⟨#[108,111,119]⟩,0,2⟩,⟨115,⟨#[123]⟩,0,2⟩,⟨119,⟨#[119,104,101,110]⟩,0,2⟩,⟨110,⟨#[120]⟩,0,2⟩,⟨115,⟨#[62]⟩,0,2⟩,⟨105,⟨#[53]⟩,5,2⟩,⟨119,⟨#[116,111]⟩,0,2⟩,⟨110,⟨#[104,105,103,104]⟩,0,2⟩,⟨115,⟨#[59]⟩,0,2⟩,⟨119,⟨#[119,104,101,110]⟩,0,2⟩,⟨110,⟨#[120]⟩,0,2⟩,⟨115,⟨#[60,61]⟩,0,2⟩,⟨105,⟨#[53]⟩,5,2⟩,⟨119,⟨#[115,116,97,121]⟩,0,2⟩,⟨115,⟨#[59]⟩,0,2⟩,⟨115,⟨#[125]⟩,0,2⟩,⟨119,⟨#[109,111,100,101]⟩,0,3⟩,⟨110,⟨#[104,105,103,104]⟩,0,3⟩,⟨115,⟨#[123]⟩,0,3⟩,⟨119,⟨#[119,104,101,110]⟩,0,3⟩,⟨110,⟨#[120]⟩,0,3⟩,⟨115,⟨#[60]⟩,0,3⟩,⟨105,⟨#[51]⟩,3,3⟩,⟨119,⟨#[116,111]⟩,0,3⟩,⟨110,⟨#[108,111,119]⟩,0,3⟩,⟨115,⟨#[59]⟩,0,3⟩,⟨119,⟨#[119,104,101,110]⟩,0,3⟩,⟨119,⟨#[110,111,116]⟩,0,3⟩,⟨110,⟨#[120]⟩,0,3⟩,⟨115,⟨#[60]⟩,0,3⟩,⟨105,⟨#[51]⟩,3,3⟩,⟨119,⟨#[115,116,97,121]⟩,0,3⟩,⟨115,⟨#[59]⟩,0,3⟩,⟨115,⟨#[125]⟩,0,3⟩,⟨115,⟨#[125]⟩,0,3⟩,⟨101,⟨#[]⟩,0,3⟩]
theorem right_lex:lex rightL=.inr rightT:=by kernel_rfl
theorem right_run:Run [YTABLE] rightT 0:=⟨400,by decide +kernel⟩
theorem right_sen:(senF 200 rightT (-1) 0 false St.zero).map (fun S=>(linkS S).code)=some 0:=by decide +kernel
theorem right_tableOf:TableOf ⟨rightL.toArray⟩ rightT:=by
 refine ⟨by decide +kernel,right_lex,right_run,200,?_⟩;have:=right_sen;rw [Option.map_eq_some_iff] at this;exact this
def rightP:List VarA×List MA:=(pTab 200 rightT).getD ([],[])
theorem right_tab (k:Nat):pTab (k+200) rightT=some rightP:=by kernel_rfl
theorem right_one {vs:List VarA} {ms:List MA} (h:TabD rightT vs ms):vs=rightP.1/\ms=rightP.2:=by
 obtain ⟨f0,e⟩:=tab_ev h;have:=(e (f0+200) (by omega)).symm.trans (right_tab f0);simp only [Option.some.injEq] at this;rw [<- this];exact ⟨rfl,rfl⟩
theorem right_least:Cx.leastOnes 0 9 [6,6,3,3]=[0,3,6]:=by
 have h:((0:Int)::Cx.cutsIn 0 9 [6,6,3,3]).mergeSort (fun x y=>decide (x<=y))=[0,3,3,6,6]:=by
  simp [Cx.cutsIn,List.mergeSort,List.MergeSort.Internal.splitInTwo,List.splitAt,List.splitAt.go]
 unfold Cx.leastOnes;rw [h];decide +kernel
theorem right_least0:Cx.leastOnes 0 9 []=[0]:=by
 have h:((0:Int)::Cx.cutsIn 0 9 []).mergeSort (fun x y=>decide (x<=y))=[0]:=by
  simp [Cx.cutsIn]
 unfold Cx.leastOnes;rw [h];decide +kernel
theorem right_choices:Cx.choices rightP.1 rightP.2=[Cx.leastOnes 0 9 [],Cx.leastOnes 0 9 [6,6,3,3]]:=by kernel_rfl
def findBy (cs:List (List Int)) (vs:List VarA) (ms:List MA):Option (Int×ByteArray×List Int) :=
 match Cx.findOne 6 (Cx.places ms) ((Cx.combine cs).map fun l=>(l,Cx.rowsTo (Cx.guards vs ms) l (Cx.guards vs ms).length)) with
 | some x=>some (6,x)
 | none=>(Cx.findOne 7 (Cx.places ms) ((Cx.combine cs).map fun l=>(l,Cx.rowsTo (Cx.guards vs ms) l (Cx.guards vs ms).length))).map fun x=>(7,x)
theorem find_by (vs:List VarA) (ms:List MA):Cx.find vs ms=findBy (Cx.choices vs ms) vs ms:=rfl
theorem right_by:findBy [[0],[0,3,6]] rightP.1 rightP.2=none:=by kernel_rfl
theorem right_find:Cx.find rightP.1 rightP.2=none:=by
 rw [find_by,right_choices,right_least,right_least0];exact right_by
end
section
open Hx
def CompOf (s img:ByteArray) (code:Int) (line:Nat):Prop :=
 (∃ c:Nat,FaultOf s c line/\c≠0/\code=c/\img=⟨#[]⟩)\/∃ ts vs ms,TableOf s ts/\TabD ts vs ms/\line=0/\match Cx.find vs ms with
  | none=>code=0/\img=⟨(Cx.imageOf vs ms).toArray⟩
  | some (c,_)=>code=c/\img=⟨#[]⟩
theorem comp_table {s img:ByteArray} {code:Int} {line:Nat} {ts:List Tok} (h:CompOf s img code line) (ht:TableOf s ts):∃ vs ms,TabD ts vs ms/\line=0/\match Cx.find vs ms with
  | none=>code=0/\img=⟨(Cx.imageOf vs ms).toArray⟩
  | some (c,_)=>code=c/\img=⟨#[]⟩:=by
 rcases h with ⟨c',h1,_⟩ | ⟨ts',vs,ms,h1,h2,h3,h4⟩
 ·exact (fault_table h1 ht).elim
 ·obtain rfl:=table_det h1 ht
  exact ⟨vs,ms,h2,h3,h4⟩
theorem comp_right {img:ByteArray} {code:Int} {line:Nat} (h:CompOf ⟨rightL.toArray⟩ img code line):code=0/\line=0/\img=⟨(Cx.imageOf rightP.1 rightP.2).toArray⟩:=by
 obtain ⟨vs,ms,h1,h2,h3⟩:=comp_table h right_tableOf;obtain ⟨rfl,rfl⟩:=right_one h1;rw [right_find] at h3;exact ⟨h3.1,h2,h3.2⟩
end
end Go.Proofs.YtdjaiolfdbamcaaGreatDoor
