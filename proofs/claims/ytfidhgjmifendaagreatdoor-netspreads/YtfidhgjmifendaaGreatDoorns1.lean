import Derived.Test.YtfidhgjmifendaaGreatDoorProg
import Derived.WalkSpells
import Derived.WalkLawsBesides
import Derived.Lib.AppendZerosOnto
import Derived.Lib.Overlaps
import Derived.Lib.QuietBelow
import Derived.Shelf.Strings.Builder1
import Derived.Shelf.Small.Strs
import Derived.Shelf.Strconv.Itoa3
import Derived.Shelf.Strconv.AtoiAll
import Derived.Shelf.Strings.Shaped
import Derived.Shelf.SlSortCmp.NoneTotal
import Derived.Deep.RegionHeld3
set_option maxHeartbeats 2000000
set_option maxRecDepth 100000
open Go.Proofs.Tryz renaming prog→AS,underlying266→Qo
open Go.Ending renaming returned→AT
open Go.Value renaming bool→Ia,int→U,string→Y,slice→J,tuple→Ik,pointer→Ie,ownBlock→Jz
open List renaming take_succ_eq_append_getElem→IH,getElem_mem→IJ,pairwise_cons→JE,mem_cons→IQ,rel_of_pairwise_cons→JG,getD→Ip,getElem?_eq_getElem→If,getD_cons_zero→I4,set_cons_succ→Ou,foldl_cons→OB,length_cons→Iw,length_append→Ig,getElem?_take_of_lt→IN
open Go.IntKind renaming i64→O
open Bool renaming eq_iff_iff→Oz,and_eq_true→IF
open Go renaming maxLen→Il,run_callFunc_extern→OF,TypeId→I5,redrawn→Iz,cell_regrown→Iq,bodyPost→JV
open Option renaming none→be,some→AI
open Go.Op renaming bytesLess→Ji
open UInt8 renaming lt_iff_toNat_lt→JW
open Go.Lib renaming compareBytes→Jw,toList_data→JS,alloc_old→On,strCells→Ol
open Go.Obj renaming cells→By
open Nat renaming le_refl→Ic,lt_or_eq_of_le→Qm,lt_of_lt_of_le→IL,le_trans→Ir
open Go.Sort renaming grow→Im
open List.Pairwise renaming of_cons→Om
open Array renaming getElem?_eq_some_iff→BY
open Go.World.ownsRow renaming lt→OK,stored→II
namespace Go.Proofs.YtfidhgjmifendaaGreatDoor
open Go.RowKit
abbrev aI(f:Nat)(a:Array Value)(w:World)(p:Ending->World->Prop):Prop:=Calls AS f a w p
abbrev kL(f:Nat)(a:Array Value)(w:World)(v:Value):Prop:=Calls AS f a w λe w'=>e=AT v/\Below w.heap.size w w'
def within(n a b:Int):Bool:=decide (a<=n)&&decide (n<=b)
def GY(n:Int):Bool:=(decide (97<=n)&&decide (n<=122))||(decide (48<=n)&&decide (n<=57))||decide (n=45)||decide (n=95)
def bc(s:ByteArray):Bool:=decide (1<=s.size)&&decide (s.size<=30)&&s.data.toList.all (λc=>GY c.toNat)
theorem aW{a b:Bool}(h:a=b):AT (Ia a)=AT (Ia b):=by rw[h]
theorem ai{k:IntKind}{a b:Int}(h:a=b):AT (U k a)=AT (U k b):=by rw[h]
theorem D4(s:ByteArray)(k:Nat)(h:k<s.size):s.data.toList.take (k+1)=s.data.toList.take k++[s[k]]:=by
 rw[IH (by simpa using h)];rfl
theorem GZ(s:ByteArray)(k:Nat)(h:s.size<=k):s.data.toList.take k=s.data.toList:=
 List.take_of_length_le (by simpa using h)
theorem D5(s:ByteArray)(k:Nat)(h:k<s.size)(hk:(s.data.toList.take k).all (λc=>GY c.toNat)=true)(hb:GY (s[k].toNat:Int)=true) : (s.data.toList.take (k+1)).all (λc=>GY c.toNat)=true:=by
 rw[D4 s k h,List.all_append,hk];simp[hb]
theorem G6(s:ByteArray)(k:Nat)(h:k<s.size)(hb:GY (s[k].toNat:Int)=false):bc s=false:=by
 have:s.data.toList.all (λc=>GY c.toNat)=false:=by
  rw[List.all_eq_false];refine⟨s[k],?_,by simp[hb]⟩;exact IJ (l:=s.data.toList) (n:=k) (by simpa using h)
 simp[bc,this]
theorem cB(n a b:Int)(w:World) :
 Calls AS 54 #[U O n,U O a,U O b] w λe w'=>e=AT (Ia (within n a b))/\w'=w:=by
 go_enter Tryz.func54,Tryz.ntmps54;go_wp2;all_goals
  go_ret;exact⟨aW (by unfold within;rw[Oz];simp;try omega),rfl⟩
theorem eL(n:Int)(w:World) :
 Calls AS 35 #[U O n] w λe w'=>e=AT (Ia (within n 0 4294967295))/\w'=w:=by
 go_enter Tryz.func35,Tryz.ntmps35;go_wp2_with (go_at_call 54;refine(cB _ _ _ _).mono ?_;rintro e w' ⟨rfl,rfl⟩);go_ret;exact⟨rfl,rfl⟩
theorem om(n:Int)(w:World) :
 Calls AS 98 #[U .u8 n] w λe w'=>e=AT (Ia (GY n))/\w'=w:=by
 go_enter Tryz.func98,Tryz.ntmps98;go_wp2;all_goals
  go_ret;exact⟨aW (by unfold GY;rw[Oz];simp;try omega),rfl⟩
theorem bV(s:ByteArray)(w:World)(hs:s.size<=Il) :
 Calls AS 53 #[Y s] w λe w'=>e=AT (Ia (bc s))/\w'=w:=by
 unfold Il at hs;by_cases hz:within (s.size:Int) 1 30=true
 .have T7:1<=s.size/\s.size<=30:=by simp[within] at hz;omega
  go_enter Tryz.func53,Tryz.ntmps53;go_wp2_with (go_at_call 54;refine(cB _ _ _ _).mono ?_;rintro e w' ⟨rfl,rfl⟩;rw[hz]);go_loop [10] (λi=>∃k:Nat,k<=s.size/\i=U O k/\(s.data.toList.take k).all (λc=>GY c.toNat)=true) (λi=>s.size-(intOf i).toNat)
  case atStart=>exact⟨0,Nat.zero_le _,rfl,rfl⟩
  case round=>
   obtain⟨k,hk,rfl,kK⟩:=hrel;have HA:Hid _:=kK;clear kK;by_cases aX:k<s.size
   .by_cases hb:GY (s[k].toNat:Int)=true
    .go_wp2_with (go_at_call 98;refine(om _ _).mono ?_;rintro e w' ⟨rfl,rfl⟩;rw[hb])
     go_round
     case rel=>exact⟨k+1,by omega,by go_num,D5 s k aX HA.out hb⟩
     case measure=>simp[intOf];omega
    .have xb:GY (s[k].toNat:Int)=false:=by simpa using hb
     go_wp2_with (go_at_call 98;refine(om _ _).mono ?_;rintro e w' ⟨rfl,rfl⟩;rw[xb]);go_ret;exact⟨aW (G6 s k aX xb).symm,rfl⟩
   .go_wp2
    go_ret;have h2:=HA.out;rw[GZ s k (by omega)] at h2;exact⟨aW (by simp[bc,h2,T7.1,T7.2]),rfl⟩
 .have T7:within (s.size:Int) 1 30=false:=by simpa using hz
  go_enter Tryz.func53,Tryz.ntmps53;go_wp2_with (go_at_call 54;refine(cB _ _ _ _).mono ?_;rintro e w' ⟨rfl,rfl⟩;rw[T7]);go_ret;refine⟨aW ?_,rfl⟩;symm;simp only[within,Bool.and_eq_false_iff,decide_eq_false_iff_not] at T7;simp only[bc,Bool.and_eq_false_iff,decide_eq_false_iff_not];rcases T7 with h|h
  .exact .inl (.inl (by omega))
  .exact .inl (.inr (by omega))
theorem cC{W w1:World}(hb:Below W.heap.size W w1):(∀b o,b<W.heap.size->w1.cell? ⟨b,o,be⟩=W.cell? ⟨b,o,be⟩)/\(∀b o,b<W.heap.size->w1.frozen? ⟨b,o,be⟩=W.frozen? ⟨b,o,be⟩):=
 ⟨λb o h=>hb.cell (p:=⟨b,o,be⟩) h,λb o h=>hb.frozen (p:=⟨b,o,be⟩) h⟩
def less(a b:ByteArray):Bool:=Ji a.toList b.toList
theorem vO:∀a:List UInt8,Ji a a=false
 |[]=>rfl
 |x::r=>by simp[Ji,vO r]
theorem sW:∀a b:List UInt8,(!(Ji a b))=(Ji b a||b==a)
 |[],[]=>rfl
 |[],_::_=>rfl
 |_::_,[]=>rfl
 |x::r,y::t=>by
  have:=sW r t;by_cases h1:x<y
  .have h2:¬ y<x:=by rw[JW] at *;omega
   have h3:¬ y=x:=by rintro rfl;rw[JW] at *;omega
   simp[Ji,h1,h2,h3]
  .by_cases h2:y<x
   .have h3:¬ y=x:=by rintro rfl;rw[JW] at *;omega
    have h4:¬ x=y:=λh=>h3 h.symm;simp[Ji,h1,h2,h4]
   .have h3:y=x:=by
     apply UInt8.toNat_inj.1;rw[JW] at *;omega
    subst h3;simp[Ji];simpa using this
def bR(a b:ByteArray):Int:=Jw a.data.toList b.data.toList
theorem vd(a b:ByteArray)(w:World):(callFunc 140 #[Y a,Y b]).run AS w=.ok (.value (U O (bR a b))) w:=by
 rw[OF Tryz.func140 (by kernel_rfl) (by kernel_rfl) (by kernel_rfl) (e:=Extern.BytealgCompare.compare) (by kernel_rfl),Lib.run_compareString];rfl
theorem gE(a b:ByteArray)(w:World) :
 Calls AS 49 #[Y a,Y b] w λe w'=>e=AT (U O (bR a b))/\w'=w:=by
 have hc:=vd;go_enter Tryz.func49,Tryz.ntmps49;go_wp2;go_ret;exact⟨rfl,rfl⟩
theorem PF:∀a b:List UInt8,Jw a b<0↔Ji a b=true
 |[],[]=>by simp[Jw,Ji]
 |[],_::_=>by simp[Jw,Ji]
 |_::_,[]=>by simp[Jw,Ji]
 |x::r,y::t=>by
  have ih:=PF r t;by_cases h1:x<y
  .simp[Jw,Ji,h1]
  .by_cases h2:y<x
   .have h3:¬ x=y:=by rintro rfl;exact h1 h2
    simp[Jw,Ji,h1,h2,h3]
   .have h3:x=y:=by
     apply UInt8.toNat_inj.1;rw[JW] at *;omega
    subst h3;simpa[Jw,Ji] using ih
theorem PG:∀a b:List UInt8,Jw a b=0↔a=b
 |[],[]=>by simp[Jw]
 |[],_::_=>by simp[Jw]
 |_::_,[]=>by simp[Jw]
 |x::r,y::t=>by
  have ih:=PG r t;by_cases h1:x<y
  .have h3:¬ x=y:=by rintro rfl;rw[JW] at *;omega
   simp[Jw,h1,h3]
  .by_cases h2:y<x
   .have h3:¬ x=y:=by rintro rfl;exact h1 h2
    simp[Jw,h1,h2,h3]
   .have h3:x=y:=by
     apply UInt8.toNat_inj.1;rw[JW] at *;omega
    subst h3;simpa[Jw] using ih
theorem yU:∀a b c:List UInt8,Ji a b=true->Ji b c=true->Ji a c=true
 |[],[],_,h,_=>by simp[Ji] at h
 |[],_::_,[],_,h=>by simp[Ji] at h
 |[],_::_,_::_,_,_=>by simp[Ji]
 |_::_,[],_,h,_=>by simp[Ji] at h
 |_::_,_::_,[],_,h=>by simp[Ji] at h
 |x::r,y::t,z::u,h1,h2=>by
  have ih:=yU r t u;simp only[Ji,Bool.or_eq_true,IF,decide_eq_true_eq,beq_iff_eq] at h1 h2 ⊢;rcases h1 with h1|⟨rfl,h1⟩
  .rcases h2 with h2|⟨rfl,h2⟩
   .left;rw[JW] at *;omega
   .left;exact h1
  .rcases h2 with h2|⟨rfl,h2⟩
   .left;exact h2
   .right;exact⟨rfl,ih h1 h2⟩
theorem qQ{a b:ByteArray}(h:a.data.toList=b.data.toList):a=b:=by
 obtain⟨⟨la⟩⟩:=a;obtain⟨⟨lb⟩⟩:=b;simp at h;subst h;rfl
theorem fL(a b:ByteArray):bR a b<0↔less a b=true:=by
 unfold bR less;rw[JS,JS];exact PF _ _
theorem bQ(a b:ByteArray):bR a b=0↔a=b:=by
 unfold bR;rw[PG];exact⟨qQ,λh=>by rw[h]⟩
theorem gd{a b c:ByteArray}(h1:less a b=true)(h2:less b c=true):less a c=true:=yU _ _ _ h1 h2
theorem fp(a:ByteArray):less a a=false:=vO _
theorem A8(a b:ByteArray):less a b=true\/a=b\/less b a=true:=by
 have h:=sW a.toList b.toList;unfold less;cases h1:Ji a.toList b.toList
 .rw[h1] at h
  cases h2:Ji b.toList a.toList
  .rw[h2] at h
   right;left
   have:b.toList=a.toList:=by simpa using h.symm
   rw[JS,JS] at this;exact(qQ this).symm
  .right;right;rfl
 .left;rfl
theorem sX{a b:ByteArray}(h1:less a b=true):less b a=false:=by
 cases h:less b a
 .rfl
 .have:=gd h1 h;rw[fp] at this;cases this
theorem nD(a b:ByteArray):0<bR a b↔less b a=true:=by
 have h1:=fL a b;have h2:=bQ a b;rcases A8 a b with h|rfl|h
 .have:=h1.2 h
  rw[sX h];simp;omega
 .rw[fp];have:=h2.2 rfl;simp;omega
 .rw[h]
  have h3:¬ bR a b<0:=λhh=>by rw[h1,sX h] at hh;cases hh
  have h4:¬ bR a b=0:=λhh=>by rw[h2] at hh;subst hh;rw[fp] at h;cases h
  simp;omega
theorem lH{P:Program}(w:World)(dT sT ty elem:I5)(g o RF acY:Nat)(a:Addr)(RG acZ k:Nat)(cur:Array Value)(t:I5)(cs:List Value)(hu:P.underlying dT=AI (.slice elem))(hs:(P.info? elem).map (·.size)=AI k)(hg:w.heap[g]?=AI (By cur t (0,0)))(hn:cs.length=Nat.min RG RF*k)(ac0:∀j v,cs[j]?=AI v->w.cell? (a.add j)=AI v)(ac1:o+cs.length<=cur.size)(h1:∀v∈cs,v.oneCell'=true) : (Builtin.copy_ #[dT,sT] ty #[J (AI ⟨g,o,be⟩) RF acY,J (AI a) RG acZ]).run P w =
   .ok (goInt (Nat.min RG RF)) (w.setRow g (cur.toList.take o++cs++cur.toList.drop (o+cs.length)).toArray):=by
 have hl:=run_loadCells_list (P:=P) w a cs ac0;have pC:=run_storeCells_at P g o t cs 0 cur w hg (by simpa using ac1) h1;cases hq:P.info? elem with
 |none=>simp[hq] at hs
 |some i=>
  have hi:i.size=k:=by simpa[hq] using hs
  simp[Builtin.copy_,run_underlying hu,Builtin.lenOf,Builtin.firstCells,sizeOf,typeInfo,hq,hi,<- hn,hl,pC]
theorem dw{P:Program}{ops:Array Oper}{o:Oper}{a:Act}{w:World}{K:Act->World->Prop}{Q:Exit->Act->World->Prop}{E:Prop}(hg:o.guard=be)(d x:Operand)(dT sT:I5)(hop:o.op=Op.call { callee:=Callee.builtin Builtin.copy,args:=#[d,x],argTypes:=#[dT,sT] })
 (v u:Value) (hd:a.eval d=v) (hx:a.eval x=u) {v':Value} {w':World} (hr:(Builtin.copy_ #[dT,sT] o.type #[v,u]).run P w=.ok v' w') (hK:K (a.put o.dst v') w') :
 if Region.wanted o (yielded ops a.tmps)=true then Oper.wp P o a w K Q else E:=by
 have hw:Region.wanted o (yielded ops a.tmps)=true:=by simp[Region.wanted,hg]
 rw[if_pos hw];unfold Oper.wp;simp[execOp,hop,resolve,invoke,builtin,hd,hx,hr,Result.andThen];exact hK
theorem ae{w:World}{g:Nat}{cur:Array Value}{t:I5}{fr:Nat×Nat}(hg:w.heap[g]?=AI (By cur t fr))(o:Nat):w.cell? ⟨g,o,be⟩=cur[o]?:=by
 simp[World.cell?,hg]
theorem mK{a b:ByteArray}(h:a≠b):(a.toList==b.toList)=false/\¬ a.toList=b.toList:=by
 have h2:¬ a.toList=b.toList:=λe=>h (qQ (by rw[JS,JS] at e;exact e));exact⟨by simpa using h2,h2⟩
theorem dC{W:World}{cs:Array Value}{t:I5}{g k:Nat}(hg:g=W.heap.size):(W.alloc (By cs t)).cell? ⟨g,k,be⟩=cs[k]?:=by subst hg;simp
theorem nE{w w':World}(h:w.grownBy w' be)(row:Option Nat):w.grownBy w' row:=⟨h.os,h.tape,h.output,h.size,λk hk _=>h.block k hk (by simp)⟩
theorem bY(w:World)(A:Array Value)(T:I5):∃W,W=w.alloc (By A T)/\Below w.heap.size w W/\W.heap.size=w.heap.size+1/\W.heap[w.heap.size]?=AI (By A T (0,0)):=⟨_,rfl,(Below.refl _ _).alloc (Ic _) _,by simp,heap_alloc_new w _⟩
theorem bM{P:Program}{ops:Array Oper}{C:World->Prop}{R:Act->World->Prop}{w:World}{a:Act}(h:∀d os,Hid (Below w.heap.size w (Im (Iz w d) os))->R a (Im (Iz w d) os)):wpQuiet P ops C (λa=>∀w',(∃p:Regrown,w'=Im (Iz w p.d) p.os)->R a w') [] a:=wpQuiet_nil (λ_ ⟨p,e⟩=>e▸h p.d p.os (below_regrown w p.d p.os))
end Go.Proofs.YtfidhgjmifendaaGreatDoor
namespace Go.Proofs.YtfidhgjmifendaaGreatDoor
namespace RL
section
variable {α:Type}
structure Keyed(o:α->α->Int):Prop where
 refl:∀a,o a a=0
 gt:∀a b,0<o a b↔o b a<0
 trans:∀a b c,o a b<0->o b c<0->o a c<0
 left:∀a b c,o a b=0->o a c=o b c
 right:∀a b c,o a b=0->o c a=o c b
structure qR(o:α->α->Int)(nw:α->α->Bool):Prop where
 irrefl:∀a,nw a a=false
 trans:∀a b c,nw a b=true->nw b c=true->nw a c=true
 total:∀a b,o a b=0->nw a b=false->nw b a=false->a=b
theorem Keyed.symm{o:α->α->Int}(h:Keyed o){a b:α}(e:o a b=0):o b a=0:=by
 have h1:=h.gt a b;have h2:=h.gt b a;rcases Int.lt_trichotomy (o b a) 0 with hl|he|hg
 .have:=h1.2 hl;omega
 .exact he
 .have:=h2.1 hg;omega
theorem Keyed.CT{o:α->α->Int}(h:Keyed o){a b c:α}(e:o a b=0)(f:o b c=0):o a c=0:=by rw[h.left a b c e];exact f
variable (o:α→α→Int) (nw:α→α→Bool) (d:α)
abbrev bp(ms:List α):Prop:=ms.Pairwise λa b=>o a b<0
def aM:List α->Bool
 |[]=>true
 |[_]=>true
 |a::b::r=>decide (o a b<0)&&aM (b::r)
theorem lI(hk:Keyed o):∀ms:List α,aM o ms=true->bp o ms
 |[],_=>.nil
 |[x],_=>by simp[bp]
 |a::b::r,h=>by
  rw[aM,IF,decide_eq_true_eq] at h;have ih:=lI hk (b::r) h.2;refine JE.2 ⟨λc hc=>?_,ih⟩;rcases IQ.1 hc with rfl|hc
  .exact h.1
  .exact hk.trans _ _ _ h.1 (JG ih hc)
theorem jR:∀ms:List α,bp o ms->aM o ms=true
 |[],_=>rfl
 |[x],_=>rfl
 |a::b::r,h=>by
  rw[aM,IF,decide_eq_true_eq];exact⟨JG h (by simp),jR (b::r) (Om h)⟩
theorem gF:∀ms:List α,(∀j,j+1<ms.length->o (ms.getD j d) (ms.getD (j+1) d)<0)->aM o ms=true
 |[],_=>rfl
 |[x],_=>rfl
 |a::b::r,h=>by
  rw[aM,IF,decide_eq_true_eq];refine⟨by have:=h 0 (by simp);simpa using this,gF (b::r) λj hj=>?_⟩;have:=h (j+1) (by simpa using hj);simpa using this
theorem iB:∀ms:List α,aM o ms=true->∀j,j+1<ms.length->o (ms.getD j d) (ms.getD (j+1) d)<0
 |[],_,j,hj=>by simp at hj
 |[x],_,j,hj=>by simp at hj
 |a::b::r,h,0,_=>by
  rw[aM,IF,decide_eq_true_eq] at h;simpa using h.1
 |a::b::r,h,j+1,hj=>by
  rw[aM,IF,decide_eq_true_eq] at h;have:=iB (b::r) h.2 j (by simpa using hj);simpa using this
theorem lJ{ms:List α}{i:Nat}(h:i<ms.length):ms.getD i d=ms[i]:=by simp[Ip,If h]
theorem xc{ms:List α}(h:bp o ms){i j:Nat}(iS:i<j)(hj:j<ms.length):o (ms.getD i d) (ms.getD j d)<0:=by
 rw[lJ d (show i<ms.length by omega),lJ d hj];exact List.pairwise_iff_getElem.1 h i j (by omega) hj iS
theorem dU(hk:Keyed o){ms:List α}(h:bp o ms)(t:α):∀i j,i<=j->j<ms.length->o (ms.getD j d) t<0->o (ms.getD i d) t<0:=by
 intro i j iS hj aX;rcases Qm iS with RH|rfl
 .exact hk.trans _ _ _ (xc o d h RH hj) aX
 .exact aX
structure At(ms:List α)(t:α)(p:Nat)(f:Bool):Prop where
 le:p<=ms.length
 lo:∀j,j<p->o (ms.getD j d) t<0
 hi:∀j,p<=j->j<ms.length->0<=o (ms.getD j d) t
 is:f=true↔p<ms.length/\o (ms.getD p d) t=0
theorem jS(hk:Keyed o)(ms:List α)(hr:bp o ms)(t:α):∃p f,At o d ms t p f:=by
 induction ms with
 |nil=>exact⟨0,false,by simp,λj h=>by omega,λj h h2=>by simp at h2,by simp⟩
 |cons x r ih=>
  have hx:=JE.1 hr;by_cases aX:o x t<0
  .obtain⟨p,f,h⟩:=ih hx.2
   refine⟨p+1,f,by have:=h.le;simpa using this,λj hj=>?_,λj hj hl=>?_,by have:=h.is;simpa using this⟩
   .cases j with
    |zero=>simpa using aX
    |succ j=>have:=h.lo j (by omega);simpa using this
   .cases j with
    |zero=>omega
    |succ j=>have:=h.hi j (by omega) (by simpa using hl);simpa using this
  .refine⟨0,decide (o x t=0),by simp,λj hj=>by omega,λj _ hl=>?_,by simp⟩
   apply Int.not_lt.1;intro hq;have:=dU o d hk hr t 0 j (by omega) hl hq;simp at this;omega
theorem eN{ms:List α}{t:α}{p q:Nat}{f e:Bool}(h:At o d ms t p f)(k:At o d ms t q e):p=q/\f=e:=by
 have G7:p=q:=by
  rcases Nat.lt_trichotomy p q with aX|rfl|aX
  .have h1:=k.lo p aX
   have h2:=h.hi p (Ic _) (by have:=k.le;omega);omega
  .rfl
  .have h1:=h.lo q aX
   have h2:=k.hi q (Ic _) (by have:=h.le;omega);omega
 subst G7;refine⟨rfl,?_⟩;rw[Oz,h.is,k.is]
theorem G8{ms:List α}(hk:Keyed o)(hr:bp o ms){t:α}{k:Nat}(hl:k<ms.length)(he:o (ms.getD k d) t=0):At o d ms t k true:=by
 refine⟨by omega,λj hj=>?_,λj hj RI=>?_,⟨λ_=>⟨hl,he⟩,λ_=>rfl⟩⟩
 .rw[<- hk.right _ _ (ms.getD j d) he]
  exact xc o d hr hj hl
 .rcases Qm hj with h|rfl
  .rw[<- hk.right _ _ (ms.getD j d) he]
   have:=(hk.gt (ms.getD j d) (ms.getD k d)).2 (xc o d hr h RI);omega
  .omega
def fS:List α->α->List α
 |[],m=>[m]
 |x::r,m=>if o x m<0 then x::fS r m else if o x m=0 then(if nw m x=true then m::r else x::r) else m::x::r
theorem pI:∀(ms:List α) (m:α) (p:Nat) (f:Bool),At o d ms m p f ->
 fS o nw ms m=if f=true then(if nw m (ms.getD p d)=true then ms.set p m else ms) else ms.take p++m::ms.drop p
 |[],m,p,f,h=>by
  have hp:p=0:=by have:=h.le;simpa using this
  subst hp;have hf:f=false:=by
   cases f
   .rfl
   .have:=h.is.1 rfl;simp at this
  subst hf;simp[fS]
 |x::r,m,0,f,h=>by
  have h0:=h.hi 0 (Ic _) (by simp);simp only[I4] at h0;rw[fS,if_neg (by omega)];cases f
  .have aQ:¬ o x m=0:=λe=>by have:=h.is.2 ⟨by simp,by simpa using e⟩;cases this
   rw[if_neg aQ];simp
  .have he:=(h.is.1 rfl).2
   simp only[I4] at he;rw[if_pos he];simp only[I4,List.set_cons_zero,if_pos]
 |x::r,m,p+1,f,h=>by
  have h0:=h.lo 0 (by omega);simp only[I4] at h0;have hr:At o d r m p f:=⟨by have:=h.le;simpa using this,λj hj=>by have:=h.lo (j+1) (by omega);simpa using this,
   λj hj hl=>by have:=h.hi (j+1) (by omega) (by simpa using hl);simpa using this,by have:=h.is;simpa using this⟩
  rw[fS,if_pos h0,pI r m p f hr];cases f
  .simp
  .simp only[if_pos,List.getD_cons_succ,Ou]
   split<;>rfl
theorem pJ:∀(ms:List α) (m x:α),x∈fS o nw ms m->x=m\/x∈ms
 |[],m,x,h=>by simp[fS] at h;exact .inl h
 |y::r,m,x,h=>by
  rw[fS] at h;split at h
  .rcases IQ.1 h with rfl|h
   .exact .inr (by simp)
   .rcases pJ r m x h with h|h
    .exact .inl h
    .exact .inr (by simp[h])
  .split at h
   .split at h
    .rcases IQ.1 h with h|h
     .exact .inl h
     .exact .inr (by simp[h])
    .exact .inr h
   .rcases IQ.1 h with h|h
    .exact .inl h
    .exact .inr h
theorem nF(hk:Keyed o):∀(ms:List α) (m:α),bp o ms->bp o (fS o nw ms m)
 |[],m,_=>by simp[fS]
 |x::r,m,h=>by
  have hx:=JE.1 h;rw[fS];split
  .rename_i aX
   refine JE.2 ⟨λy hy=>?_,nF hk r m hx.2⟩;rcases pJ o nw r m y hy with rfl|hy
   .exact aX
   .exact hx.1 y hy
  .rename_i aX
   split
   .rename_i he
    split
    .exact JE.2 ⟨λy hy=>by rw[<- hk.left x m y he];exact hx.1 y hy,hx.2⟩
    .exact h
   .rename_i he
    have hg:=(hk.gt x m).1 (by omega);refine JE.2 ⟨λy hy=>?_,h⟩;rcases IQ.1 hy with rfl|hy
    .exact hg
    .exact hk.trans _ _ _ hg (hx.1 y hy)
theorem sY:∀(ms:List α) (m:α),ms.length<=(fS o nw ms m).length/\(fS o nw ms m).length<=ms.length+1
 |[],m=>by simp[fS]
 |x::r,m=>by
  have:=sY r m;rw[fS];split
  .simp;omega
  .split
   .split<;>simp
   .simp
def join(a b:List α):List α:=b.foldl (fS o nw) a
theorem kY(hk:Keyed o):∀(b a:List α),bp o a->bp o (join o nw a b)
 |[],_,h=>h
 |m::r,a,h=>kY hk r (fS o nw a m) (nF o nw hk a m h)
theorem pK:∀(b a:List α),(join o nw a b).length<=a.length+b.length
 |[],_=>by simp[join]
 |m::r,a=>by
  have h1:=pK r (fS o nw a m);have h2:=sY o nw a m;simp only[join,OB,Iw] at *;omega
theorem pL:∀(b a:List α) (x:α),x∈join o nw a b->x∈a\/x∈b
 |[],_,_,h=>.inl h
 |m::r,a,x,h=>by
  rcases pL r (fS o nw a m) x h with h|h
  .rcases pJ o nw a m x h with rfl|h
   .exact .inr (by simp)
   .exact .inl h
  .exact .inr (by simp[h])
theorem qS(a b:List α)(j:Nat)(hj:j<b.length):join o nw a (b.take (j+1))=fS o nw (join o nw a (b.take j)) (b.getD j d):=by
 rw[lJ d hj,IH hj,join,List.foldl_append,join];rfl
theorem vP:∀(a:List α) (m:α),(∀x∈a,o x m<0)->fS o nw a m=a++[m]
 |[],_,_=>rfl
 |x::r,m,h=>by
  rw[fS,if_pos (h x (by simp)),vP r m (λy hy=>h y (by simp[hy]))];rfl
theorem yV:∀(b a:List α),bp o (a++b)->join o nw a b=a++b
 |[],a,_=>by simp[join]
 |m::r,a,h=>by
  have h1:=vP o nw a m λx hx=>(List.pairwise_append.1 h).2.2 x hx m (by simp);have h2:=yV r (a++[m]) (by simpa using h);simp only[join,OB,h1] at h2 ⊢;rw[h2];simp
theorem join_nil(b:List α)(h:bp o b):join o nw [] b=b:=yV o nw b [] h
def mx(x y:α):α:=if nw y x=true then y else x
def get(ms:List α)(n:α):Option α:=ms.find? λx=>decide (o x n=0)
theorem get_nil(n:α):get o [] n=be:=rfl
theorem cD(x:α)(r:List α){n:α}(h:o x n=0):get o (x::r) n=AI x:=by simp[get,h]
theorem dx(x:α)(r:List α){n:α}(h:¬ o x n=0):get o (x::r) n=get o r n:=by simp[get,h]
theorem MC{ms:List α}{n x:α}(h:get o ms n=AI x):o x n=0:=by
 have:=List.find?_some h;simpa using this
theorem get_mem{ms:List α}{n x:α}(h:get o ms n=AI x):x∈ms:=List.mem_of_find?_eq_some h
theorem get_none{ms:List α}{n:α}(h:∀x∈ms,¬ o x n=0):get o ms n=be:=by
 unfold get;rw[List.find?_eq_none];intro x hx;simpa using h x hx
theorem nG(hk:Keyed o){x:α}{r:List α}(h:bp o (x::r)):∀y∈r,¬ o y x=0:=by
 intro y hy e;have:=JG h hy;have h2:=hk.symm e;omega
theorem G9(hk:Keyed o):∀{a b:List α},bp o a->bp o b->(∀n,get o a n=get o b n)->a=b
 |[],[],_,_,_=>rfl
 |[],y::s,_,_,h=>by
  have:=h y;rw[get_nil,cD o y s (hk.refl y)] at this;cases this
 |x::r,[],_,_,h=>by
  have:=h x;rw[get_nil,cD o x r (hk.refl x)] at this;cases this
 |x::r,y::s,ha,hb,h=>by
  have VJ:o x y=0:=by
   rcases Int.lt_trichotomy (o x y) 0 with hl|he|hl
   .have h1:=h x
    rw[cD o x r (hk.refl x),get_none] at h1
    .cases h1
    .intro z hz e
     have e2:=hk.symm e;rcases IQ.1 hz with rfl|hz
     .omega
     .have h2:=hk.trans _ _ _ hl (JG hb hz)
      omega
   .exact he
   .have hl:=(hk.gt x y).1 hl
    have h1:=h y;rw[cD o y s (hk.refl y),get_none] at h1
    .cases h1
    .intro z hz e
     have e2:=hk.symm e;rcases IQ.1 hz with rfl|hz
     .omega
     .have h2:=hk.trans _ _ _ hl (JG ha hz)
      omega
  have hxy:x=y:=by
   have h1:=h x;rw[cD o x r (hk.refl x),cD o y s (hk.symm VJ)] at h1;exact Option.some.inj h1
  subst hxy;have oz:r=s:=G9 hk (Om ha) (Om hb) λn=>by
   by_cases hn:o x n=0
   .rw[get_none o (λz hz e=>nG o hk ha z hz (hk.CT e (hk.symm hn))),get_none o (λz hz e=>nG o hk hb z hz (hk.CT e (hk.symm hn)))]
   .have h1:=h n
    rw[dx o x r hn,dx o x s hn] at h1;exact h1
  rw[oz]
def comb:Option α->Option α->Option α
 |none,y=>y
 |some x,be=>AI x
 |some x,AI y=>AI (mx nw x y)
theorem vQ(x:Option α):comb nw x be=x:=by cases x<;>rfl
theorem yW(hk:Keyed o):∀(ms:List α) (m:α),bp o ms->∀n,get o (fS o nw ms m) n=if o m n=0 then comb nw (get o ms n) (AI m) else get o ms n
 |[],m,_,n=>by
  by_cases h:o m n=0
  .rw[if_pos h,fS,cD o m [] h];rfl
  .rw[if_neg h,fS,dx o m [] h]
 |x::r,m,hr,n=>by
  have ih:=yW hk r m (Om hr) n;rw[fS];by_cases aX:o x m<0
  .rw[if_pos aX]
   by_cases hx:o x n=0
   .rw[cD o x _ hx,cD o x r hx,if_neg (λe=>by have:=hk.CT hx (hk.symm e);omega)]
   .rw[dx o x _ hx,dx o x r hx,ih]
  .rw[if_neg aX]
   by_cases he:o x m=0
   .rw[if_pos he]
    by_cases hm:o m n=0
    .rw[if_pos hm,cD o x r (hk.CT he hm)]
     by_cases xd:nw m x=true
     .rw[if_pos xd,cD o m r hm];simp[comb,mx,xd]
     .rw[if_neg xd,cD o x r (hk.CT he hm)];simp[comb,mx,xd]
    .have hx:¬ o x n=0:=λe=>hm (hk.CT (hk.symm he) e)
     rw[if_neg hm,dx o x r hx];by_cases xd:nw m x=true
     .rw[if_pos xd,dx o m r hm]
     .rw[if_neg xd,dx o x r hx]
   .rw[if_neg he]
    by_cases hm:o m n=0
    .rw[if_pos hm,cD o m _ hm,get_none]
     .rfl
     .have hg:=(hk.gt x m).1 (by omega)
      intro z hz e;have h2:=hk.CT hm (hk.symm e);rcases IQ.1 hz with rfl|hz
      .omega
      .have:=hk.trans _ _ _ hg (JG hr hz)
       omega
    .rw[if_neg hm,dx o m _ hm]
theorem get_join(hk:Keyed o):∀(b a:List α),bp o a->bp o b->∀n,get o (join o nw a b) n=comb nw (get o a n) (get o b n)
 |[],a,_,_,n=>by rw[get_nil,vQ];rfl
 |m::r,a,ha,hb,n=>by
  have ih:=get_join hk r (fS o nw a m) (nF o nw hk a m ha) (Om hb) n;show get o (join o nw (fS o nw a m) r) n=_;rw[ih,yW o nw hk a m ha n];by_cases hm:o m n=0
  .rw[if_pos hm,cD o m r hm,get_none o (ms:=r) (λz hz e=>nG o hk hb z hz (hk.CT e (hk.symm hm))),vQ]
  .rw[if_neg hm,dx o m r hm]
def put(ms:List α)(m:α)(p:Nat)(f:Bool):List α:=ms.take p++m::ms.drop (if f=true then p+1 else p)
theorem Ha{ms:List α}{m:α}{p:Nat}{f:Bool}(h:At o d ms m p f)(hn:f=true->nw m (ms.getD p d)=true):fS o nw ms m=put ms m p f:=by
 rw[pI o nw d ms m p f h,put];cases f
 .simp
 .rw[if_pos rfl,if_pos (hn rfl),if_pos rfl,List.set_eq_take_append_cons_drop,if_pos (h.is.1 rfl).1]
end
end RL
namespace Wh
open Go.RowKit
structure bK where
 node:ByteArray
 x:Int
 y:Int
 z:Int
 h:Int
 s:Int
def dm:bK:=⟨ByteArray.empty,0,0,0,0,0⟩
def bK.ok(m:bK):Prop:=m.node.size<=Il
theorem sZ:dm.ok:=by simp[bK.ok,dm]
abbrev As(w:World)(b o:Nat)(m:bK):Prop:=w.cell? ⟨b,o,be⟩=AI (Y m.node)/\w.cell? ⟨b,o+1,be⟩=AI (U O m.x)/\w.cell? ⟨b,o+2,be⟩=AI (U O m.y)/\w.cell? ⟨b,o+3,be⟩=AI (U O m.z)/\w.cell? ⟨b,o+4,be⟩=AI (U O m.h)/\w.cell? ⟨b,o+5,be⟩=AI (U O m.s)
theorem As.re{w:World}{b o:Nat}{m:bK}(h:As w b o m):∀d os,As (Im (Iz w d) os) b o m:=λd os=>by
 obtain⟨c0,c1,c2,c3,c4,c5⟩:=h;exact⟨Iq c0 d os,Iq c1 d os,Iq c2 d os,Iq c3 d os,Iq c4 d os,Iq c5 d os⟩
theorem As.eq{w w':World}{b o:Nat}{m:bK}(h:As w b o m)(e:∀o,w'.cell? ⟨b,o,be⟩=w.cell? ⟨b,o,be⟩):As w' b o m:=by
 obtain⟨c0,c1,c2,c3,c4,c5⟩:=h;exact⟨(e _).trans c0,(e _).trans c1,(e _).trans c2,(e _).trans c3,(e _).trans c4,(e _).trans c5⟩
def Row(w:World)(b off:Nat)(ms:List bK):Prop:=∀j,j<ms.length->As w b (off+j*6) (ms.getD j dm)
def Sl(w:World)(v:Value)(ms:List bK):Prop:=
 ∃(a:Option Addr) (cap:Nat),v=J a ms.length cap/\(∀j,(ms.getD j dm).ok) /\
  (ms=[]\/∃b off,a=AI ⟨b,off,be⟩/\b<w.heap.size/\Row w b off ms)
def bK.cs(m:bK):List Value:=[Y m.node,U O m.x,U O m.y,U O m.z,U O m.h,U O m.s]
def fl(ms:List bK):List Value:=ms.flatMap bK.cs
theorem bD(m:bK):m.cs.length=6:=rfl
theorem bb(m:bK)(r:List bK):fl (m::r)=m.cs++fl r:=by simp[fl]
theorem cK(a b:List bK):fl (a++b)=fl a++fl b:=by simp[fl]
theorem cQ:∀ms:List bK,(fl ms).length=ms.length*6
 |[]=>rfl
 |m::r=>by rw[bb,Ig,cQ r,bD,Iw];omega
theorem fk:∀(ms:List bK) (i:Nat),(fl ms).take (i*6)=fl (ms.take i)
 |[],i=>by simp[fl]
 |m::r,0=>by simp[fl]
 |m::r,i+1=>by
  rw[bb,List.take_succ_cons,bb,show(i+1)*6=m.cs.length+i*6 by rw[bD];omega,List.take_length_add_append,fk r i]
theorem fm:∀(ms:List bK) (i:Nat),(fl ms).drop (i*6)=fl (ms.drop i)
 |[],i=>by simp[fl]
 |m::r,0=>by simp
 |m::r,i+1=>by
  rw[bb,List.drop_succ_cons,show(i+1)*6=m.cs.length+i*6 by rw[bD];omega,List.drop_length_add_append,fm r i]
theorem dh(m:bK):∀v∈m.cs,v.oneCell'=true:=by
 intro v hv;simp[bK.cs] at hv;rcases hv with rfl|rfl|rfl|rfl|rfl|rfl<;>rfl
theorem gV(ms:List bK):∀v∈fl ms,v.oneCell'=true:=by
 intro v hv;obtain⟨m,_,h⟩:=List.mem_flatMap.1 hv;exact dh m v h
theorem ei(ms:List bK)(j:Nat)(hj:j<ms.length)(t:Nat)(ht:t<6):(fl ms)[j*6+t]?=(ms.getD j dm).cs[t]?:=by
 induction ms generalizing j with
 |nil=>simp at hj
 |cons m r ih=>
  rw[bb];cases j with
  |zero=>rw[List.getElem?_append_left (by rw[bD];omega)];simp
  |succ j=>
   rw[List.getElem?_append_right (by rw[bD];omega),bD,show(j+1)*6+t-6=j*6+t by omega,ih j (by simpa using hj)];simp
theorem oA(ms:List bK)(p:Nat)(hp:p<ms.length)(m:bK):(((((((fl ms).set (p*6) (Y m.node)).set (p*6+1) (U O m.x)).set (p*6+2) (U O m.y)).set (p*6+3) (U O m.z)).set (p*6+4) (U O m.h)).set (p*6+5) (U O m.s))=fl (ms.set p m):=by
 induction ms generalizing p with
 |nil=>simp at hp
 |cons x r ih=>
  cases p with
  |zero=>simp[fl,bK.cs]
  |succ p=>
   have MD:=ih p (by simpa using hp);rw[Ou,bb,bb,<- MD];simp only[Nat.add_mul,Nat.one_mul];have e:∀(l:List Value) (k:Nat) (v:Value),(x.cs++l).set (k+6) v=x.cs++l.set k v:=λl k v=>by
    rw[List.set_append,if_neg (by rw[bD];omega),bD,Nat.add_sub_cancel]
   have c:∀i:Nat,p*6+6+i=(p*6+i)+6:=λi=>by omega
   simp only[c];rw[e,e,e,e,e,e]
abbrev Own(base:Nat)(w:World)(v:Value)(ms:List bK):Prop:=w.ownsRow base 116 6 v ms.length (fl ms)
theorem iC{base g G:Nat}{w:World}{cur:Array Value}{ms:List bK}(hb:base<=g)(hg:w.heap[g]?=AI (By cur 116 (0,0)))(hs:cur.size=G*6)(hn:ms.length<=G)(hG:G<=Il)(ht:cur.toList.take (ms.length*6)=fl ms) :
 Own base w (J (AI ⟨g,0,be⟩) ms.length G) ms:=⟨cQ ms,.inr ⟨g,G,cur,rfl,hb,hg,hn,hG,hs,ht⟩⟩
theorem Own.sl{base:Nat}{w:World}{v:Value}{ms:List bK}(h:Own base w v ms)(hs:∀j,(ms.getD j dm).ok):Sl w v ms:=by
 rcases h.2 with⟨rfl,h0⟩|⟨g,c,cur,rfl,eD,hg,fP,dR,cf,bj⟩
 .exact⟨be,0,by rw[h0],hs,.inl (List.eq_nil_of_length_eq_zero h0)⟩
 .refine⟨_,c,rfl,hs,.inr ⟨g,0,rfl,(BY.1 hg).1,λj hj=>?_⟩⟩
  have hc:∀t,t<6->w.cell? ⟨g,0+j*6+t,be⟩=(ms.getD j dm).cs[t]?:=λt ht=>by
   rw[ae hg,<- ei ms j hj t ht,<- bj,IN (by omega)];simp
  exact⟨hc 0 (by omega),hc 1 (by omega),hc 2 (by omega),hc 3 (by omega),hc 4 (by omega),hc 5 (by omega)⟩
theorem Own.below{base:Nat}{w w':World}{v:Value}{ms:List bK}(h:Own base w v ms)(hb:Below w.heap.size w w'):Own base w' v ms:=by
 rcases h.2 with⟨rfl,h0⟩|⟨g,c,cur,rfl,eD,hg,fP,dR,cf,bj⟩
 .exact⟨h.1,.inl ⟨rfl,h0⟩⟩
 .have aX:=(BY.1 hg).1
  exact⟨h.1,.inr ⟨g,c,cur,rfl,eD,(hb.block g aX).trans hg,fP,dR,cf,bj⟩⟩
theorem Own.lt{base:Nat}{w:World}{v:Value}{ms:List bK}(h:Own base w v ms)(k:Nat)(hk:v.ownBlock=AI k):base<=k/\k<w.heap.size:=OK h k hk
theorem fq{base:Nat}{w w1 w2:World}{v:Value}{ms:List bK}(hb:Below base w w1)(h:Own base w1 v ms)(hg:w1.grownBy w2 v.ownBlock)(hbase:base<=w1.heap.size):Below base w w2:=
 hb.grown hg hbase (λk hk=>(h.lt k hk).1)
theorem eE{base g c:Nat}{w:World}{ms:List bK}(h:Own base w (J (AI ⟨g,0,be⟩) ms.length c) ms)(j:Nat)(hj:j<ms.length) :
 As w g (j*6) (ms.getD j dm):=by
 rcases h.2 with⟨h1,_⟩|⟨g',c',cur,h1,eD,hg,fP,dR,cf,bj⟩
 .cases h1
 .simp only[Value.slice.injEq,Option.some.injEq,Addr.mk.injEq] at h1
  obtain⟨⟨rfl,_,_⟩,_,_⟩:=h1;have hc:∀t,t<6->w.cell? ⟨g,j*6+t,be⟩=(ms.getD j dm).cs[t]?:=λt ht=>by
   rw[ae hg,<- ei ms j hj t ht,<- bj,IN (by omega)];simp
  exact⟨hc 0 (by omega),hc 1 (by omega),hc 2 (by omega),hc 3 (by omega),hc 4 (by omega),hc 5 (by omega)⟩
theorem jT{base:Nat}{w:World}{v:Value}{ms:List bK}(h:Own base w v ms)(p:Nat)(hp:p<ms.length):∃g c,v=J (AI ⟨g,0,be⟩) ms.length c:=by
 rcases h.2 with⟨_,h0⟩|⟨g,c,cur,h1,_⟩
 .omega
 .exact⟨g,c,h1⟩
theorem lK{base g c p:Nat}{W:World}{ms:List bK}(h:Own base W (J (AI ⟨g,0,be⟩) ms.length c) ms)(hp:p<ms.length)(m:bK) :
 Own base ((((((W.setCell ⟨g,p*6,be⟩ (Y m.node)).setCell ⟨g,p*6+1,be⟩ (U O m.x)).setCell ⟨g,p*6+2,be⟩ (U O m.y)).setCell ⟨g,p*6+3,be⟩ (U O m.z)).setCell ⟨g,p*6+4,be⟩ (U O m.h)).setCell ⟨g,p*6+5,be⟩ (U O m.s)) (J (AI ⟨g,0,be⟩) ms.length c) (ms.set p m):=by
 have h1:=II h (p*6) (Y m.node);have h2:=II h1.1 (p*6+1) (U O m.x);have h3:=II h2.1 (p*6+2) (U O m.y);have h4:=II h3.1 (p*6+3) (U O m.z);have h5:=II h4.1 (p*6+4) (U O m.h);have h6:=II h5.1 (p*6+5) (U O m.s);have e:=h6.1;rw[oA ms p hp m] at e;show World.ownsRow _ _ _ _ _ (ms.set p m).length _;rw[List.length_set];exact e
theorem Sl.below{w w':World}{v:Value}{ms:List bK}(h:Sl w v ms)(hb:Below w.heap.size w w'):Sl w' v ms:=by
 obtain⟨a,cap,rfl,hs,h⟩:=h;refine⟨a,cap,rfl,hs,?_⟩;rcases h with h|⟨b,off,rfl,aX,hr⟩
 .exact .inl h
 .refine .inr ⟨b,off,rfl,IL aX hb.size,λj hj=>?_⟩
  exact(hr j hj).eq (λo=>(cC hb).1 b o aX)
theorem Row.later{w w':World}{b off:Nat}{ms:List bK}(hr:Row w b off ms)(hb:Below w.heap.size w w')(aX:b<w.heap.size):Row w' b off ms:=λj hj=>(hr j hj).eq (λo=>(cC hb).1 b o aX)
theorem Own.mono{base iX:Nat}{w:World}{v:Value}{ms:List bK}(h:Own base w v ms)(hb:iX<=base):Own iX w v ms:=by
 rcases h.2 with⟨rfl,h0⟩|⟨g,c,cur,rfl,eD,hg,fP,dR,cf,bj⟩
 .exact⟨h.1,.inl ⟨rfl,h0⟩⟩
 .exact⟨h.1,.inr ⟨g,c,cur,rfl,Ir hb eD,hg,fP,dR,cf,bj⟩⟩
theorem b9(base:Nat)(w:World):Own base w (J be 0 0) []:=World.ownsRow_nil w base 116 6
theorem dy{ms:List bK}(h:∀j,(ms.getD j dm).ok):∀m∈ms,(m).ok:=by
 intro m hm;obtain⟨j,hj,rfl⟩:=List.getElem_of_mem hm;have:=h j;simpa[Ip,If hj] using this
theorem cy{ms:List bK}(h:∀m∈ms,(m).ok):∀j,(ms.getD j dm).ok:=by
 intro j;by_cases hj:j<ms.length
 .have:=h ms[j] (IJ hj)
  simpa[Ip,If hj] using this
 .rw[Ip,List.getElem?_eq_none (Nat.le_of_not_lt hj)];exact sZ
theorem bF{base:Nat}{w:World}{v:Value}{ms:List bK}(h:Own base w v ms)(hs:∀m∈ms,(m).ok):Sl w v ms:=h.sl (cy hs)
theorem jU{base:Nat}{w:World}{v:Value}{L:List bK}{m:bK}(h:w.ownsRow base 116 6 v (L.length+1) (fl L++m.cs)):Own base w v (L++[m]):=by
 have e:fl (L++[m])=fl L++m.cs:=by rw[cK,bb];simp[fl]
 show w.ownsRow base 116 6 v (L++[m]).length (fl (L++[m]));rw[e,Ig];exact h
end Wh
end Go.Proofs.YtfidhgjmifendaaGreatDoor
namespace Go.Proofs.YtfidhgjmifendaaGreatDoor
open Go.RowKit
theorem jB(e:Int)(w:World) :
 Calls AS 118 #[Ia true,U O e] w λx w'=>x=AT (Ik #[])/\w'=w:=by
 go_enter Tryz.func118,Tryz.ntmps118;go_wp2_with fail;simp[JV,results,Tryz.results118]
theorem A9(p:Addr)(w:World) :
 CallsD AS 191 #[Ie (AI p)] .returning w λe u' w'=>e=AT (Ik #[])/\u'=.returning/\w'=w:=by
 refine callsD_of_wpS Tryz.func191 rfl λc₀ cs hu=>?_;apply wpS_seq;apply wpS_region;simp[wpOpsS,go_sem,recoverD,hu,Tryz.ntmps191,Exit.thenS,Array.replicate];refine wpS_of_wp ?_;go_wp2_with fail;cases c₀
 simp_all [bodyPostS,results,Tryz.results191]
theorem Ba(f:Nat)(RJ:Array Value)(w:World)(R:World->Prop)(ef:∀args W,(callFunc f args).run AS W=.ok (.enter f args) W)(hw:Calls AS f RJ (w.alloc (By #[U O 0] 31)) λr w'=>r=AT (Ik #[])/\R w'/\w'.cell? ⟨w.heap.size,0,be⟩=AI (U O 0)/\w'.frozen? ⟨w.heap.size,0,be⟩=false/\w.heap.size<w'.heap.size) :
 Calls AS 119 #[.func (.func f) #[] RJ] w λr w'=>r=AT (U O 0)/\∃w1,R w1/\w.heap.size<w1.heap.size/\w'=w1.setCell ⟨w.heap.size,0,be⟩ (U O 0):=by
 have hmf:∀(fn:Fn) (first cap:Array Value) (w:World),(Instr.makeFunc fn first cap).run AS w=.ok (.func fn first cap) w:=λ_ _ _ _=>rfl;have HW:Hid (Calls AS f RJ (w.alloc (By #[U O 0] 31)) λr w'=>r=AT (Ik #[])/\Hid (R w')/\w'.cell? ⟨w.heap.size,0,be⟩=AI (U O 0)/\w'.frozen? ⟨w.heap.size,0,be⟩=false/\w.heap.size<w'.heap.size):=hw;clear hw;go_enter_defers Tryz.func119,Tryz.ntmps119
 go_wp2_with fail;refine HW.out.mono ?_;rintro e w1 ⟨rfl,HR,h1,h2,h3⟩;go_wp2_with fail;refine leaves_cons (f:=191) (args:=#[Ie (AI ⟨w.heap.size,0,be⟩)]) (by simp) (by simp[go_sem]) ?_;refine(A9 ⟨w.heap.size,0,be⟩ _).mono ?_;rintro e u' fT ⟨rfl,rfl,rfl⟩;simp[Leaves,settle,results,Tryz.results119,go_sem,h1];exact⟨w1,HR.out,h3,rfl⟩
end Go.Proofs.YtfidhgjmifendaaGreatDoor
namespace Go.Proofs
open Go.Shelf
end Go.Proofs
namespace Go.Proofs.YtfidhgjmifendaaGreatDoor
open Go.RowKit
theorem Tryz.infoByte:(Tryz.prog.info? 5).map (λi=>(i.zero,i.size,i.bytes))=AI (AI (U .u8 0),1,1):=by kernel_rfl
theorem Tryz.sizeBuilder:(Tryz.prog.info? 268).map (·.size)=AI 2:=by kernel_rfl
theorem Tryz.Bb:liesAt AS Tryz.prog.depth 270 (2/Tryz.prog.cellsOf 270) 0 268 1=true:=by kernel_rfl
abbrev Mb(B b:Nat)(p:Value)(bs:List Value)(w:World):Prop:=Lib.BuilderAt 270 5 B b p bs w
def cY(B b:Nat)(bs:List Value)(w:World):Prop:=Mb B b (Ie be) bs w\/Mb B b (Ie (AI ⟨b,0,be⟩)) bs w
def oo(w:World)(b:Nat):Option Nat:=(w.cell? ⟨b,1,be⟩).bind Jz
def Kq(b:Nat)(w w':World):Prop:=b<w.heap.size->(∀k,k<w.heap.size->k≠b->AI k≠oo w b->w'.heap[k]?=w.heap[k]?)/\(oo w' b=oo w b\/∀k,oo w' b=AI k->w.heap.size<=k)
structure Kp(B b:Nat)(w w':World):Prop where
 jH:Below B w w'
 T8:Lib.OthersKept 5 (AI b) w w'
 kq:Kq b w w'
theorem Kq.refl(b:Nat)(w:World):Kq b w w:=λ_=>⟨λ_ _ _ _=>rfl,.inl rfl⟩
theorem Kq.trans{b:Nat}{w w1 w2:World}(h:Kq b w w1)(k:Kq b w1 w2)(hs:w.heap.size<=w1.heap.size):Kq b w w2:=λhb=>by
 obtain⟨h1,h2⟩:=h hb;obtain⟨k1,k2⟩:=k (IL hb hs);refine⟨λj hj VK xe=>?_,?_⟩
 .refine(k1 j (IL hj hs) VK λe=>?_).trans (h1 j hj VK xe)
  rcases h2 with h2|h2
  .exact xe (e.trans h2)
  .have:=h2 j e.symm;omega
 .rcases k2 with k2|k2
  .rcases h2 with h2|h2
   .exact .inl (k2.trans h2)
   .exact .inr λj hj=>h2 j (k2▸hj)
  .exact .inr λj hj=>Ir hs (k2 j hj)
theorem Kp.refl(B b:Nat)(w:World):Kp B b w w:=⟨Below.refl _ _,Lib.OthersKept.refl _ _ _,Kq.refl b w⟩
theorem Kp.trans{B b:Nat}{w w1 w2:World}(h:Kp B b w w1)(k:Kp B b w1 w2):Kp B b w w2:=⟨h.jH.trans k.jH,h.T8.trans k.T8,h.kq.trans k.kq h.jH.size⟩
theorem Kp.size{B b:Nat}{w w1:World}(h:Kp B b w w1):w.heap.size<=w1.heap.size:=h.jH.size
theorem Kq.step{b:Nat}{w1 w2:World}{p v v':Value}{T:I5}(aB:w1.heap[b]?=AI (By #[p,v] T (0,0)))(aK:w2.heap[b]?=AI (By #[p,v] T (0,0)))(hg:∀k,k<w1.heap.size->AI k≠v.ownBlock->w2.heap[k]?=w1.heap[k]?)(cH:v'.ownBlock=v.ownBlock\/∀k,v'.ownBlock=AI k->w1.heap.size<=k):Kq b w1 (w2.setCell ⟨b,1,be⟩ v'):=λ_=>by
 have e1:oo w1 b=v.ownBlock:=by unfold oo;rw[ae aB 1];rfl
 have e2:oo (w2.setCell ⟨b,1,be⟩ v') b=v'.ownBlock:=by unfold oo;rw[World.cell?_setCell_same _ _ _ (ae aK 1:w2.cell? ⟨b,1,be⟩=AI v)];rfl
 rw[e1,e2];exact⟨λk hk VL eV=>(Below.heap_setCell w2 _ v' k VL).trans (hg k hk eV),cH⟩
theorem yX{B n:Nat}{w:World}{v:Value}{xs:List Value}(h:w.ownsRow B 5 1 v n xs):∀g,v.ownBlock=AI g->∃c fz,w.heap[g]?=AI (By c 5 fz):=by
 intro g hg;rcases h.2 with⟨rfl,_⟩|⟨g',cap,cur,rfl,_,VM,_⟩
 .simp[Jz] at hg
 .simp[Jz] at hg
  subst hg;exact⟨cur,_,VM⟩
theorem Bc(b:Nat)(w:World)(h0:w.cell? ⟨b,0,be⟩=AI (Ie be))(AR:w.shape? b=AI (270,2))(rI:w.frozen? ⟨b,0,be⟩=false) :
 aI 300 #[Ie (AI ⟨b,0,be⟩)] w λe w'=>e=AT (Ik #[])/\w'=w.setCell ⟨b,0,be⟩ (Ie (AI ⟨b,0,be⟩)):=by
 obtain⟨j,hj,hjs⟩:=Option.map_eq_some_iff.1 Tryz.sizeBuilder;go_enter Tryz.func300,Tryz.ntmps300;go_wp2_with fail;rw[Lib.run_to_unsafe w ⟨b,0,be⟩ Tryz.underlying265 Tryz.underlying338 hj (by rw[hjs];decide) AR (Nat.zero_lt_succ 1)];simp only[Result.andThen];rw[Oper.upon_value];go_wp2_with fail;rw[OF Tryz.func310 (by kernel_rfl) (by kernel_rfl) (by kernel_rfl) (e:=Extern.AbiNoEscape.same) (by kernel_rfl)];rw[Lib.run_noEscape];simp only[Result.andThen];rw[Oper.upon_value];go_wp2_with fail;rw[Lib.run_from_unsafe w ⟨b,0,be⟩ Tryz.underlying338 Tryz.underlying265 hj AR Tryz.Bb];simp only[Result.andThen];rw[Oper.upon_value];go_wp2_with fail;simp[JV,results,Tryz.results300]
theorem D6(b:Nat)(w:World)(h0:w.cell? ⟨b,0,be⟩=AI (Ie (AI ⟨b,0,be⟩))) :
 aI 300 #[Ie (AI ⟨b,0,be⟩)] w λe w'=>e=AT (Ik #[])/\w'=w:=by
 obtain⟨j,hj,_⟩:=Option.map_eq_some_iff.1 Tryz.sizeBuilder;go_enter Tryz.func300,Tryz.ntmps300;go_wp2_with fail;rw[Lib.run_neq_ptr_same w _ Tryz.underlying265 hj];go_wp2_with fail;simp[JV,results,Tryz.results300]
theorem yY(B b:Nat)(bs:List Value)(w:World)(h:cY B b bs w) :
 aI 300 #[Ie (AI ⟨b,0,be⟩)] w λe w'=>e=AT (Ik #[])/\Mb B b (Ie (AI ⟨b,0,be⟩)) bs w'/\Kp B b w w':=by
 rcases h with h|h
 .refine(Bc b w h.cell0 h.shape h.frozen0).mono ?_
  rintro e w' ⟨rfl,rfl⟩;exact⟨rfl,h.used _,(Below.refl B w).setCell (p:=⟨b,0,be⟩) h.1 _,(Lib.OthersKept.refl _ _ w).setCell ⟨b,0,be⟩ rfl _,λ_=>⟨λk _ VL _=>Below.heap_setCell w _ _ k VL,.inl (by unfold oo;rw[World.cell?_setCell_other _ _ _ _ (by simp)])⟩⟩
 .refine(D6 b w h.cell0).mono ?_
  rintro e w' ⟨rfl,rfl⟩;exact⟨rfl,h,Kp.refl B b _⟩
theorem ve(B b:Nat)(bs:List Value)(c:Int)(w:World)(h:cY B b bs w)(hlen:bs.length+1<=1000000)(gW:B<=w.heap.size) :
 aI 285 #[Ie (AI ⟨b,0,be⟩),U .u8 c] w λe w'=>e=AT .nilIface/\Mb B b (Ie (AI ⟨b,0,be⟩)) (bs++[U .u8 c]) w'/\Kp B b w w':=by
 obtain⟨i0,hi,di,da,nW⟩:=info_parts Tryz.infoByte;have HC:Hid (aI _ _ _ _):=yY B b bs w h;clear h;go_enter Tryz.func285,Tryz.ntmps285;go_wp2_with fail;refine HC.out.mono ?_;rintro e w1 ⟨rfl,h1,aB⟩;obtain⟨hB,v,CU,hown,aQ⟩:=h1;have c0:=ae CU 0;have c1:=ae CU 1;have D7:=aB.size;have HO:Hid (w1.ownsRow _ _ _ _ _ _):=hown;have HK:Hid _:=CU;clear hown CU;go_wp2_with (at_builtin;refine wpList_append_own_at _ rfl _ _ 266 rfl B 5 i0 (U .u8 0) 1 1 Qo hi di da nW rfl (by decide) _ bs.length bs rfl (HO.out.alloc _) ⟨w1.heap.size,0,be⟩ 1 1 [U .u8 c] rfl rfl ?c1 ?c2 ?c3 ?c4 ?c5 ?_)
 case c1=>(intro j u hj;rw[Addr.add_lit];exact(dC (by simp)).trans (by simpa using hj))
 case c2=>(intro u hu;simp at hu;subst hu;rfl)
 case c3=>(unfold Il;omega)
 case c4=>omega
 case c5=>(simp;omega)
 intro v' w2 s9 fN _ cH;have aX:=(BY.1 HK.out).1;have aK:w2.heap[b]?=AI (By #[Ie (AI ⟨b,0,be⟩),v] 270 (0,0)):=by
  rw[fN.block b (by simp;omega) (λe=>aQ e.symm),On w1 _ b aX];exact HK.out
 have d0:=ae aK 0;have d1:=ae aK 1;have f1:=Lib.frozen_of_heap aK 1;have bu:Hid (Below B w w2/\Lib.OthersKept 5 (AI b) w w2):=(show _/\_ from⟨(aB.jH.alloc (by omega) _).grown fN (by simp;omega) (λk hk=>(HO.out.lt k hk).1),(aB.T8.alloc _).grown fN (yX (HO.out.alloc _))⟩);have HKQ:Hid (Kq _ _ _):=aB.kq.trans (Kq.step HK.out aK (λk hk eV=>(fN.block k (by simp;omega) eV).trans (On w1 _ k hk)) (cH.imp id (λe k hk=>by rw[e] at hk;simp at hk;omega))) D7;have pM:Hid _:=aK;have iq:Hid (w2.ownsRow _ _ _ _ _ _):=s9;obtain⟨g,cap,hv⟩:∃g cap,v'=J (AI ⟨g,0,be⟩) (bs.length+1) cap:=by
  rcases s9.2 with⟨_,h0⟩|⟨g,cap,cur,hv,_⟩
  .omega
  .exact⟨g,cap,hv⟩
 subst hv;clear s9 fN aK c0 c1 aB cH;go_wp2_with fail;go_ret;refine⟨rfl,?_,?_⟩
 .exact Lib.BuilderAt.put (T:=270) (e:=5) hB pM.out (bs':=bs++[U .u8 c]) (by simpa using iq.out) (by decide)
 .exact⟨bu.out.1.setCell (p:=⟨b,1,be⟩) hB _,bu.out.2.setCell ⟨b,1,be⟩ rfl _,HKQ.out⟩
theorem tf{P:Program}{w W:World}{base n:Nat}{t u ty e:I5}{i:TypeInfo}{v v':Value}{xs:List Value}{s:ByteArray}(ht:P.underlying t=AI (.slice e))(hu:P.underlying u=AI .string)(hi:P.info? e=AI i)(hz:i.zero=AI (U .u8 0))(iY:i.size=1)(VN:i.bytes=1)(hown:w.ownsRow base e 1 v n xs)(h63:n+s.size<=Il)(hbytes:n+s.size<=140737488355328)(hr:(Builtin.append_ #[t,u] ty #[v,Y s]).run P w=.ok v' W)(gX:v'=J be 0 0↔v=J be 0 0/\s.size=0):v'.ownBlock=v.ownBlock\/v'.ownBlock=AI w.heap.size:=by
 have hm:n+s.size<=9223372036854775807:=by simp only[Il] at h63;omega
 have hxl:xs.length=n:=by simpa using hown.1
 rcases hown.2 with⟨rfl,rfl⟩|⟨g,cap,cur,rfl,_,hg,_,_,cf,_⟩
 .by_cases h0:s.size=0
  .exact .inl (by rw[gX.2 ⟨rfl,h0⟩])
  .rw[run_append_nil_string (P:=P) w t u ty e i (U .u8 0) ht hu hi hz s (by omega) (by omega) (by rw[VN];omega)] at hr
   injection hr with h1 _;exact .inr (by rw[<- h1];rfl)
 .by_cases dz:n+s.size<=cap
  .rw[Lib.run_append_room_string (P:=P) w t u ty e i ht hu hi iY g n cap cur hg s dz (by have:=cf;omega)] at hr
   injection hr with h1 _;exact .inl (by rw[<- h1];rfl)
  .rw[Lib.run_append_grow_string (P:=P) w t u ty e i (U .u8 0) ht hu hi hz ⟨g,0,be⟩ n cap xs (by rw[iY];simpa using hxl) (hown.cells (g:=g) rfl) s (by omega) (by omega) (by rw[VN];exact growslice_fits (by omega) (by omega))] at hr
   injection hr with h1 _;exact .inr (by rw[<- h1];rfl)
theorem oB{P:Program}(w:World){ops:Array Oper}{rest:List Oper}{o:Oper}{a:Act}{Q:Exit->Act->World->Prop}(hgd:o.guard=be)(sl x:Operand)(t u:I5)(ho:o.op=.call { callee:=.builtin .append,args:=#[sl,x],argTypes:=#[t,u] })(base:Nat)(e:I5)(i:TypeInfo)(ht:P.underlying t=AI (.slice e))(hu:P.underlying u=AI .string)(hi:P.info? e=AI i)(hz:i.zero=AI (U .u8 0))(iY:i.size=1)(VN:i.bytes=1)
 (v:Value) (n:Nat) (xs:List Value) (hs:a.eval sl=v) (hown:w.ownsRow base e 1 v n xs) (s:ByteArray) (hx:a.eval x=Y s) (h63:n+s.size<=Il) (hbytes:n+s.size<=140737488355328) (hbase:base<=w.heap.size)
 (h:∀v' w',w'.ownsRow base e 1 v' (n+s.size) (xs++Ol s)->w.grownBy w' v.ownBlock->(v'.ownBlock=v.ownBlock\/v'.ownBlock=AI w.heap.size)->wpList P ops Q rest (a.put o.dst v') w'):wpList P ops Q (o::rest) a w:=by
 obtain⟨v',w',hr,h2,h3,h4⟩:=Lib.run_append_own_string (P:=P) w base t u o.type e i ht hu hi hz iY VN v n xs hown s h63 hbytes hbase;have h5:=tf ht hu hi hz iY VN hown h63 hbytes hr h4;refine wpList_plain hgd λK hK=>?_;have yJ:=hK _ _ (h v' w' h2 h3 h5);simp only[Oper.wp,execOp,ho,resolve,invoke,builtin,Sem.run_bind,Sem.run_pure,Result.andThen_ok,List.map_toArray,List.map_cons,List.map_nil,hs,hx,hr];exact yJ
theorem mu(B b:Nat)(bs:List Value)(s:ByteArray)(w:World)(h:cY B b bs w)(hlen:bs.length+s.size<=1000000)(gW:B<=w.heap.size) :
 aI 284 #[Ie (AI ⟨b,0,be⟩),Y s] w λe w'=>e=AT (Ik #[U O s.size,.nilIface])/\Mb B b (Ie (AI ⟨b,0,be⟩)) (bs++Ol s) w'/\Kp B b w w':=by
 obtain⟨i0,hi,di,da,nW⟩:=info_parts Tryz.infoByte;have HC:Hid (aI _ _ _ _):=yY B b bs w h;clear h;go_enter Tryz.func284,Tryz.ntmps284;go_wp2_with fail;refine HC.out.mono ?_;rintro e w1 ⟨rfl,h1,aB⟩;obtain⟨hB,v,CU,hown,aQ⟩:=h1;have c0:=ae CU 0;have c1:=ae CU 1;have D7:=aB.size;have HO:Hid (w1.ownsRow _ _ _ _ _ _):=hown;have HK:Hid _:=CU;clear hown CU;go_wp2_with (at_builtin;refine oB _ rfl _ _ 266 9 rfl B 5 i0 Qo Tryz.underlying9 hi di da nW _ bs.length bs rfl HO.out s rfl ?c3 ?c4 ?c5 ?_)
 case c3=>(unfold Il;omega)
 case c4=>omega
 case c5=>omega
 intro v' w2 s9 fN cH;have aX:=(BY.1 HK.out).1;have aK:w2.heap[b]?=AI (By #[Ie (AI ⟨b,0,be⟩),v] 270 (0,0)):=by
  rw[fN.block b aX (λe=>aQ e.symm)];exact HK.out
 have d0:=ae aK 0;have d1:=ae aK 1;have f1:=Lib.frozen_of_heap aK 1;have bu:Hid (Below B w w2/\Lib.OthersKept 5 (AI b) w w2):=(show _/\_ from⟨aB.jH.grown fN (by omega) (λk hk=>(HO.out.lt k hk).1),aB.T8.grown fN (yX HO.out)⟩);have HKQ:Hid (Kq _ _ _):=aB.kq.trans (Kq.step HK.out aK (λk hk eV=>fN.block k hk eV) (cH.imp id (λe k hk=>by rw[e] at hk;simp at hk;omega))) D7;have pM:Hid _:=aK;have iq:Hid (w2.ownsRow B 5 1 v' (bs++Ol s).length (bs++Ol s)):=(show World.ownsRow _ _ _ _ _ _ _ by simpa[Lib.strCells_length] using s9);obtain⟨ao,n',cap,hv⟩:∃ao n' cap,v'=J ao n' cap:=by
  rcases s9.2 with⟨hv,_⟩|⟨g,cap,cur,hv,_⟩
  .exact⟨_,_,_,hv⟩
  .exact⟨_,_,_,hv⟩
 subst hv;clear s9 fN aK c0 c1 aB cH;go_wp2_with fail;go_ret2;refine⟨rfl,?_,?_⟩
 .exact Lib.BuilderAt.put (T:=270) (e:=5) hB pM.out (bs':=bs++Ol s) iq.out (by decide)
 .exact⟨bu.out.1.setCell (p:=⟨b,1,be⟩) hB _,bu.out.2.setCell ⟨b,1,be⟩ rfl _,HKQ.out⟩
end Go.Proofs.YtfidhgjmifendaaGreatDoor
