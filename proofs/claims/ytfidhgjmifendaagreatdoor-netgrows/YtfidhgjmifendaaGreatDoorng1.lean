import Derived.Test.YtfidhgjmifendaaGreatDoorProg
import Derived.WalkSpells
import Derived.WalkLawsBesides
import Derived.Lib.AppendZerosOnto
import Derived.Lib.Overlaps
import Derived.Lib.QuietBelow
import Derived.Shelf.Strings.Builder1
import Derived.Shelf.Small.Strs
import Derived.Shelf.Strconv.Itoa3
import Derived.Shelf.Strconv.AtoiAll
import Derived.Shelf.Strings.Shaped
import Derived.Shelf.SlSortCmp.NoneTotal
import Derived.Deep.RegionHeld3
import Derived.Lib.SmallJoins
set_option maxHeartbeats 2000000
set_option maxRecDepth 100000
open Go.Proofs.Tryz renaming prog→AS,underlying266→Qo,underlying3→IF
open Go.Ending renaming returned→AT
open Go.Value renaming bool→Ia,int→U,string→Y,slice→J,tuple→Im,pointer→If,ownBlock→Jx
open List renaming take_succ_eq_append_getElem→II,getElem_mem→IG,pairwise_cons→JD,mem_cons→IQ,rel_of_pairwise_cons→JG,getD→Iq,getElem?_eq_getElem→Ie,getD_cons_zero→I2,set_cons_succ→Oq,foldl_cons→OA,length_cons→Iz,length_append→Ih,getElem?_take_of_lt→IM
open Go.IntKind renaming i64→O
open Bool renaming eq_iff_iff→Oy,and_eq_true→IW
open Go renaming maxLen→Io,run_callFunc_extern→OE,TypeId→I4,redrawn→Iv,cell_regrown→Ig,bodyPost→JU
open Option renaming none→be,some→AI
open Go.Op renaming bytesLess→Ji
open UInt8 renaming lt_iff_toNat_lt→JV
open Go.Lib renaming compareBytes→Jv,toList_data→JR,alloc_old→Ob,strCells→Oj
open Go.Obj renaming cells→By
open Nat renaming le_refl→Ic,lt_or_eq_of_le→Qm,lt_of_lt_of_le→IJ,le_trans→Ir
open Go.Sort renaming grow→Ij
open List.Pairwise renaming of_cons→Ol
open Array renaming getElem?_eq_some_iff→BY
open Go.World.ownsRow renaming lt→OI,stored→IK
open Go.DataW renaming trod_int→JZ
namespace Go.Proofs.YtfidhgjmifendaaGreatDoor
open Go.RowKit
abbrev aF(f:Nat)(a:Array Value)(w:World)(p:Ending->World->Prop):Prop:=Calls AS f a w p
abbrev kt(f:Nat)(a:Array Value)(w:World)(v:Value):Prop:=Calls AS f a w λe w'=>e=AT v/\Below w.heap.size w w'
def within(n a b:Int):Bool:=decide (a<=n)&&decide (n<=b)
def GA(n:Int):Bool:=(decide (97<=n)&&decide (n<=122))||(decide (48<=n)&&decide (n<=57))||decide (n=45)||decide (n=95)
def ba(s:ByteArray):Bool:=decide (1<=s.size)&&decide (s.size<=30)&&s.data.toList.all (λc=>GA c.toNat)
theorem aL{a b:Bool}(h:a=b):AT (Ia a)=AT (Ia b):=by rw[h]
theorem ai{k:IntKind}{a b:Int}(h:a=b):AT (U k a)=AT (U k b):=by rw[h]
theorem DH(s:ByteArray)(k:Nat)(h:k<s.size):s.data.toList.take (k+1)=s.data.toList.take k++[s[k]]:=by
 rw[II (by simpa using h)];rfl
theorem GB(s:ByteArray)(k:Nat)(h:s.size<=k):s.data.toList.take k=s.data.toList:=
 List.take_of_length_le (by simpa using h)
theorem DI(s:ByteArray)(k:Nat)(h:k<s.size)(hk:(s.data.toList.take k).all (λc=>GA c.toNat)=true)(hb:GA (s[k].toNat:Int)=true) : (s.data.toList.take (k+1)).all (λc=>GA c.toNat)=true:=by
 rw[DH s k h,List.all_append,hk];simp[hb]
theorem GC(s:ByteArray)(k:Nat)(h:k<s.size)(hb:GA (s[k].toNat:Int)=false):ba s=false:=by
 have:s.data.toList.all (λc=>GA c.toNat)=false:=by
  rw[List.all_eq_false];refine⟨s[k],?_,by simp[hb]⟩;exact IG (l:=s.data.toList) (n:=k) (by simpa using h)
 simp[ba,this]
theorem cf(n a b:Int)(w:World) :
 Calls AS 54 #[U O n,U O a,U O b] w λe w'=>e=AT (Ia (within n a b))/\w'=w:=by
 go_enter Tryz.func54,Tryz.ntmps54;go_wp2;all_goals
  go_ret;exact⟨aL (by unfold within;rw[Oy];simp;try omega),rfl⟩
theorem eF(n:Int)(w:World) :
 Calls AS 35 #[U O n] w λe w'=>e=AT (Ia (within n 0 4294967295))/\w'=w:=by
 go_enter Tryz.func35,Tryz.ntmps35;go_wp2_with (go_at_call 54;refine(cf _ _ _ _).mono ?_;rintro e w' ⟨rfl,rfl⟩);go_ret;exact⟨rfl,rfl⟩
theorem nI(n:Int)(w:World) :
 Calls AS 98 #[U .u8 n] w λe w'=>e=AT (Ia (GA n))/\w'=w:=by
 go_enter Tryz.func98,Tryz.ntmps98;go_wp2;all_goals
  go_ret;exact⟨aL (by unfold GA;rw[Oy];simp;try omega),rfl⟩
theorem bQ(s:ByteArray)(w:World)(hs:s.size<=Io) :
 Calls AS 53 #[Y s] w λe w'=>e=AT (Ia (ba s))/\w'=w:=by
 unfold Io at hs;by_cases hz:within (s.size:Int) 1 30=true
 .have Mh:1<=s.size/\s.size<=30:=by simp[within] at hz;omega
  go_enter Tryz.func53,Tryz.ntmps53;go_wp2_with (go_at_call 54;refine(cf _ _ _ _).mono ?_;rintro e w' ⟨rfl,rfl⟩;rw[hz]);go_loop [10] (λi=>∃k:Nat,k<=s.size/\i=U O k/\(s.data.toList.take k).all (λc=>GA c.toNat)=true) (λi=>s.size-(intOf i).toNat)
  case atStart=>exact⟨0,Nat.zero_le _,rfl,rfl⟩
  case round=>
   obtain⟨k,hk,rfl,kp⟩:=hrel;have HA:Hid _:=kp;clear kp;by_cases aR:k<s.size
   .by_cases hb:GA (s[k].toNat:Int)=true
    .go_wp2_with (go_at_call 98;refine(nI _ _).mono ?_;rintro e w' ⟨rfl,rfl⟩;rw[hb])
     go_round
     case rel=>exact⟨k+1,by omega,by go_num,DI s k aR HA.out hb⟩
     case measure=>simp[intOf];omega
    .have wA:GA (s[k].toNat:Int)=false:=by simpa using hb
     go_wp2_with (go_at_call 98;refine(nI _ _).mono ?_;rintro e w' ⟨rfl,rfl⟩;rw[wA]);go_ret;exact⟨aL (GC s k aR wA).symm,rfl⟩
   .go_wp2
    go_ret;have h2:=HA.out;rw[GB s k (by omega)] at h2;exact⟨aL (by simp[ba,h2,Mh.1,Mh.2]),rfl⟩
 .have Mh:within (s.size:Int) 1 30=false:=by simpa using hz
  go_enter Tryz.func53,Tryz.ntmps53;go_wp2_with (go_at_call 54;refine(cf _ _ _ _).mono ?_;rintro e w' ⟨rfl,rfl⟩;rw[Mh]);go_ret;refine⟨aL ?_,rfl⟩;symm;simp only[within,Bool.and_eq_false_iff,decide_eq_false_iff_not] at Mh;simp only[ba,Bool.and_eq_false_iff,decide_eq_false_iff_not];rcases Mh with h|h
  .exact .inl (.inl (by omega))
  .exact .inl (.inr (by omega))
theorem cj{W w1:World}(hb:Below W.heap.size W w1):(∀b o,b<W.heap.size->w1.cell? ⟨b,o,be⟩=W.cell? ⟨b,o,be⟩)/\(∀b o,b<W.heap.size->w1.frozen? ⟨b,o,be⟩=W.frozen? ⟨b,o,be⟩):=
 ⟨λb o h=>hb.cell (p:=⟨b,o,be⟩) h,λb o h=>hb.frozen (p:=⟨b,o,be⟩) h⟩
def less(a b:ByteArray):Bool:=Ji a.toList b.toList
theorem vi:∀a:List UInt8,Ji a a=false
 |[]=>rfl
 |x::r=>by simp[Ji,vi r]
theorem sr:∀a b:List UInt8,(!(Ji a b))=(Ji b a||b==a)
 |[],[]=>rfl
 |[],_::_=>rfl
 |_::_,[]=>rfl
 |x::r,y::t=>by
  have:=sr r t;by_cases h1:x<y
  .have h2:¬ y<x:=by rw[JV] at *;omega
   have h3:¬ y=x:=by rintro rfl;rw[JV] at *;omega
   simp[Ji,h1,h2,h3]
  .by_cases h2:y<x
   .have h3:¬ y=x:=by rintro rfl;rw[JV] at *;omega
    have h4:¬ x=y:=λh=>h3 h.symm;simp[Ji,h1,h2,h4]
   .have h3:y=x:=by
     apply UInt8.toNat_inj.1;rw[JV] at *;omega
    subst h3;simp[Ji];simpa using this
def bO(a b:ByteArray):Int:=Jv a.data.toList b.data.toList
theorem uD(a b:ByteArray)(w:World):(callFunc 140 #[Y a,Y b]).run AS w=.ok (.value (U O (bO a b))) w:=by
 rw[OE Tryz.func140 (by kernel_rfl) (by kernel_rfl) (by kernel_rfl) (e:=Extern.BytealgCompare.compare) (by kernel_rfl),Lib.run_compareString];rfl
theorem gr(a b:ByteArray)(w:World) :
 Calls AS 49 #[Y a,Y b] w λe w'=>e=AT (U O (bO a b))/\w'=w:=by
 have hc:=uD;go_enter Tryz.func49,Tryz.ntmps49;go_wp2;go_ret;exact⟨rfl,rfl⟩
theorem Pj:∀a b:List UInt8,Jv a b<0↔Ji a b=true
 |[],[]=>by simp[Jv,Ji]
 |[],_::_=>by simp[Jv,Ji]
 |_::_,[]=>by simp[Jv,Ji]
 |x::r,y::t=>by
  have ih:=Pj r t;by_cases h1:x<y
  .simp[Jv,Ji,h1]
  .by_cases h2:y<x
   .have h3:¬ x=y:=by rintro rfl;exact h1 h2
    simp[Jv,Ji,h1,h2,h3]
   .have h3:x=y:=by
     apply UInt8.toNat_inj.1;rw[JV] at *;omega
    subst h3;simpa[Jv,Ji] using ih
theorem Pm:∀a b:List UInt8,Jv a b=0↔a=b
 |[],[]=>by simp[Jv]
 |[],_::_=>by simp[Jv]
 |_::_,[]=>by simp[Jv]
 |x::r,y::t=>by
  have ih:=Pm r t;by_cases h1:x<y
  .have h3:¬ x=y:=by rintro rfl;rw[JV] at *;omega
   simp[Jv,h1,h3]
  .by_cases h2:y<x
   .have h3:¬ x=y:=by rintro rfl;exact h1 h2
    simp[Jv,h1,h2,h3]
   .have h3:x=y:=by
     apply UInt8.toNat_inj.1;rw[JV] at *;omega
    subst h3;simpa[Jv] using ih
theorem yi:∀a b c:List UInt8,Ji a b=true->Ji b c=true->Ji a c=true
 |[],[],_,h,_=>by simp[Ji] at h
 |[],_::_,[],_,h=>by simp[Ji] at h
 |[],_::_,_::_,_,_=>by simp[Ji]
 |_::_,[],_,h,_=>by simp[Ji] at h
 |_::_,_::_,[],_,h=>by simp[Ji] at h
 |x::r,y::t,z::u,h1,h2=>by
  have ih:=yi r t u;simp only[Ji,Bool.or_eq_true,IW,decide_eq_true_eq,beq_iff_eq] at h1 h2 ⊢;rcases h1 with h1|⟨rfl,h1⟩
  .rcases h2 with h2|⟨rfl,h2⟩
   .left;rw[JV] at *;omega
   .left;exact h1
  .rcases h2 with h2|⟨rfl,h2⟩
   .left;exact h2
   .right;exact⟨rfl,ih h1 h2⟩
theorem qd{a b:ByteArray}(h:a.data.toList=b.data.toList):a=b:=by
 obtain⟨⟨la⟩⟩:=a;obtain⟨⟨lb⟩⟩:=b;simp at h;subst h;rfl
theorem fC(a b:ByteArray):bO a b<0↔less a b=true:=by
 unfold bO less;rw[JR,JR];exact Pj _ _
theorem bR(a b:ByteArray):bO a b=0↔a=b:=by
 unfold bO;rw[Pm];exact⟨qd,λh=>by rw[h]⟩
theorem fY{a b c:ByteArray}(h1:less a b=true)(h2:less b c=true):less a c=true:=yi _ _ _ h1 h2
theorem gu(a:ByteArray):less a a=false:=vi _
theorem AE(a b:ByteArray):less a b=true\/a=b\/less b a=true:=by
 have h:=sr a.toList b.toList;unfold less;cases h1:Ji a.toList b.toList
 .rw[h1] at h
  cases h2:Ji b.toList a.toList
  .rw[h2] at h
   right;left
   have:b.toList=a.toList:=by simpa using h.symm
   rw[JR,JR] at this;exact(qd this).symm
  .right;right;rfl
 .left;rfl
theorem su{a b:ByteArray}(h1:less a b=true):less b a=false:=by
 cases h:less b a
 .rfl
 .have:=fY h1 h;rw[gu] at this;cases this
theorem mW(a b:ByteArray):0<bO a b↔less b a=true:=by
 have h1:=fC a b;have h2:=bR a b;rcases AE a b with h|rfl|h
 .have:=h1.2 h
  rw[su h];simp;omega
 .rw[gu];have:=h2.2 rfl;simp;omega
 .rw[h]
  have h3:¬ bO a b<0:=λhh=>by rw[h1,su h] at hh;cases hh
  have h4:¬ bO a b=0:=λhh=>by rw[h2] at hh;subst hh;rw[gu] at h;cases h
  simp;omega
theorem lj{P:Program}(w:World)(dT sT ty elem:I4)(g o RD ach:Nat)(a:Addr)(RE aci k:Nat)(cur:Array Value)(t:I4)(cs:List Value)(hu:P.underlying dT=AI (.slice elem))(hs:(P.info? elem).map (·.size)=AI k)(hg:w.heap[g]?=AI (By cur t (0,0)))(hn:cs.length=Nat.min RE RD*k)(acj:∀j v,cs[j]?=AI v->w.cell? (a.add j)=AI v)(ack:o+cs.length<=cur.size)(h1:∀v∈cs,v.oneCell'=true) : (Builtin.copy_ #[dT,sT] ty #[J (AI ⟨g,o,be⟩) RD ach,J (AI a) RE aci]).run P w =
   .ok (goInt (Nat.min RE RD)) (w.setRow g (cur.toList.take o++cs++cur.toList.drop (o+cs.length)).toArray):=by
 have hl:=run_loadCells_list (P:=P) w a cs acj;have oG:=run_storeCells_at P g o t cs 0 cur w hg (by simpa using ack) h1;cases hq:P.info? elem with
 |none=>simp[hq] at hs
 |some i=>
  have hi:i.size=k:=by simpa[hq] using hs
  simp[Builtin.copy_,run_underlying hu,Builtin.lenOf,Builtin.firstCells,sizeOf,typeInfo,hq,hi,<- hn,hl,oG]
theorem dj{P:Program}{ops:Array Oper}{o:Oper}{a:Act}{w:World}{K:Act->World->Prop}{Q:Exit->Act->World->Prop}{E:Prop}(hg:o.guard=be)(d x:Operand)(dT sT:I4)(hop:o.op=Op.call { callee:=Callee.builtin Builtin.copy,args:=#[d,x],argTypes:=#[dT,sT] })
 (v u:Value) (hd:a.eval d=v) (hx:a.eval x=u) {v':Value} {w':World} (hr:(Builtin.copy_ #[dT,sT] o.type #[v,u]).run P w=.ok v' w') (hK:K (a.put o.dst v') w') :
 if Region.wanted o (yielded ops a.tmps)=true then Oper.wp P o a w K Q else E:=by
 have hw:Region.wanted o (yielded ops a.tmps)=true:=by simp[Region.wanted,hg]
 rw[if_pos hw];unfold Oper.wp;simp[execOp,hop,resolve,invoke,builtin,hd,hx,hr,Result.andThen];exact hK
theorem ae{w:World}{g:Nat}{cur:Array Value}{t:I4}{fr:Nat×Nat}(hg:w.heap[g]?=AI (By cur t fr))(o:Nat):w.cell? ⟨g,o,be⟩=cur[o]?:=by
 simp[World.cell?,hg]
theorem fP{a b:ByteArray}(h:a≠b):(a.toList==b.toList)=false/\¬ a.toList=b.toList:=by
 have h2:¬ a.toList=b.toList:=λe=>h (qd (by rw[JR,JR] at e;exact e));exact⟨by simpa using h2,h2⟩
theorem dz{W:World}{cs:Array Value}{t:I4}{g k:Nat}(hg:g=W.heap.size):(W.alloc (By cs t)).cell? ⟨g,k,be⟩=cs[k]?:=by subst hg;simp
theorem mX{w w':World}(h:w.grownBy w' be)(row:Option Nat):w.grownBy w' row:=⟨h.os,h.tape,h.output,h.size,λk hk _=>h.block k hk (by simp)⟩
theorem bV(w:World)(A:Array Value)(T:I4):∃W,W=w.alloc (By A T)/\Below w.heap.size w W/\W.heap.size=w.heap.size+1/\W.heap[w.heap.size]?=AI (By A T (0,0)):=⟨_,rfl,(Below.refl _ _).alloc (Ic _) _,by simp,heap_alloc_new w _⟩
theorem bE{P:Program}{ops:Array Oper}{C:World->Prop}{R:Act->World->Prop}{w:World}{a:Act}(h:∀d os,Hid (Below w.heap.size w (Ij (Iv w d) os))->R a (Ij (Iv w d) os)):wpQuiet P ops C (λa=>∀w',(∃p:Regrown,w'=Ij (Iv w p.d) p.os)->R a w') [] a:=wpQuiet_nil (λ_ ⟨p,e⟩=>e▸h p.d p.os (below_regrown w p.d p.os))
end Go.Proofs.YtfidhgjmifendaaGreatDoor
namespace Go.Proofs.YtfidhgjmifendaaGreatDoor
namespace RL
section
variable {α:Type}
structure Keyed(o:α->α->Int):Prop where
 refl:∀a,o a a=0
 gt:∀a b,0<o a b↔o b a<0
 trans:∀a b c,o a b<0->o b c<0->o a c<0
 left:∀a b c,o a b=0->o a c=o b c
 right:∀a b c,o a b=0->o c a=o c b
structure qe(o:α->α->Int)(nw:α->α->Bool):Prop where
 irrefl:∀a,nw a a=false
 trans:∀a b c,nw a b=true->nw b c=true->nw a c=true
 total:∀a b,o a b=0->nw a b=false->nw b a=false->a=b
theorem Keyed.symm{o:α->α->Int}(h:Keyed o){a b:α}(e:o a b=0):o b a=0:=by
 have h1:=h.gt a b;have h2:=h.gt b a;rcases Int.lt_trichotomy (o b a) 0 with hl|he|hg
 .have:=h1.2 hl;omega
 .exact he
 .have:=h2.1 hg;omega
theorem Keyed.Gd{o:α->α->Int}(h:Keyed o){a b c:α}(e:o a b=0)(f:o b c=0):o a c=0:=by rw[h.left a b c e];exact f
variable (o:α→α→Int) (nw:α→α→Bool) (d:α)
abbrev bl(ms:List α):Prop:=ms.Pairwise λa b=>o a b<0
def aK:List α->Bool
 |[]=>true
 |[_]=>true
 |a::b::r=>decide (o a b<0)&&aK (b::r)
theorem lp(hk:Keyed o):∀ms:List α,aK o ms=true->bl o ms
 |[],_=>.nil
 |[x],_=>by simp[bl]
 |a::b::r,h=>by
  rw[aK,IW,decide_eq_true_eq] at h;have ih:=lp hk (b::r) h.2;refine JD.2 ⟨λc hc=>?_,ih⟩;rcases IQ.1 hc with rfl|hc
  .exact h.1
  .exact hk.trans _ _ _ h.1 (JG ih hc)
theorem jF:∀ms:List α,bl o ms->aK o ms=true
 |[],_=>rfl
 |[x],_=>rfl
 |a::b::r,h=>by
  rw[aK,IW,decide_eq_true_eq];exact⟨JG h (by simp),jF (b::r) (Ol h)⟩
theorem gv:∀ms:List α,(∀j,j+1<ms.length->o (ms.getD j d) (ms.getD (j+1) d)<0)->aK o ms=true
 |[],_=>rfl
 |[x],_=>rfl
 |a::b::r,h=>by
  rw[aK,IW,decide_eq_true_eq];refine⟨by have:=h 0 (by simp);simpa using this,gv (b::r) λj hj=>?_⟩;have:=h (j+1) (by simpa using hj);simpa using this
theorem ib:∀ms:List α,aK o ms=true->∀j,j+1<ms.length->o (ms.getD j d) (ms.getD (j+1) d)<0
 |[],_,j,hj=>by simp at hj
 |[x],_,j,hj=>by simp at hj
 |a::b::r,h,0,_=>by
  rw[aK,IW,decide_eq_true_eq] at h;simpa using h.1
 |a::b::r,h,j+1,hj=>by
  rw[aK,IW,decide_eq_true_eq] at h;have:=ib (b::r) h.2 j (by simpa using hj);simpa using this
theorem oL{ms:List α}{i:Nat}(h:i<ms.length):ms.getD i d=ms[i]:=by simp[Iq,Ie h]
theorem wB{ms:List α}(h:bl o ms){i j:Nat}(jG:i<j)(hj:j<ms.length):o (ms.getD i d) (ms.getD j d)<0:=by
 rw[oL d (show i<ms.length by omega),oL d hj];exact List.pairwise_iff_getElem.1 h i j (by omega) hj jG
theorem dO(hk:Keyed o){ms:List α}(h:bl o ms)(t:α):∀i j,i<=j->j<ms.length->o (ms.getD j d) t<0->o (ms.getD i d) t<0:=by
 intro i j jG hj aR;rcases Qm jG with RF|rfl
 .exact hk.trans _ _ _ (wB o d h RF hj) aR
 .exact aR
structure At(ms:List α)(t:α)(p:Nat)(f:Bool):Prop where
 le:p<=ms.length
 lo:∀j,j<p->o (ms.getD j d) t<0
 hi:∀j,p<=j->j<ms.length->0<=o (ms.getD j d) t
 is:f=true↔p<ms.length/\o (ms.getD p d) t=0
theorem ku(hk:Keyed o)(ms:List α)(hr:bl o ms)(t:α):∃p f,At o d ms t p f:=by
 induction ms with
 |nil=>exact⟨0,false,by simp,λj h=>by omega,λj h h2=>by simp at h2,by simp⟩
 |cons x r ih=>
  have hx:=JD.1 hr;by_cases aR:o x t<0
  .obtain⟨p,f,h⟩:=ih hx.2
   refine⟨p+1,f,by have:=h.le;simpa using this,λj hj=>?_,λj hj hl=>?_,by have:=h.is;simpa using this⟩
   .cases j with
    |zero=>simpa using aR
    |succ j=>have:=h.lo j (by omega);simpa using this
   .cases j with
    |zero=>omega
    |succ j=>have:=h.hi j (by omega) (by simpa using hl);simpa using this
  .refine⟨0,decide (o x t=0),by simp,λj hj=>by omega,λj _ hl=>?_,by simp⟩
   apply Int.not_lt.1;intro hq;have:=dO o d hk hr t 0 j (by omega) hl hq;simp at this;omega
theorem ed{ms:List α}{t:α}{p q:Nat}{f e:Bool}(h:At o d ms t p f)(k:At o d ms t q e):p=q/\f=e:=by
 have GD:p=q:=by
  rcases Nat.lt_trichotomy p q with aR|rfl|aR
  .have h1:=k.lo p aR
   have h2:=h.hi p (Ic _) (by have:=k.le;omega);omega
  .rfl
  .have h1:=h.lo q aR
   have h2:=k.hi q (Ic _) (by have:=h.le;omega);omega
 subst GD;refine⟨rfl,?_⟩;rw[Oy,h.is,k.is]
theorem yj{ms:List α}(hk:Keyed o)(hr:bl o ms){t:α}{k:Nat}(hl:k<ms.length)(he:o (ms.getD k d) t=0):At o d ms t k true:=by
 refine⟨by omega,λj hj=>?_,λj hj RG=>?_,⟨λ_=>⟨hl,he⟩,λ_=>rfl⟩⟩
 .rw[<- hk.right _ _ (ms.getD j d) he]
  exact wB o d hr hj hl
 .rcases Qm hj with h|rfl
  .rw[<- hk.right _ _ (ms.getD j d) he]
   have:=(hk.gt (ms.getD j d) (ms.getD k d)).2 (wB o d hr h RG);omega
  .omega
def fQ:List α->α->List α
 |[],m=>[m]
 |x::r,m=>if o x m<0 then x::fQ r m else if o x m=0 then(if nw m x=true then m::r else x::r) else m::x::r
theorem oM:∀(ms:List α) (m:α) (p:Nat) (f:Bool),At o d ms m p f ->
 fQ o nw ms m=if f=true then(if nw m (ms.getD p d)=true then ms.set p m else ms) else ms.take p++m::ms.drop p
 |[],m,p,f,h=>by
  have hp:p=0:=by have:=h.le;simpa using this
  subst hp;have hf:f=false:=by
   cases f
   .rfl
   .have:=h.is.1 rfl;simp at this
  subst hf;simp[fQ]
 |x::r,m,0,f,h=>by
  have h0:=h.hi 0 (Ic _) (by simp);simp only[I2] at h0;rw[fQ,if_neg (by omega)];cases f
  .have aT:¬ o x m=0:=λe=>by have:=h.is.2 ⟨by simp,by simpa using e⟩;cases this
   rw[if_neg aT];simp
  .have he:=(h.is.1 rfl).2
   simp only[I2] at he;rw[if_pos he];simp only[I2,List.set_cons_zero,if_pos]
 |x::r,m,p+1,f,h=>by
  have h0:=h.lo 0 (by omega);simp only[I2] at h0;have hr:At o d r m p f:=⟨by have:=h.le;simpa using this,λj hj=>by have:=h.lo (j+1) (by omega);simpa using this,
   λj hj hl=>by have:=h.hi (j+1) (by omega) (by simpa using hl);simpa using this,by have:=h.is;simpa using this⟩
  rw[fQ,if_pos h0,oM r m p f hr];cases f
  .simp
  .simp only[if_pos,List.getD_cons_succ,Oq]
   split<;>rfl
theorem oN:∀(ms:List α) (m x:α),x∈fQ o nw ms m->x=m\/x∈ms
 |[],m,x,h=>by simp[fQ] at h;exact .inl h
 |y::r,m,x,h=>by
  rw[fQ] at h;split at h
  .rcases IQ.1 h with rfl|h
   .exact .inr (by simp)
   .rcases oN r m x h with h|h
    .exact .inl h
    .exact .inr (by simp[h])
  .split at h
   .split at h
    .rcases IQ.1 h with h|h
     .exact .inl h
     .exact .inr (by simp[h])
    .exact .inr h
   .rcases IQ.1 h with h|h
    .exact .inl h
    .exact .inr h
theorem mY(hk:Keyed o):∀(ms:List α) (m:α),bl o ms->bl o (fQ o nw ms m)
 |[],m,_=>by simp[fQ]
 |x::r,m,h=>by
  have hx:=JD.1 h;rw[fQ];split
  .rename_i aR
   refine JD.2 ⟨λy hy=>?_,mY hk r m hx.2⟩;rcases oN o nw r m y hy with rfl|hy
   .exact aR
   .exact hx.1 y hy
  .rename_i aR
   split
   .rename_i he
    split
    .exact JD.2 ⟨λy hy=>by rw[<- hk.left x m y he];exact hx.1 y hy,hx.2⟩
    .exact h
   .rename_i he
    have hg:=(hk.gt x m).1 (by omega);refine JD.2 ⟨λy hy=>?_,h⟩;rcases IQ.1 hy with rfl|hy
    .exact hg
    .exact hk.trans _ _ _ hg (hx.1 y hy)
theorem sw:∀(ms:List α) (m:α),ms.length<=(fQ o nw ms m).length/\(fQ o nw ms m).length<=ms.length+1
 |[],m=>by simp[fQ]
 |x::r,m=>by
  have:=sw r m;rw[fQ];split
  .simp;omega
  .split
   .split<;>simp
   .simp
def join(a b:List α):List α:=b.foldl (fQ o nw) a
theorem kH(hk:Keyed o):∀(b a:List α),bl o a->bl o (join o nw a b)
 |[],_,h=>h
 |m::r,a,h=>kH hk r (fQ o nw a m) (mY o nw hk a m h)
theorem oO:∀(b a:List α),(join o nw a b).length<=a.length+b.length
 |[],_=>by simp[join]
 |m::r,a=>by
  have h1:=oO r (fQ o nw a m);have h2:=sw o nw a m;simp only[join,OA,Iz] at *;omega
theorem oP:∀(b a:List α) (x:α),x∈join o nw a b->x∈a\/x∈b
 |[],_,_,h=>.inl h
 |m::r,a,x,h=>by
  rcases oP r (fQ o nw a m) x h with h|h
  .rcases oN o nw a m x h with rfl|h
   .exact .inr (by simp)
   .exact .inl h
  .exact .inr (by simp[h])
theorem qf(a b:List α)(j:Nat)(hj:j<b.length):join o nw a (b.take (j+1))=fQ o nw (join o nw a (b.take j)) (b.getD j d):=by
 rw[oL d hj,II hj,join,List.foldl_append,join];rfl
theorem vj:∀(a:List α) (m:α),(∀x∈a,o x m<0)->fQ o nw a m=a++[m]
 |[],_,_=>rfl
 |x::r,m,h=>by
  rw[fQ,if_pos (h x (by simp)),vj r m (λy hy=>h y (by simp[hy]))];rfl
theorem yk:∀(b a:List α),bl o (a++b)->join o nw a b=a++b
 |[],a,_=>by simp[join]
 |m::r,a,h=>by
  have h1:=vj o nw a m λx hx=>(List.pairwise_append.1 h).2.2 x hx m (by simp);have h2:=yk r (a++[m]) (by simpa using h);simp only[join,OA,h1] at h2 ⊢;rw[h2];simp
theorem join_nil(b:List α)(h:bl o b):join o nw [] b=b:=yk o nw b [] h
def mx(x y:α):α:=if nw y x=true then y else x
def get(ms:List α)(n:α):Option α:=ms.find? λx=>decide (o x n=0)
theorem get_nil(n:α):get o [] n=be:=rfl
theorem cv(x:α)(r:List α){n:α}(h:o x n=0):get o (x::r) n=AI x:=by simp[get,h]
theorem dn(x:α)(r:List α){n:α}(h:¬ o x n=0):get o (x::r) n=get o r n:=by simp[get,h]
theorem Mi{ms:List α}{n x:α}(h:get o ms n=AI x):o x n=0:=by
 have:=List.find?_some h;simpa using this
theorem get_mem{ms:List α}{n x:α}(h:get o ms n=AI x):x∈ms:=List.mem_of_find?_eq_some h
theorem get_none{ms:List α}{n:α}(h:∀x∈ms,¬ o x n=0):get o ms n=be:=by
 unfold get;rw[List.find?_eq_none];intro x hx;simpa using h x hx
theorem mZ(hk:Keyed o){x:α}{r:List α}(h:bl o (x::r)):∀y∈r,¬ o y x=0:=by
 intro y hy e;have:=JG h hy;have h2:=hk.symm e;omega
theorem GF(hk:Keyed o):∀{a b:List α},bl o a->bl o b->(∀n,get o a n=get o b n)->a=b
 |[],[],_,_,_=>rfl
 |[],y::s,_,_,h=>by
  have:=h y;rw[get_nil,cv o y s (hk.refl y)] at this;cases this
 |x::r,[],_,_,h=>by
  have:=h x;rw[get_nil,cv o x r (hk.refl x)] at this;cases this
 |x::r,y::s,ha,hb,h=>by
  have Vl:o x y=0:=by
   rcases Int.lt_trichotomy (o x y) 0 with hl|he|hl
   .have h1:=h x
    rw[cv o x r (hk.refl x),get_none] at h1
    .cases h1
    .intro z hz e
     have e2:=hk.symm e;rcases IQ.1 hz with rfl|hz
     .omega
     .have h2:=hk.trans _ _ _ hl (JG hb hz)
      omega
   .exact he
   .have hl:=(hk.gt x y).1 hl
    have h1:=h y;rw[cv o y s (hk.refl y),get_none] at h1
    .cases h1
    .intro z hz e
     have e2:=hk.symm e;rcases IQ.1 hz with rfl|hz
     .omega
     .have h2:=hk.trans _ _ _ hl (JG ha hz)
      omega
  have hxy:x=y:=by
   have h1:=h x;rw[cv o x r (hk.refl x),cv o y s (hk.symm Vl)] at h1;exact Option.some.inj h1
  subst hxy;have nx:r=s:=GF hk (Ol ha) (Ol hb) λn=>by
   by_cases hn:o x n=0
   .rw[get_none o (λz hz e=>mZ o hk ha z hz (hk.Gd e (hk.symm hn))),get_none o (λz hz e=>mZ o hk hb z hz (hk.Gd e (hk.symm hn)))]
   .have h1:=h n
    rw[dn o x r hn,dn o x s hn] at h1;exact h1
  rw[nx]
def comb:Option α->Option α->Option α
 |none,y=>y
 |some x,be=>AI x
 |some x,AI y=>AI (mx nw x y)
theorem vo(x:Option α):comb nw x be=x:=by cases x<;>rfl
theorem yo(hk:Keyed o):∀(ms:List α) (m:α),bl o ms->∀n,get o (fQ o nw ms m) n=if o m n=0 then comb nw (get o ms n) (AI m) else get o ms n
 |[],m,_,n=>by
  by_cases h:o m n=0
  .rw[if_pos h,fQ,cv o m [] h];rfl
  .rw[if_neg h,fQ,dn o m [] h]
 |x::r,m,hr,n=>by
  have ih:=yo hk r m (Ol hr) n;rw[fQ];by_cases aR:o x m<0
  .rw[if_pos aR]
   by_cases hx:o x n=0
   .rw[cv o x _ hx,cv o x r hx,if_neg (λe=>by have:=hk.Gd hx (hk.symm e);omega)]
   .rw[dn o x _ hx,dn o x r hx,ih]
  .rw[if_neg aR]
   by_cases he:o x m=0
   .rw[if_pos he]
    by_cases hm:o m n=0
    .rw[if_pos hm,cv o x r (hk.Gd he hm)]
     by_cases hnew:nw m x=true
     .rw[if_pos hnew,cv o m r hm];simp[comb,mx,hnew]
     .rw[if_neg hnew,cv o x r (hk.Gd he hm)];simp[comb,mx,hnew]
    .have hx:¬ o x n=0:=λe=>hm (hk.Gd (hk.symm he) e)
     rw[if_neg hm,dn o x r hx];by_cases hnew:nw m x=true
     .rw[if_pos hnew,dn o m r hm]
     .rw[if_neg hnew,dn o x r hx]
   .rw[if_neg he]
    by_cases hm:o m n=0
    .rw[if_pos hm,cv o m _ hm,get_none]
     .rfl
     .have hg:=(hk.gt x m).1 (by omega)
      intro z hz e;have h2:=hk.Gd hm (hk.symm e);rcases IQ.1 hz with rfl|hz
      .omega
      .have:=hk.trans _ _ _ hg (JG hr hz)
       omega
    .rw[if_neg hm,dn o m _ hm]
theorem get_join(hk:Keyed o):∀(b a:List α),bl o a->bl o b->∀n,get o (join o nw a b) n=comb nw (get o a n) (get o b n)
 |[],a,_,_,n=>by rw[get_nil,vo];rfl
 |m::r,a,ha,hb,n=>by
  have ih:=get_join hk r (fQ o nw a m) (mY o nw hk a m ha) (Ol hb) n;show get o (join o nw (fQ o nw a m) r) n=_;rw[ih,yo o nw hk a m ha n];by_cases hm:o m n=0
  .rw[if_pos hm,cv o m r hm,get_none o (ms:=r) (λz hz e=>mZ o hk hb z hz (hk.Gd e (hk.symm hm))),vo]
  .rw[if_neg hm,dn o m r hm]
def put(ms:List α)(m:α)(p:Nat)(f:Bool):List α:=ms.take p++m::ms.drop (if f=true then p+1 else p)
theorem GG{ms:List α}{m:α}{p:Nat}{f:Bool}(h:At o d ms m p f)(hn:f=true->nw m (ms.getD p d)=true):fQ o nw ms m=put ms m p f:=by
 rw[oM o nw d ms m p f h,put];cases f
 .simp
 .rw[if_pos rfl,if_pos (hn rfl),if_pos rfl,List.set_eq_take_append_cons_drop,if_pos (h.is.1 rfl).1]
end
end RL
namespace Wh
open Go.RowKit
structure bJ where
 node:ByteArray
 x:Int
 y:Int
 z:Int
 h:Int
 s:Int
def dm:bJ:=⟨ByteArray.empty,0,0,0,0,0⟩
def bJ.ok(m:bJ):Prop:=m.node.size<=Io
theorem sx:dm.ok:=by simp[bJ.ok,dm]
abbrev As(w:World)(b o:Nat)(m:bJ):Prop:=w.cell? ⟨b,o,be⟩=AI (Y m.node)/\w.cell? ⟨b,o+1,be⟩=AI (U O m.x)/\w.cell? ⟨b,o+2,be⟩=AI (U O m.y)/\w.cell? ⟨b,o+3,be⟩=AI (U O m.z)/\w.cell? ⟨b,o+4,be⟩=AI (U O m.h)/\w.cell? ⟨b,o+5,be⟩=AI (U O m.s)
theorem As.re{w:World}{b o:Nat}{m:bJ}(h:As w b o m):∀d os,As (Ij (Iv w d) os) b o m:=λd os=>by
 obtain⟨c0,c1,c2,c3,c4,c5⟩:=h;exact⟨Ig c0 d os,Ig c1 d os,Ig c2 d os,Ig c3 d os,Ig c4 d os,Ig c5 d os⟩
theorem As.eq{w w':World}{b o:Nat}{m:bJ}(h:As w b o m)(e:∀o,w'.cell? ⟨b,o,be⟩=w.cell? ⟨b,o,be⟩):As w' b o m:=by
 obtain⟨c0,c1,c2,c3,c4,c5⟩:=h;exact⟨(e _).trans c0,(e _).trans c1,(e _).trans c2,(e _).trans c3,(e _).trans c4,(e _).trans c5⟩
def Row(w:World)(b off:Nat)(ms:List bJ):Prop:=∀j,j<ms.length->As w b (off+j*6) (ms.getD j dm)
def Sl(w:World)(v:Value)(ms:List bJ):Prop:=
 ∃(a:Option Addr) (cap:Nat),v=J a ms.length cap/\(∀j,(ms.getD j dm).ok) /\
  (ms=[]\/∃b off,a=AI ⟨b,off,be⟩/\b<w.heap.size/\Row w b off ms)
def bJ.cs(m:bJ):List Value:=[Y m.node,U O m.x,U O m.y,U O m.z,U O m.h,U O m.s]
def fl(ms:List bJ):List Value:=ms.flatMap bJ.cs
theorem bB(m:bJ):m.cs.length=6:=rfl
theorem aZ(m:bJ)(r:List bJ):fl (m::r)=m.cs++fl r:=by simp[fl]
theorem cD(a b:List bJ):fl (a++b)=fl a++fl b:=by simp[fl]
theorem cM:∀ms:List bJ,(fl ms).length=ms.length*6
 |[]=>rfl
 |m::r=>by rw[aZ,Ih,cM r,bB,Iz];omega
theorem eY:∀(ms:List bJ) (i:Nat),(fl ms).take (i*6)=fl (ms.take i)
 |[],i=>by simp[fl]
 |m::r,0=>by simp[fl]
 |m::r,i+1=>by
  rw[aZ,List.take_succ_cons,aZ,show(i+1)*6=m.cs.length+i*6 by rw[bB];omega,List.take_length_add_append,eY r i]
theorem eZ:∀(ms:List bJ) (i:Nat),(fl ms).drop (i*6)=fl (ms.drop i)
 |[],i=>by simp[fl]
 |m::r,0=>by simp
 |m::r,i+1=>by
  rw[aZ,List.drop_succ_cons,show(i+1)*6=m.cs.length+i*6 by rw[bB];omega,List.drop_length_add_append,eZ r i]
theorem db(m:bJ):∀v∈m.cs,v.oneCell'=true:=by
 intro v hv;simp[bJ.cs] at hv;rcases hv with rfl|rfl|rfl|rfl|rfl|rfl<;>rfl
theorem gJ(ms:List bJ):∀v∈fl ms,v.oneCell'=true:=by
 intro v hv;obtain⟨m,_,h⟩:=List.mem_flatMap.1 hv;exact db m v h
theorem ec(ms:List bJ)(j:Nat)(hj:j<ms.length)(t:Nat)(ht:t<6):(fl ms)[j*6+t]?=(ms.getD j dm).cs[t]?:=by
 induction ms generalizing j with
 |nil=>simp at hj
 |cons m r ih=>
  rw[aZ];cases j with
  |zero=>rw[List.getElem?_append_left (by rw[bB];omega)];simp
  |succ j=>
   rw[List.getElem?_append_right (by rw[bB];omega),bB,show(j+1)*6+t-6=j*6+t by omega,ih j (by simpa using hj)];simp
theorem nQ(ms:List bJ)(p:Nat)(hp:p<ms.length)(m:bJ):(((((((fl ms).set (p*6) (Y m.node)).set (p*6+1) (U O m.x)).set (p*6+2) (U O m.y)).set (p*6+3) (U O m.z)).set (p*6+4) (U O m.h)).set (p*6+5) (U O m.s))=fl (ms.set p m):=by
 induction ms generalizing p with
 |nil=>simp at hp
 |cons x r ih=>
  cases p with
  |zero=>simp[fl,bJ.cs]
  |succ p=>
   have Mj:=ih p (by simpa using hp);rw[Oq,aZ,aZ,<- Mj];simp only[Nat.add_mul,Nat.one_mul];have e:∀(l:List Value) (k:Nat) (v:Value),(x.cs++l).set (k+6) v=x.cs++l.set k v:=λl k v=>by
    rw[List.set_append,if_neg (by rw[bB];omega),bB,Nat.add_sub_cancel]
   have c:∀i:Nat,p*6+6+i=(p*6+i)+6:=λi=>by omega
   simp only[c];rw[e,e,e,e,e,e]
abbrev Own(base:Nat)(w:World)(v:Value)(ms:List bJ):Prop:=w.ownsRow base 116 6 v ms.length (fl ms)
theorem ic{base g G:Nat}{w:World}{cur:Array Value}{ms:List bJ}(hb:base<=g)(hg:w.heap[g]?=AI (By cur 116 (0,0)))(hs:cur.size=G*6)(hn:ms.length<=G)(hG:G<=Io)(ht:cur.toList.take (ms.length*6)=fl ms) :
 Own base w (J (AI ⟨g,0,be⟩) ms.length G) ms:=⟨cM ms,.inr ⟨g,G,cur,rfl,hb,hg,hn,hG,hs,ht⟩⟩
theorem Own.sl{base:Nat}{w:World}{v:Value}{ms:List bJ}(h:Own base w v ms)(hs:∀j,(ms.getD j dm).ok):Sl w v ms:=by
 rcases h.2 with⟨rfl,h0⟩|⟨g,c,cur,rfl,ey,hg,fK,dN,bZ,bf⟩
 .exact⟨be,0,by rw[h0],hs,.inl (List.eq_nil_of_length_eq_zero h0)⟩
 .refine⟨_,c,rfl,hs,.inr ⟨g,0,rfl,(BY.1 hg).1,λj hj=>?_⟩⟩
  have hc:∀t,t<6->w.cell? ⟨g,0+j*6+t,be⟩=(ms.getD j dm).cs[t]?:=λt ht=>by
   rw[ae hg,<- ec ms j hj t ht,<- bf,IM (by omega)];simp
  exact⟨hc 0 (by omega),hc 1 (by omega),hc 2 (by omega),hc 3 (by omega),hc 4 (by omega),hc 5 (by omega)⟩
theorem Own.below{base:Nat}{w w':World}{v:Value}{ms:List bJ}(h:Own base w v ms)(hb:Below w.heap.size w w'):Own base w' v ms:=by
 rcases h.2 with⟨rfl,h0⟩|⟨g,c,cur,rfl,ey,hg,fK,dN,bZ,bf⟩
 .exact⟨h.1,.inl ⟨rfl,h0⟩⟩
 .have aR:=(BY.1 hg).1
  exact⟨h.1,.inr ⟨g,c,cur,rfl,ey,(hb.block g aR).trans hg,fK,dN,bZ,bf⟩⟩
theorem Own.lt{base:Nat}{w:World}{v:Value}{ms:List bJ}(h:Own base w v ms)(k:Nat)(hk:v.ownBlock=AI k):base<=k/\k<w.heap.size:=OI h k hk
theorem fe{base:Nat}{w w1 w2:World}{v:Value}{ms:List bJ}(hb:Below base w w1)(h:Own base w1 v ms)(hg:w1.grownBy w2 v.ownBlock)(hbase:base<=w1.heap.size):Below base w w2:=
 hb.grown hg hbase (λk hk=>(h.lt k hk).1)
theorem ez{base g c:Nat}{w:World}{ms:List bJ}(h:Own base w (J (AI ⟨g,0,be⟩) ms.length c) ms)(j:Nat)(hj:j<ms.length) :
 As w g (j*6) (ms.getD j dm):=by
 rcases h.2 with⟨h1,_⟩|⟨g',c',cur,h1,ey,hg,fK,dN,bZ,bf⟩
 .cases h1
 .simp only[Value.slice.injEq,Option.some.injEq,Addr.mk.injEq] at h1
  obtain⟨⟨rfl,_,_⟩,_,_⟩:=h1;have hc:∀t,t<6->w.cell? ⟨g,j*6+t,be⟩=(ms.getD j dm).cs[t]?:=λt ht=>by
   rw[ae hg,<- ec ms j hj t ht,<- bf,IM (by omega)];simp
  exact⟨hc 0 (by omega),hc 1 (by omega),hc 2 (by omega),hc 3 (by omega),hc 4 (by omega),hc 5 (by omega)⟩
theorem jH{base:Nat}{w:World}{v:Value}{ms:List bJ}(h:Own base w v ms)(p:Nat)(hp:p<ms.length):∃g c,v=J (AI ⟨g,0,be⟩) ms.length c:=by
 rcases h.2 with⟨_,h0⟩|⟨g,c,cur,h1,_⟩
 .omega
 .exact⟨g,c,h1⟩
theorem lq{base g c p:Nat}{W:World}{ms:List bJ}(h:Own base W (J (AI ⟨g,0,be⟩) ms.length c) ms)(hp:p<ms.length)(m:bJ) :
 Own base ((((((W.setCell ⟨g,p*6,be⟩ (Y m.node)).setCell ⟨g,p*6+1,be⟩ (U O m.x)).setCell ⟨g,p*6+2,be⟩ (U O m.y)).setCell ⟨g,p*6+3,be⟩ (U O m.z)).setCell ⟨g,p*6+4,be⟩ (U O m.h)).setCell ⟨g,p*6+5,be⟩ (U O m.s)) (J (AI ⟨g,0,be⟩) ms.length c) (ms.set p m):=by
 have h1:=IK h (p*6) (Y m.node);have h2:=IK h1.1 (p*6+1) (U O m.x);have h3:=IK h2.1 (p*6+2) (U O m.y);have h4:=IK h3.1 (p*6+3) (U O m.z);have h5:=IK h4.1 (p*6+4) (U O m.h);have h6:=IK h5.1 (p*6+5) (U O m.s);have e:=h6.1;rw[nQ ms p hp m] at e;show World.ownsRow _ _ _ _ _ (ms.set p m).length _;rw[List.length_set];exact e
theorem Sl.below{w w':World}{v:Value}{ms:List bJ}(h:Sl w v ms)(hb:Below w.heap.size w w'):Sl w' v ms:=by
 obtain⟨a,cap,rfl,hs,h⟩:=h;refine⟨a,cap,rfl,hs,?_⟩;rcases h with h|⟨b,off,rfl,aR,hr⟩
 .exact .inl h
 .refine .inr ⟨b,off,rfl,IJ aR hb.size,λj hj=>?_⟩
  exact(hr j hj).eq (λo=>(cj hb).1 b o aR)
theorem Row.later{w w':World}{b off:Nat}{ms:List bJ}(hr:Row w b off ms)(hb:Below w.heap.size w w')(aR:b<w.heap.size):Row w' b off ms:=λj hj=>(hr j hj).eq (λo=>(cj hb).1 b o aR)
theorem Own.mono{base iK:Nat}{w:World}{v:Value}{ms:List bJ}(h:Own base w v ms)(hb:iK<=base):Own iK w v ms:=by
 rcases h.2 with⟨rfl,h0⟩|⟨g,c,cur,rfl,ey,hg,fK,dN,bZ,bf⟩
 .exact⟨h.1,.inl ⟨rfl,h0⟩⟩
 .exact⟨h.1,.inr ⟨g,c,cur,rfl,Ir hb ey,hg,fK,dN,bZ,bf⟩⟩
theorem bX(base:Nat)(w:World):Own base w (J be 0 0) []:=World.ownsRow_nil w base 116 6
theorem dt{ms:List bJ}(h:∀j,(ms.getD j dm).ok):∀m∈ms,(m).ok:=by
 intro m hm;obtain⟨j,hj,rfl⟩:=List.getElem_of_mem hm;have:=h j;simpa[Iq,Ie hj] using this
theorem cy{ms:List bJ}(h:∀m∈ms,(m).ok):∀j,(ms.getD j dm).ok:=by
 intro j;by_cases hj:j<ms.length
 .have:=h ms[j] (IG hj)
  simpa[Iq,Ie hj] using this
 .rw[Iq,List.getElem?_eq_none (Nat.le_of_not_lt hj)];exact sx
theorem bF{base:Nat}{w:World}{v:Value}{ms:List bJ}(h:Own base w v ms)(hs:∀m∈ms,(m).ok):Sl w v ms:=h.sl (cy hs)
theorem jI{base:Nat}{w:World}{v:Value}{L:List bJ}{m:bJ}(h:w.ownsRow base 116 6 v (L.length+1) (fl L++m.cs)):Own base w v (L++[m]):=by
 have e:fl (L++[m])=fl L++m.cs:=by rw[cD,aZ];simp[fl]
 show w.ownsRow base 116 6 v (L++[m]).length (fl (L++[m]));rw[e,Ih];exact h
end Wh
end Go.Proofs.YtfidhgjmifendaaGreatDoor
namespace Go.Proofs.YtfidhgjmifendaaGreatDoor
open Go.RowKit
theorem ji(e:Int)(w:World) :
 Calls AS 118 #[Ia true,U O e] w λx w'=>x=AT (Im #[])/\w'=w:=by
 go_enter Tryz.func118,Tryz.ntmps118;go_wp2_with fail;simp[JU,results,Tryz.results118]
theorem AF(p:Addr)(w:World) :
 CallsD AS 191 #[If (AI p)] .returning w λe u' w'=>e=AT (Im #[])/\u'=.returning/\w'=w:=by
 refine callsD_of_wpS Tryz.func191 rfl λc₀ cs hu=>?_;apply wpS_seq;apply wpS_region;simp[wpOpsS,go_sem,recoverD,hu,Tryz.ntmps191,Exit.thenS,Array.replicate];refine wpS_of_wp ?_;go_wp2_with fail;cases c₀
 simp_all [bodyPostS,results,Tryz.results191]
theorem AG(f:Nat)(RH:Array Value)(w:World)(R:World->Prop)(ef:∀args W,(callFunc f args).run AS W=.ok (.enter f args) W)(hw:Calls AS f RH (w.alloc (By #[U O 0] 31)) λr w'=>r=AT (Im #[])/\R w'/\w'.cell? ⟨w.heap.size,0,be⟩=AI (U O 0)/\w'.frozen? ⟨w.heap.size,0,be⟩=false/\w.heap.size<w'.heap.size) :
 Calls AS 119 #[.func (.func f) #[] RH] w λr w'=>r=AT (U O 0)/\∃w1,R w1/\w.heap.size<w1.heap.size/\w'=w1.setCell ⟨w.heap.size,0,be⟩ (U O 0):=by
 have hmf:∀(fn:Fn) (first cap:Array Value) (w:World),(Instr.makeFunc fn first cap).run AS w=.ok (.func fn first cap) w:=λ_ _ _ _=>rfl;have HW:Hid (Calls AS f RH (w.alloc (By #[U O 0] 31)) λr w'=>r=AT (Im #[])/\Hid (R w')/\w'.cell? ⟨w.heap.size,0,be⟩=AI (U O 0)/\w'.frozen? ⟨w.heap.size,0,be⟩=false/\w.heap.size<w'.heap.size):=hw;clear hw;go_enter_defers Tryz.func119,Tryz.ntmps119
 go_wp2_with fail;refine HW.out.mono ?_;rintro e w1 ⟨rfl,HR,h1,h2,h3⟩;go_wp2_with fail;refine leaves_cons (f:=191) (args:=#[If (AI ⟨w.heap.size,0,be⟩)]) (by simp) (by simp[go_sem]) ?_;refine(AF ⟨w.heap.size,0,be⟩ _).mono ?_;rintro e u' fD ⟨rfl,rfl,rfl⟩;simp[Leaves,settle,results,Tryz.results119,go_sem,h1];exact⟨w1,HR.out,h3,rfl⟩
end Go.Proofs.YtfidhgjmifendaaGreatDoor
namespace Go.Proofs
open Go.Shelf
end Go.Proofs
namespace Go.Proofs.YtfidhgjmifendaaGreatDoor
open Go.RowKit
theorem Tryz.infoByte:(Tryz.prog.info? 5).map (λi=>(i.zero,i.size,i.bytes))=AI (AI (U .u8 0),1,1):=by kernel_rfl
theorem Tryz.sizeBuilder:(Tryz.prog.info? 268).map (·.size)=AI 2:=by kernel_rfl
theorem Tryz.AH:liesAt AS Tryz.prog.depth 270 (2/Tryz.prog.cellsOf 270) 0 268 1=true:=by kernel_rfl
abbrev LK(B b:Nat)(p:Value)(bs:List Value)(w:World):Prop:=Lib.BuilderAt 270 5 B b p bs w
def cW(B b:Nat)(bs:List Value)(w:World):Prop:=LK B b (If be) bs w\/LK B b (If (AI ⟨b,0,be⟩)) bs w
def nJ(w:World)(b:Nat):Option Nat:=(w.cell? ⟨b,1,be⟩).bind Jx
def Kq(b:Nat)(w w':World):Prop:=b<w.heap.size->(∀k,k<w.heap.size->k≠b->AI k≠nJ w b->w'.heap[k]?=w.heap[k]?)/\(nJ w' b=nJ w b\/∀k,nJ w' b=AI k->w.heap.size<=k)
structure Kp(B b:Nat)(w w':World):Prop where
 jV:Below B w w'
 TK:Lib.OthersKept 5 (AI b) w w'
 kq:Kq b w w'
theorem Kq.refl(b:Nat)(w:World):Kq b w w:=λ_=>⟨λ_ _ _ _=>rfl,.inl rfl⟩
theorem Kq.trans{b:Nat}{w w1 w2:World}(h:Kq b w w1)(k:Kq b w1 w2)(hs:w.heap.size<=w1.heap.size):Kq b w w2:=λhb=>by
 obtain⟨h1,h2⟩:=h hb;obtain⟨k1,k2⟩:=k (IJ hb hs);refine⟨λj hj GH Cz=>?_,?_⟩
 .refine(k1 j (IJ hj hs) GH λe=>?_).trans (h1 j hj GH Cz)
  rcases h2 with h2|h2
  .exact Cz (e.trans h2)
  .have:=h2 j e.symm;omega
 .rcases k2 with k2|k2
  .rcases h2 with h2|h2
   .exact .inl (k2.trans h2)
   .exact .inr λj hj=>h2 j (k2▸hj)
  .exact .inr λj hj=>Ir hs (k2 j hj)
theorem Kp.refl(B b:Nat)(w:World):Kp B b w w:=⟨Below.refl _ _,Lib.OthersKept.refl _ _ _,Kq.refl b w⟩
theorem Kp.trans{B b:Nat}{w w1 w2:World}(h:Kp B b w w1)(k:Kp B b w1 w2):Kp B b w w2:=⟨h.jV.trans k.jV,h.TK.trans k.TK,h.kq.trans k.kq h.jV.size⟩
theorem Kp.size{B b:Nat}{w w1:World}(h:Kp B b w w1):w.heap.size<=w1.heap.size:=h.jV.size
theorem Kq.step{b:Nat}{w1 w2:World}{p v v':Value}{T:I4}(aB:w1.heap[b]?=AI (By #[p,v] T (0,0)))(aI:w2.heap[b]?=AI (By #[p,v] T (0,0)))(hg:∀k,k<w1.heap.size->AI k≠v.ownBlock->w2.heap[k]?=w1.heap[k]?)(cH:v'.ownBlock=v.ownBlock\/∀k,v'.ownBlock=AI k->w1.heap.size<=k):Kq b w1 (w2.setCell ⟨b,1,be⟩ v'):=λ_=>by
 have e1:nJ w1 b=v.ownBlock:=by unfold nJ;rw[ae aB 1];rfl
 have e2:nJ (w2.setCell ⟨b,1,be⟩ v') b=v'.ownBlock:=by unfold nJ;rw[World.cell?_setCell_same _ _ _ (ae aI 1:w2.cell? ⟨b,1,be⟩=AI v)];rfl
 rw[e1,e2];exact⟨λk hk Vm gK=>(Below.heap_setCell w2 _ v' k Vm).trans (hg k hk gK),cH⟩
theorem yp{B n:Nat}{w:World}{v:Value}{xs:List Value}(h:w.ownsRow B 5 1 v n xs):∀g,v.ownBlock=AI g->∃c fz,w.heap[g]?=AI (By c 5 fz):=by
 intro g hg;rcases h.2 with⟨rfl,_⟩|⟨g',cap,cur,rfl,_,Vn,_⟩
 .simp[Jx] at hg
 .simp[Jx] at hg
  subst hg;exact⟨cur,_,Vn⟩
theorem AJ(b:Nat)(w:World)(h0:w.cell? ⟨b,0,be⟩=AI (If be))(Am:w.shape? b=AI (270,2))(qT:w.frozen? ⟨b,0,be⟩=false) :
 aF 300 #[If (AI ⟨b,0,be⟩)] w λe w'=>e=AT (Im #[])/\w'=w.setCell ⟨b,0,be⟩ (If (AI ⟨b,0,be⟩)):=by
 obtain⟨j,hj,hjs⟩:=Option.map_eq_some_iff.1 Tryz.sizeBuilder;go_enter Tryz.func300,Tryz.ntmps300;go_wp2_with fail;rw[Lib.run_to_unsafe w ⟨b,0,be⟩ Tryz.underlying265 Tryz.underlying338 hj (by rw[hjs];decide) Am (Nat.zero_lt_succ 1)];simp only[Result.andThen];rw[Oper.upon_value];go_wp2_with fail;rw[OE Tryz.func310 (by kernel_rfl) (by kernel_rfl) (by kernel_rfl) (e:=Extern.AbiNoEscape.same) (by kernel_rfl)];rw[Lib.run_noEscape];simp only[Result.andThen];rw[Oper.upon_value];go_wp2_with fail;rw[Lib.run_from_unsafe w ⟨b,0,be⟩ Tryz.underlying338 Tryz.underlying265 hj Am Tryz.AH];simp only[Result.andThen];rw[Oper.upon_value];go_wp2_with fail;simp[JU,results,Tryz.results300]
theorem DJ(b:Nat)(w:World)(h0:w.cell? ⟨b,0,be⟩=AI (If (AI ⟨b,0,be⟩))) :
 aF 300 #[If (AI ⟨b,0,be⟩)] w λe w'=>e=AT (Im #[])/\w'=w:=by
 obtain⟨j,hj,_⟩:=Option.map_eq_some_iff.1 Tryz.sizeBuilder;go_enter Tryz.func300,Tryz.ntmps300;go_wp2_with fail;rw[Lib.run_neq_ptr_same w _ Tryz.underlying265 hj];go_wp2_with fail;simp[JU,results,Tryz.results300]
theorem yq(B b:Nat)(bs:List Value)(w:World)(h:cW B b bs w) :
 aF 300 #[If (AI ⟨b,0,be⟩)] w λe w'=>e=AT (Im #[])/\LK B b (If (AI ⟨b,0,be⟩)) bs w'/\Kp B b w w':=by
 rcases h with h|h
 .refine(AJ b w h.cell0 h.shape h.frozen0).mono ?_
  rintro e w' ⟨rfl,rfl⟩;exact⟨rfl,h.used _,(Below.refl B w).setCell (p:=⟨b,0,be⟩) h.1 _,(Lib.OthersKept.refl _ _ w).setCell ⟨b,0,be⟩ rfl _,λ_=>⟨λk _ Vm _=>Below.heap_setCell w _ _ k Vm,.inl (by unfold nJ;rw[World.cell?_setCell_other _ _ _ _ (by simp)])⟩⟩
 .refine(DJ b w h.cell0).mono ?_
  rintro e w' ⟨rfl,rfl⟩;exact⟨rfl,h,Kp.refl B b _⟩
theorem uE(B b:Nat)(bs:List Value)(c:Int)(w:World)(h:cW B b bs w)(hlen:bs.length+1<=1000000)(gL:B<=w.heap.size) :
 aF 285 #[If (AI ⟨b,0,be⟩),U .u8 c] w λe w'=>e=AT .nilIface/\LK B b (If (AI ⟨b,0,be⟩)) (bs++[U .u8 c]) w'/\Kp B b w w':=by
 obtain⟨i0,hi,dd,cX,ny⟩:=info_parts Tryz.infoByte;have HC:Hid (aF _ _ _ _):=yq B b bs w h;clear h;go_enter Tryz.func285,Tryz.ntmps285;go_wp2_with fail;refine HC.out.mono ?_;rintro e w1 ⟨rfl,h1,aB⟩;obtain⟨hB,v,CA,hown,aT⟩:=h1;have c0:=ae CA 0;have c1:=ae CA 1;have DK:=aB.size;have HO:Hid (w1.ownsRow _ _ _ _ _ _):=hown;have HK:Hid _:=CA;clear hown CA;go_wp2_with (at_builtin;refine wpList_append_own_at _ rfl _ _ 266 rfl B 5 i0 (U .u8 0) 1 1 Qo hi dd cX ny rfl (by decide) _ bs.length bs rfl (HO.out.alloc _) ⟨w1.heap.size,0,be⟩ 1 1 [U .u8 c] rfl rfl ?c1 ?c2 ?c3 ?c4 ?c5 ?_)
 case c1=>(intro j u hj;rw[Addr.add_lit];exact(dz (by simp)).trans (by simpa using hj))
 case c2=>(intro u hu;simp at hu;subst hu;rfl)
 case c3=>(unfold Io;omega)
 case c4=>omega
 case c5=>(simp;omega)
 intro v' w2 sy fI _ cH;have aR:=(BY.1 HK.out).1;have aI:w2.heap[b]?=AI (By #[If (AI ⟨b,0,be⟩),v] 270 (0,0)):=by
  rw[fI.block b (by simp;omega) (λe=>aT e.symm),Ob w1 _ b aR];exact HK.out
 have d0:=ae aI 0;have d1:=ae aI 1;have f1:=Lib.frozen_of_heap aI 1;have bp:Hid (Below B w w2/\Lib.OthersKept 5 (AI b) w w2):=(show _/\_ from⟨(aB.jV.alloc (by omega) _).grown fI (by simp;omega) (λk hk=>(HO.out.lt k hk).1),(aB.TK.alloc _).grown fI (yp (HO.out.alloc _))⟩);have HKQ:Hid (Kq _ _ _):=aB.kq.trans (Kq.step HK.out aI (λk hk gK=>(fI.block k (by simp;omega) gK).trans (Ob w1 _ k hk)) (cH.imp id (λe k hk=>by rw[e] at hk;simp at hk;omega))) DK;have oQ:Hid _:=aI;have gZ:Hid (w2.ownsRow _ _ _ _ _ _):=sy;obtain⟨g,cap,hv⟩:∃g cap,v'=J (AI ⟨g,0,be⟩) (bs.length+1) cap:=by
  rcases sy.2 with⟨_,h0⟩|⟨g,cap,cur,hv,_⟩
  .omega
  .exact⟨g,cap,hv⟩
 subst hv;clear sy fI aI c0 c1 aB cH;go_wp2_with fail;go_ret;refine⟨rfl,?_,?_⟩
 .exact Lib.BuilderAt.put (T:=270) (e:=5) hB oQ.out (bs':=bs++[U .u8 c]) (by simpa using gZ.out) (by decide)
 .exact⟨bp.out.1.setCell (p:=⟨b,1,be⟩) hB _,bp.out.2.setCell ⟨b,1,be⟩ rfl _,HKQ.out⟩
theorem sz{P:Program}{w W:World}{base n:Nat}{t u ty e:I4}{i:TypeInfo}{v v':Value}{xs:List Value}{s:ByteArray}(ht:P.underlying t=AI (.slice e))(hu:P.underlying u=AI .string)(hi:P.info? e=AI i)(hz:i.zero=AI (U .u8 0))(iL:i.size=1)(Vo:i.bytes=1)(hown:w.ownsRow base e 1 v n xs)(h63:n+s.size<=Io)(hbytes:n+s.size<=140737488355328)(hr:(Builtin.append_ #[t,u] ty #[v,Y s]).run P w=.ok v' W)(gM:v'=J be 0 0↔v=J be 0 0/\s.size=0):v'.ownBlock=v.ownBlock\/v'.ownBlock=AI w.heap.size:=by
 have hm:n+s.size<=9223372036854775807:=by simp only[Io] at h63;omega
 have hxl:xs.length=n:=by simpa using hown.1
 rcases hown.2 with⟨rfl,rfl⟩|⟨g,cap,cur,rfl,_,hg,_,_,bZ,_⟩
 .by_cases h0:s.size=0
  .exact .inl (by rw[gM.2 ⟨rfl,h0⟩])
  .rw[run_append_nil_string (P:=P) w t u ty e i (U .u8 0) ht hu hi hz s (by omega) (by omega) (by rw[Vo];omega)] at hr
   injection hr with h1 _;exact .inr (by rw[<- h1];rfl)
 .by_cases du:n+s.size<=cap
  .rw[Lib.run_append_room_string (P:=P) w t u ty e i ht hu hi iL g n cap cur hg s du (by have:=bZ;omega)] at hr
   injection hr with h1 _;exact .inl (by rw[<- h1];rfl)
  .rw[Lib.run_append_grow_string (P:=P) w t u ty e i (U .u8 0) ht hu hi hz ⟨g,0,be⟩ n cap xs (by rw[iL];simpa using hxl) (hown.cells (g:=g) rfl) s (by omega) (by omega) (by rw[Vo];exact growslice_fits (by omega) (by omega))] at hr
   injection hr with h1 _;exact .inr (by rw[<- h1];rfl)
theorem nR{P:Program}(w:World){ops:Array Oper}{rest:List Oper}{o:Oper}{a:Act}{Q:Exit->Act->World->Prop}(hgd:o.guard=be)(sl x:Operand)(t u:I4)(ho:o.op=.call { callee:=.builtin .append,args:=#[sl,x],argTypes:=#[t,u] })(base:Nat)(e:I4)(i:TypeInfo)(ht:P.underlying t=AI (.slice e))(hu:P.underlying u=AI .string)(hi:P.info? e=AI i)(hz:i.zero=AI (U .u8 0))(iL:i.size=1)(Vo:i.bytes=1)
 (v:Value) (n:Nat) (xs:List Value) (hs:a.eval sl=v) (hown:w.ownsRow base e 1 v n xs) (s:ByteArray) (hx:a.eval x=Y s) (h63:n+s.size<=Io) (hbytes:n+s.size<=140737488355328) (hbase:base<=w.heap.size)
 (h:∀v' w',w'.ownsRow base e 1 v' (n+s.size) (xs++Oj s)->w.grownBy w' v.ownBlock->(v'.ownBlock=v.ownBlock\/v'.ownBlock=AI w.heap.size)->wpList P ops Q rest (a.put o.dst v') w'):wpList P ops Q (o::rest) a w:=by
 obtain⟨v',w',hr,h2,h3,h4⟩:=Lib.run_append_own_string (P:=P) w base t u o.type e i ht hu hi hz iL Vo v n xs hown s h63 hbytes hbase;have h5:=sz ht hu hi hz iL Vo hown h63 hbytes hr h4;refine wpList_plain hgd λK hK=>?_;have Pn:=hK _ _ (h v' w' h2 h3 h5);simp only[Oper.wp,execOp,ho,resolve,invoke,builtin,Sem.run_bind,Sem.run_pure,Result.andThen_ok,List.map_toArray,List.map_cons,List.map_nil,hs,hx,hr];exact Pn
theorem lW(B b:Nat)(bs:List Value)(s:ByteArray)(w:World)(h:cW B b bs w)(hlen:bs.length+s.size<=1000000)(gL:B<=w.heap.size) :
 aF 284 #[If (AI ⟨b,0,be⟩),Y s] w λe w'=>e=AT (Im #[U O s.size,.nilIface])/\LK B b (If (AI ⟨b,0,be⟩)) (bs++Oj s) w'/\Kp B b w w':=by
 obtain⟨i0,hi,dd,cX,ny⟩:=info_parts Tryz.infoByte;have HC:Hid (aF _ _ _ _):=yq B b bs w h;clear h;go_enter Tryz.func284,Tryz.ntmps284;go_wp2_with fail;refine HC.out.mono ?_;rintro e w1 ⟨rfl,h1,aB⟩;obtain⟨hB,v,CA,hown,aT⟩:=h1;have c0:=ae CA 0;have c1:=ae CA 1;have DK:=aB.size;have HO:Hid (w1.ownsRow _ _ _ _ _ _):=hown;have HK:Hid _:=CA;clear hown CA;go_wp2_with (at_builtin;refine nR _ rfl _ _ 266 9 rfl B 5 i0 Qo Tryz.underlying9 hi dd cX ny _ bs.length bs rfl HO.out s rfl ?c3 ?c4 ?c5 ?_)
 case c3=>(unfold Io;omega)
 case c4=>omega
 case c5=>omega
 intro v' w2 sy fI cH;have aR:=(BY.1 HK.out).1;have aI:w2.heap[b]?=AI (By #[If (AI ⟨b,0,be⟩),v] 270 (0,0)):=by
  rw[fI.block b aR (λe=>aT e.symm)];exact HK.out
 have d0:=ae aI 0;have d1:=ae aI 1;have f1:=Lib.frozen_of_heap aI 1;have bp:Hid (Below B w w2/\Lib.OthersKept 5 (AI b) w w2):=(show _/\_ from⟨aB.jV.grown fI (by omega) (λk hk=>(HO.out.lt k hk).1),aB.TK.grown fI (yp HO.out)⟩);have HKQ:Hid (Kq _ _ _):=aB.kq.trans (Kq.step HK.out aI (λk hk gK=>fI.block k hk gK) (cH.imp id (λe k hk=>by rw[e] at hk;simp at hk;omega))) DK;have oQ:Hid _:=aI;have gZ:Hid (w2.ownsRow B 5 1 v' (bs++Oj s).length (bs++Oj s)):=(show World.ownsRow _ _ _ _ _ _ _ by simpa[Lib.strCells_length] using sy);obtain⟨ao,n',cap,hv⟩:∃ao n' cap,v'=J ao n' cap:=by
  rcases sy.2 with⟨hv,_⟩|⟨g,cap,cur,hv,_⟩
  .exact⟨_,_,_,hv⟩
  .exact⟨_,_,_,hv⟩
 subst hv;clear sy fI aI c0 c1 aB cH;go_wp2_with fail;go_ret2;refine⟨rfl,?_,?_⟩
 .exact Lib.BuilderAt.put (T:=270) (e:=5) hB oQ.out (bs':=bs++Oj s) gZ.out (by decide)
 .exact⟨bp.out.1.setCell (p:=⟨b,1,be⟩) hB _,bp.out.2.setCell ⟨b,1,be⟩ rfl _,HKQ.out⟩
end Go.Proofs.YtfidhgjmifendaaGreatDoor
namespace Go.Proofs.YtfidhgjmifendaaGreatDoor
namespace Wh
open Go.ChangeShapes Go.WideShapes Go.ChangeAt Go.RowKit
section
variable {H:Type} {enc:TypeId × Value→H} {w:World} {base:Nat} {spare:Nat→Bool} {held:Bool}
theorem Tryz.Mk:Tryz.prog.cellsOf 3=1:=by kernel_rfl
theorem kcP:Tryz.prog.cellsOf 39=5:=by kernel_rfl
theorem yr{fuel:Nat}{cs:List Value}{x:DataW H×List MemPlace}(h:DataW.trod enc AS w base spare held fuel 39 cs=AI x) :
 ∃a b c d e:Int,cs=[U O a,U O b,U O c,U O d,U O e]:=by
 obtain⟨xs,n,_,_,hl,hlen,hf⟩:=DataW.trod_struct Tryz.underlying39 h;rw[kcP] at hl
 match cs,hl with
 |[c0,c1,c2,c3,c4],_=>
  match xs,hlen with
  |[y0,y1,y2,y3,y4],_=>
   have h0:=hf 0 _ rfl;have h1:=hf 1 _ rfl;have h2:=hf 2 _ rfl;have h3:=hf 3 _ rfl;have h4:=hf 4 _ rfl;simp[Tryz.Mk] at h0;simp[Tryz.Mk] at h1;simp[Tryz.Mk] at h2;simp[Tryz.Mk] at h3;simp[Tryz.Mk] at h4;obtain⟨a,e0,_,_⟩:=JZ IF h0;obtain⟨b,e1,_,_⟩:=JZ IF h1;obtain⟨c,e2,_,_⟩:=JZ IF h2;obtain⟨d,e3,_,_⟩:=JZ IF h3;obtain⟨e,e4,_,_⟩:=JZ IF h4;simp only[List.cons.injEq,and_true] at e0 e1 e2 e3 e4;subst e0 e1 e2 e3 e4;exact⟨a,b,c,d,e,rfl⟩
end
end Wh
end Go.Proofs.YtfidhgjmifendaaGreatDoor
