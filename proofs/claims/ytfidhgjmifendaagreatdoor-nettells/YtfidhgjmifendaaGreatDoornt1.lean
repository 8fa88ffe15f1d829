import Derived.Test.YtfidhgjmifendaaGreatDoorProg
import Derived.WalkSpells
import Derived.WalkLawsBesides
import Derived.Lib.AppendZerosOnto
import Derived.Lib.Overlaps
import Derived.Lib.QuietBelow
import Derived.Shelf.Strings.Builder1
import Derived.Shelf.Small.Strs
import Derived.Shelf.Strconv.Itoa3
import Derived.Shelf.Strconv.AtoiAll
import Derived.Shelf.Strings.Shaped
import Derived.Shelf.SlSortCmp.NoneTotal
import Derived.Deep.RegionHeld3
import Derived.Lib.SmallJoins
set_option maxHeartbeats 2000000
set_option maxRecDepth 100000
open Go.Proofs.Tryz renaming prog→AS,underlying266→Qp,underlying3→ID
open Go.Ending renaming returned→By
open Go.Value renaming bool→Ia,int→U,string→Y,slice→J,tuple→Ik,pointer→Ie,ownBlock→Jy
open List renaming take_succ_eq_append_getElem→IF,getElem_mem→IH,pairwise_cons→JE,mem_cons→IT,rel_of_pairwise_cons→JG,getD→Ip,getElem?_eq_getElem→If,getD_cons_zero→I2,set_cons_succ→Ot,foldl_cons→OD,length_cons→Iy,length_append→Ig,getElem?_take_of_lt→IL
open Go.IntKind renaming i64→O
open Bool renaming eq_iff_iff→OB,and_eq_true→IM
open Go renaming maxLen→Il,run_callFunc_extern→OH,TypeId→I4,redrawn→Iz,cell_regrown→Is,bodyPost→JT
open Option renaming none→be,some→AI
open Go.Op renaming bytesLess→Jj
open UInt8 renaming lt_iff_toNat_lt→JU
open Go.Lib renaming compareBytes→Jv,toList_data→JJ,alloc_old→Om,strCells→Oi
open Go.Obj renaming cells→AT
open Nat renaming le_refl→Ic,lt_or_eq_of_le→Qn,lt_of_lt_of_le→IN,le_trans→Iq
open Go.Sort renaming grow→Io
open List.Pairwise renaming of_cons→Ol
open Array renaming getElem?_eq_some_iff→BY
open Go.World.ownsRow renaming lt→OL,stored→IG
open Go.DataW renaming trod_int→JZ
namespace Go.Proofs.YtfidhgjmifendaaGreatDoor
open Go.RowKit
abbrev aF(f:Nat)(a:Array Value)(w:World)(p:Ending->World->Prop):Prop:=Calls AS f a w p
abbrev kx(f:Nat)(a:Array Value)(w:World)(v:Value):Prop:=Calls AS f a w λe w'=>e=By v/\Below w.heap.size w w'
def within(n a b:Int):Bool:=decide (a<=n)&&decide (n<=b)
def Gt(n:Int):Bool:=(decide (97<=n)&&decide (n<=122))||(decide (48<=n)&&decide (n<=57))||decide (n=45)||decide (n=95)
def bb(s:ByteArray):Bool:=decide (1<=s.size)&&decide (s.size<=30)&&s.data.toList.all (λc=>Gt c.toNat)
theorem ba{a b:Bool}(h:a=b):By (Ia a)=By (Ia b):=by rw[h]
theorem ai{k:IntKind}{a b:Int}(h:a=b):By (U k a)=By (U k b):=by rw[h]
theorem DH(s:ByteArray)(k:Nat)(h:k<s.size):s.data.toList.take (k+1)=s.data.toList.take k++[s[k]]:=by
 rw[IF (by simpa using h)];rfl
theorem Gu(s:ByteArray)(k:Nat)(h:s.size<=k):s.data.toList.take k=s.data.toList:=
 List.take_of_length_le (by simpa using h)
theorem DI(s:ByteArray)(k:Nat)(h:k<s.size)(hk:(s.data.toList.take k).all (λc=>Gt c.toNat)=true)(hb:Gt (s[k].toNat:Int)=true) : (s.data.toList.take (k+1)).all (λc=>Gt c.toNat)=true:=by
 rw[DH s k h,List.all_append,hk];simp[hb]
theorem Gv(s:ByteArray)(k:Nat)(h:k<s.size)(hb:Gt (s[k].toNat:Int)=false):bb s=false:=by
 have:s.data.toList.all (λc=>Gt c.toNat)=false:=by
  rw[List.all_eq_false];refine⟨s[k],?_,by simp[hb]⟩;exact IH (l:=s.data.toList) (n:=k) (by simpa using h)
 simp[bb,this]
theorem cy(n a b:Int)(w:World) :
 Calls AS 54 #[U O n,U O a,U O b] w λe w'=>e=By (Ia (within n a b))/\w'=w:=by
 go_enter Tryz.func54,Tryz.ntmps54;go_wp2;all_goals
  go_ret;exact⟨ba (by unfold within;rw[OB];simp;try omega),rfl⟩
theorem eF(n:Int)(w:World) :
 Calls AS 35 #[U O n] w λe w'=>e=By (Ia (within n 0 4294967295))/\w'=w:=by
 go_enter Tryz.func35,Tryz.ntmps35;go_wp2_with (go_at_call 54;refine(cy _ _ _ _).mono ?_;rintro e w' ⟨rfl,rfl⟩);go_ret;exact⟨rfl,rfl⟩
theorem nL(n:Int)(w:World) :
 Calls AS 98 #[U .u8 n] w λe w'=>e=By (Ia (Gt n))/\w'=w:=by
 go_enter Tryz.func98,Tryz.ntmps98;go_wp2;all_goals
  go_ret;exact⟨ba (by unfold Gt;rw[OB];simp;try omega),rfl⟩
theorem bR(s:ByteArray)(w:World)(hs:s.size<=Il) :
 Calls AS 53 #[Y s] w λe w'=>e=By (Ia (bb s))/\w'=w:=by
 unfold Il at hs;by_cases hz:within (s.size:Int) 1 30=true
 .have TC:1<=s.size/\s.size<=30:=by simp[within] at hz;omega
  go_enter Tryz.func53,Tryz.ntmps53;go_wp2_with (go_at_call 54;refine(cy _ _ _ _).mono ?_;rintro e w' ⟨rfl,rfl⟩;rw[hz]);go_loop [10] (λi=>∃k:Nat,k<=s.size/\i=U O k/\(s.data.toList.take k).all (λc=>Gt c.toNat)=true) (λi=>s.size-(intOf i).toNat)
  case atStart=>exact⟨0,Nat.zero_le _,rfl,rfl⟩
  case round=>
   obtain⟨k,hk,rfl,ku⟩:=hrel;have HA:Hid _:=ku;clear ku;by_cases aW:k<s.size
   .by_cases hb:Gt (s[k].toNat:Int)=true
    .go_wp2_with (go_at_call 98;refine(nL _ _).mono ?_;rintro e w' ⟨rfl,rfl⟩;rw[hb])
     go_round
     case rel=>exact⟨k+1,by omega,by go_num,DI s k aW HA.out hb⟩
     case measure=>simp[intOf];omega
    .have wG:Gt (s[k].toNat:Int)=false:=by simpa using hb
     go_wp2_with (go_at_call 98;refine(nL _ _).mono ?_;rintro e w' ⟨rfl,rfl⟩;rw[wG]);go_ret;exact⟨ba (Gv s k aW wG).symm,rfl⟩
   .go_wp2
    go_ret;have h2:=HA.out;rw[Gu s k (by omega)] at h2;exact⟨ba (by simp[bb,h2,TC.1,TC.2]),rfl⟩
 .have TC:within (s.size:Int) 1 30=false:=by simpa using hz
  go_enter Tryz.func53,Tryz.ntmps53;go_wp2_with (go_at_call 54;refine(cy _ _ _ _).mono ?_;rintro e w' ⟨rfl,rfl⟩;rw[TC]);go_ret;refine⟨ba ?_,rfl⟩;symm;simp only[within,Bool.and_eq_false_iff,decide_eq_false_iff_not] at TC;simp only[bb,Bool.and_eq_false_iff,decide_eq_false_iff_not];rcases TC with h|h
  .exact .inl (.inl (by omega))
  .exact .inl (.inr (by omega))
theorem cz{W w1:World}(hb:Below W.heap.size W w1):(∀b o,b<W.heap.size->w1.cell? ⟨b,o,be⟩=W.cell? ⟨b,o,be⟩)/\(∀b o,b<W.heap.size->w1.frozen? ⟨b,o,be⟩=W.frozen? ⟨b,o,be⟩):=
 ⟨λb o h=>hb.cell (p:=⟨b,o,be⟩) h,λb o h=>hb.frozen (p:=⟨b,o,be⟩) h⟩
def less(a b:ByteArray):Bool:=Jj a.toList b.toList
theorem vu:∀a:List UInt8,Jj a a=false
 |[]=>rfl
 |x::r=>by simp[Jj,vu r]
theorem sz:∀a b:List UInt8,(!(Jj a b))=(Jj b a||b==a)
 |[],[]=>rfl
 |[],_::_=>rfl
 |_::_,[]=>rfl
 |x::r,y::t=>by
  have:=sz r t;by_cases h1:x<y
  .have h2:¬ y<x:=by rw[JU] at *;omega
   have h3:¬ y=x:=by rintro rfl;rw[JU] at *;omega
   simp[Jj,h1,h2,h3]
  .by_cases h2:y<x
   .have h3:¬ y=x:=by rintro rfl;rw[JU] at *;omega
    have h4:¬ x=y:=λh=>h3 h.symm;simp[Jj,h1,h2,h4]
   .have h3:y=x:=by
     apply UInt8.toNat_inj.1;rw[JU] at *;omega
    subst h3;simp[Jj];simpa using this
def bO(a b:ByteArray):Int:=Jv a.data.toList b.data.toList
theorem uH(a b:ByteArray)(w:World):(callFunc 140 #[Y a,Y b]).run AS w=.ok (.value (U O (bO a b))) w:=by
 rw[OH Tryz.func140 (by kernel_rfl) (by kernel_rfl) (by kernel_rfl) (e:=Extern.BytealgCompare.compare) (by kernel_rfl),Lib.run_compareString];rfl
theorem gn(a b:ByteArray)(w:World) :
 Calls AS 49 #[Y a,Y b] w λe w'=>e=By (U O (bO a b))/\w'=w:=by
 have hc:=uH;go_enter Tryz.func49,Tryz.ntmps49;go_wp2;go_ret;exact⟨rfl,rfl⟩
theorem Pb:∀a b:List UInt8,Jv a b<0↔Jj a b=true
 |[],[]=>by simp[Jv,Jj]
 |[],_::_=>by simp[Jv,Jj]
 |_::_,[]=>by simp[Jv,Jj]
 |x::r,y::t=>by
  have ih:=Pb r t;by_cases h1:x<y
  .simp[Jv,Jj,h1]
  .by_cases h2:y<x
   .have h3:¬ x=y:=by rintro rfl;exact h1 h2
    simp[Jv,Jj,h1,h2,h3]
   .have h3:x=y:=by
     apply UInt8.toNat_inj.1;rw[JU] at *;omega
    subst h3;simpa[Jv,Jj] using ih
theorem Pc:∀a b:List UInt8,Jv a b=0↔a=b
 |[],[]=>by simp[Jv]
 |[],_::_=>by simp[Jv]
 |_::_,[]=>by simp[Jv]
 |x::r,y::t=>by
  have ih:=Pc r t;by_cases h1:x<y
  .have h3:¬ x=y:=by rintro rfl;rw[JU] at *;omega
   simp[Jv,h1,h3]
  .by_cases h2:y<x
   .have h3:¬ x=y:=by rintro rfl;exact h1 h2
    simp[Jv,h1,h2,h3]
   .have h3:x=y:=by
     apply UInt8.toNat_inj.1;rw[JU] at *;omega
    subst h3;simpa[Jv] using ih
theorem yA:∀a b c:List UInt8,Jj a b=true->Jj b c=true->Jj a c=true
 |[],[],_,h,_=>by simp[Jj] at h
 |[],_::_,[],_,h=>by simp[Jj] at h
 |[],_::_,_::_,_,_=>by simp[Jj]
 |_::_,[],_,h,_=>by simp[Jj] at h
 |_::_,_::_,[],_,h=>by simp[Jj] at h
 |x::r,y::t,z::u,h1,h2=>by
  have ih:=yA r t u;simp only[Jj,Bool.or_eq_true,IM,decide_eq_true_eq,beq_iff_eq] at h1 h2 ⊢;rcases h1 with h1|⟨rfl,h1⟩
  .rcases h2 with h2|⟨rfl,h2⟩
   .left;rw[JU] at *;omega
   .left;exact h1
  .rcases h2 with h2|⟨rfl,h2⟩
   .left;exact h2
   .right;exact⟨rfl,ih h1 h2⟩
theorem ky{a b:ByteArray}(h:a.data.toList=b.data.toList):a=b:=by
 obtain⟨⟨la⟩⟩:=a;obtain⟨⟨lb⟩⟩:=b;simp at h;subst h;rfl
theorem fB(a b:ByteArray):bO a b<0↔less a b=true:=by
 unfold bO less;rw[JJ,JJ];exact Pb _ _
theorem bT(a b:ByteArray):bO a b=0↔a=b:=by
 unfold bO;rw[Pc];exact⟨ky,λh=>by rw[h]⟩
theorem fU{a b c:ByteArray}(h1:less a b=true)(h2:less b c=true):less a c=true:=yA _ _ _ h1 h2
theorem gp(a:ByteArray):less a a=false:=vu _
theorem AE(a b:ByteArray):less a b=true\/a=b\/less b a=true:=by
 have h:=sz a.toList b.toList;unfold less;cases h1:Jj a.toList b.toList
 .rw[h1] at h
  cases h2:Jj b.toList a.toList
  .rw[h2] at h
   right;left
   have:b.toList=a.toList:=by simpa using h.symm
   rw[JJ,JJ] at this;exact(ky this).symm
  .right;right;rfl
 .left;rfl
theorem sB{a b:ByteArray}(h1:less a b=true):less b a=false:=by
 cases h:less b a
 .rfl
 .have:=fU h1 h;rw[gp] at this;cases this
theorem nf(a b:ByteArray):0<bO a b↔less b a=true:=by
 have h1:=fB a b;have h2:=bT a b;rcases AE a b with h|rfl|h
 .have:=h1.2 h
  rw[sB h];simp;omega
 .rw[gp];have:=h2.2 rfl;simp;omega
 .rw[h]
  have h3:¬ bO a b<0:=λhh=>by rw[h1,sB h] at hh;cases hh
  have h4:¬ bO a b=0:=λhh=>by rw[h2] at hh;subst hh;rw[gp] at h;cases h
  simp;omega
theorem lp{P:Program}(w:World)(dT sT ty elem:I4)(g o Re ab5:Nat)(a:Addr)(Rf ab6 k:Nat)(cur:Array Value)(t:I4)(cs:List Value)(hu:P.underlying dT=AI (.slice elem))(hs:(P.info? elem).map (·.size)=AI k)(hg:w.heap[g]?=AI (AT cur t (0,0)))(hn:cs.length=Nat.min Rf Re*k)(ab7:∀j v,cs[j]?=AI v->w.cell? (a.add j)=AI v)(ab8:o+cs.length<=cur.size)(h1:∀v∈cs,v.oneCell'=true) : (Builtin.copy_ #[dT,sT] ty #[J (AI ⟨g,o,be⟩) Re ab5,J (AI a) Rf ab6]).run P w =
   .ok (goInt (Nat.min Rf Re)) (w.setRow g (cur.toList.take o++cs++cur.toList.drop (o+cs.length)).toArray):=by
 have hl:=run_loadCells_list (P:=P) w a cs ab7;have oM:=run_storeCells_at P g o t cs 0 cur w hg (by simpa using ab8) h1;cases hq:P.info? elem with
 |none=>simp[hq] at hs
 |some i=>
  have hi:i.size=k:=by simpa[hq] using hs
  simp[Builtin.copy_,run_underlying hu,Builtin.lenOf,Builtin.firstCells,sizeOf,typeInfo,hq,hi,<- hn,hl,oM]
theorem du{P:Program}{ops:Array Oper}{o:Oper}{a:Act}{w:World}{K:Act->World->Prop}{Q:Exit->Act->World->Prop}{E:Prop}(hg:o.guard=be)(d x:Operand)(dT sT:I4)(hop:o.op=Op.call { callee:=Callee.builtin Builtin.copy,args:=#[d,x],argTypes:=#[dT,sT] })
 (v u:Value) (hd:a.eval d=v) (hx:a.eval x=u) {v':Value} {w':World} (hr:(Builtin.copy_ #[dT,sT] o.type #[v,u]).run P w=.ok v' w') (hK:K (a.put o.dst v') w') :
 if Region.wanted o (yielded ops a.tmps)=true then Oper.wp P o a w K Q else E:=by
 have hw:Region.wanted o (yielded ops a.tmps)=true:=by simp[Region.wanted,hg]
 rw[if_pos hw];unfold Oper.wp;simp[execOp,hop,resolve,invoke,builtin,hd,hx,hr,Result.andThen];exact hK
theorem ae{w:World}{g:Nat}{cur:Array Value}{t:I4}{fr:Nat×Nat}(hg:w.heap[g]?=AI (AT cur t fr))(o:Nat):w.cell? ⟨g,o,be⟩=cur[o]?:=by
 simp[World.cell?,hg]
theorem jG{a b:ByteArray}(h:a≠b):(a.toList==b.toList)=false/\¬ a.toList=b.toList:=by
 have h2:¬ a.toList=b.toList:=λe=>h (ky (by rw[JJ,JJ] at e;exact e));exact⟨by simpa using h2,h2⟩
theorem dA{W:World}{cs:Array Value}{t:I4}{g k:Nat}(hg:g=W.heap.size):(W.alloc (AT cs t)).cell? ⟨g,k,be⟩=cs[k]?:=by subst hg;simp
theorem ni{w w':World}(h:w.grownBy w' be)(row:Option Nat):w.grownBy w' row:=⟨h.os,h.tape,h.output,h.size,λk hk _=>h.block k hk (by simp)⟩
theorem bW(w:World)(A:Array Value)(T:I4):∃W,W=w.alloc (AT A T)/\Below w.heap.size w W/\W.heap.size=w.heap.size+1/\W.heap[w.heap.size]?=AI (AT A T (0,0)):=⟨_,rfl,(Below.refl _ _).alloc (Ic _) _,by simp,heap_alloc_new w _⟩
theorem bN{P:Program}{ops:Array Oper}{C:World->Prop}{R:Act->World->Prop}{w:World}{a:Act}(h:∀d os,Hid (Below w.heap.size w (Io (Iz w d) os))->R a (Io (Iz w d) os)):wpQuiet P ops C (λa=>∀w',(∃p:Regrown,w'=Io (Iz w p.d) p.os)->R a w') [] a:=wpQuiet_nil (λ_ ⟨p,e⟩=>e▸h p.d p.os (below_regrown w p.d p.os))
end Go.Proofs.YtfidhgjmifendaaGreatDoor
namespace Go.Proofs.YtfidhgjmifendaaGreatDoor
namespace RL
section
variable {α:Type}
structure Keyed(o:α->α->Int):Prop where
 refl:∀a,o a a=0
 gt:∀a b,0<o a b↔o b a<0
 trans:∀a b c,o a b<0->o b c<0->o a c<0
 left:∀a b c,o a b=0->o a c=o b c
 right:∀a b c,o a b=0->o c a=o c b
structure qj(o:α->α->Int)(nw:α->α->Bool):Prop where
 irrefl:∀a,nw a a=false
 trans:∀a b c,nw a b=true->nw b c=true->nw a c=true
 total:∀a b,o a b=0->nw a b=false->nw b a=false->a=b
theorem Keyed.symm{o:α->α->Int}(h:Keyed o){a b:α}(e:o a b=0):o b a=0:=by
 have h1:=h.gt a b;have h2:=h.gt b a;rcases Int.lt_trichotomy (o b a) 0 with hl|he|hg
 .have:=h1.2 hl;omega
 .exact he
 .have:=h2.1 hg;omega
theorem Keyed.CA{o:α->α->Int}(h:Keyed o){a b c:α}(e:o a b=0)(f:o b c=0):o a c=0:=by rw[h.left a b c e];exact f
variable (o:α→α→Int) (nw:α→α→Bool) (d:α)
abbrev bn(ms:List α):Prop:=ms.Pairwise λa b=>o a b<0
def aL:List α->Bool
 |[]=>true
 |[_]=>true
 |a::b::r=>decide (o a b<0)&&aL (b::r)
theorem lq(hk:Keyed o):∀ms:List α,aL o ms=true->bn o ms
 |[],_=>.nil
 |[x],_=>by simp[bn]
 |a::b::r,h=>by
  rw[aL,IM,decide_eq_true_eq] at h;have ih:=lq hk (b::r) h.2;refine JE.2 ⟨λc hc=>?_,ih⟩;rcases IT.1 hc with rfl|hc
  .exact h.1
  .exact hk.trans _ _ _ h.1 (JG ih hc)
theorem jH:∀ms:List α,bn o ms->aL o ms=true
 |[],_=>rfl
 |[x],_=>rfl
 |a::b::r,h=>by
  rw[aL,IM,decide_eq_true_eq];exact⟨JG h (by simp),jH (b::r) (Ol h)⟩
theorem gq:∀ms:List α,(∀j,j+1<ms.length->o (ms.getD j d) (ms.getD (j+1) d)<0)->aL o ms=true
 |[],_=>rfl
 |[x],_=>rfl
 |a::b::r,h=>by
  rw[aL,IM,decide_eq_true_eq];refine⟨by have:=h 0 (by simp);simpa using this,gq (b::r) λj hj=>?_⟩;have:=h (j+1) (by simpa using hj);simpa using this
theorem ia:∀ms:List α,aL o ms=true->∀j,j+1<ms.length->o (ms.getD j d) (ms.getD (j+1) d)<0
 |[],_,j,hj=>by simp at hj
 |[x],_,j,hj=>by simp at hj
 |a::b::r,h,0,_=>by
  rw[aL,IM,decide_eq_true_eq] at h;simpa using h.1
 |a::b::r,h,j+1,hj=>by
  rw[aL,IM,decide_eq_true_eq] at h;have:=ia (b::r) h.2 j (by simpa using hj);simpa using this
theorem j9{ms:List α}{i:Nat}(h:i<ms.length):ms.getD i d=ms[i]:=by simp[Ip,If h]
theorem wH{ms:List α}(h:bn o ms){i j:Nat}(iY:i<j)(hj:j<ms.length):o (ms.getD i d) (ms.getD j d)<0:=by
 rw[j9 d (show i<ms.length by omega),j9 d hj];exact List.pairwise_iff_getElem.1 h i j (by omega) hj iY
theorem dP(hk:Keyed o){ms:List α}(h:bn o ms)(t:α):∀i j,i<=j->j<ms.length->o (ms.getD j d) t<0->o (ms.getD i d) t<0:=by
 intro i j iY hj aW;rcases Qn iY with Rg|rfl
 .exact hk.trans _ _ _ (wH o d h Rg hj) aW
 .exact aW
structure At(ms:List α)(t:α)(p:Nat)(f:Bool):Prop where
 le:p<=ms.length
 lo:∀j,j<p->o (ms.getD j d) t<0
 hi:∀j,p<=j->j<ms.length->0<=o (ms.getD j d) t
 is:f=true↔p<ms.length/\o (ms.getD p d) t=0
theorem jI(hk:Keyed o)(ms:List α)(hr:bn o ms)(t:α):∃p f,At o d ms t p f:=by
 induction ms with
 |nil=>exact⟨0,false,by simp,λj h=>by omega,λj h h2=>by simp at h2,by simp⟩
 |cons x r ih=>
  have hx:=JE.1 hr;by_cases aW:o x t<0
  .obtain⟨p,f,h⟩:=ih hx.2
   refine⟨p+1,f,by have:=h.le;simpa using this,λj hj=>?_,λj hj hl=>?_,by have:=h.is;simpa using this⟩
   .cases j with
    |zero=>simpa using aW
    |succ j=>have:=h.lo j (by omega);simpa using this
   .cases j with
    |zero=>omega
    |succ j=>have:=h.hi j (by omega) (by simpa using hl);simpa using this
  .refine⟨0,decide (o x t=0),by simp,λj hj=>by omega,λj _ hl=>?_,by simp⟩
   apply Int.not_lt.1;intro hq;have:=dP o d hk hr t 0 j (by omega) hl hq;simp at this;omega
theorem ey{ms:List α}{t:α}{p q:Nat}{f e:Bool}(h:At o d ms t p f)(k:At o d ms t q e):p=q/\f=e:=by
 have Gx:p=q:=by
  rcases Nat.lt_trichotomy p q with aW|rfl|aW
  .have h1:=k.lo p aW
   have h2:=h.hi p (Ic _) (by have:=k.le;omega);omega
  .rfl
  .have h1:=h.lo q aW
   have h2:=k.hi q (Ic _) (by have:=h.le;omega);omega
 subst Gx;refine⟨rfl,?_⟩;rw[OB,h.is,k.is]
theorem yB{ms:List α}(hk:Keyed o)(hr:bn o ms){t:α}{k:Nat}(hl:k<ms.length)(he:o (ms.getD k d) t=0):At o d ms t k true:=by
 refine⟨by omega,λj hj=>?_,λj hj Rh=>?_,⟨λ_=>⟨hl,he⟩,λ_=>rfl⟩⟩
 .rw[<- hk.right _ _ (ms.getD j d) he]
  exact wH o d hr hj hl
 .rcases Qn hj with h|rfl
  .rw[<- hk.right _ _ (ms.getD j d) he]
   have:=(hk.gt (ms.getD j d) (ms.getD k d)).2 (wH o d hr h Rh);omega
  .omega
def fJ:List α->α->List α
 |[],m=>[m]
 |x::r,m=>if o x m<0 then x::fJ r m else if o x m=0 then(if nw m x=true then m::r else x::r) else m::x::r
theorem oR:∀(ms:List α) (m:α) (p:Nat) (f:Bool),At o d ms m p f ->
 fJ o nw ms m=if f=true then(if nw m (ms.getD p d)=true then ms.set p m else ms) else ms.take p++m::ms.drop p
 |[],m,p,f,h=>by
  have hp:p=0:=by have:=h.le;simpa using this
  subst hp;have hf:f=false:=by
   cases f
   .rfl
   .have:=h.is.1 rfl;simp at this
  subst hf;simp[fJ]
 |x::r,m,0,f,h=>by
  have h0:=h.hi 0 (Ic _) (by simp);simp only[I2] at h0;rw[fJ,if_neg (by omega)];cases f
  .have aM:¬ o x m=0:=λe=>by have:=h.is.2 ⟨by simp,by simpa using e⟩;cases this
   rw[if_neg aM];simp
  .have he:=(h.is.1 rfl).2
   simp only[I2] at he;rw[if_pos he];simp only[I2,List.set_cons_zero,if_pos]
 |x::r,m,p+1,f,h=>by
  have h0:=h.lo 0 (by omega);simp only[I2] at h0;have hr:At o d r m p f:=⟨by have:=h.le;simpa using this,λj hj=>by have:=h.lo (j+1) (by omega);simpa using this,
   λj hj hl=>by have:=h.hi (j+1) (by omega) (by simpa using hl);simpa using this,by have:=h.is;simpa using this⟩
  rw[fJ,if_pos h0,oR r m p f hr];cases f
  .simp
  .simp only[if_pos,List.getD_cons_succ,Ot]
   split<;>rfl
theorem oS:∀(ms:List α) (m x:α),x∈fJ o nw ms m->x=m\/x∈ms
 |[],m,x,h=>by simp[fJ] at h;exact .inl h
 |y::r,m,x,h=>by
  rw[fJ] at h;split at h
  .rcases IT.1 h with rfl|h
   .exact .inr (by simp)
   .rcases oS r m x h with h|h
    .exact .inl h
    .exact .inr (by simp[h])
  .split at h
   .split at h
    .rcases IT.1 h with h|h
     .exact .inl h
     .exact .inr (by simp[h])
    .exact .inr h
   .rcases IT.1 h with h|h
    .exact .inl h
    .exact .inr h
theorem nj(hk:Keyed o):∀(ms:List α) (m:α),bn o ms->bn o (fJ o nw ms m)
 |[],m,_=>by simp[fJ]
 |x::r,m,h=>by
  have hx:=JE.1 h;rw[fJ];split
  .rename_i aW
   refine JE.2 ⟨λy hy=>?_,nj hk r m hx.2⟩;rcases oS o nw r m y hy with rfl|hy
   .exact aW
   .exact hx.1 y hy
  .rename_i aW
   split
   .rename_i he
    split
    .exact JE.2 ⟨λy hy=>by rw[<- hk.left x m y he];exact hx.1 y hy,hx.2⟩
    .exact h
   .rename_i he
    have hg:=(hk.gt x m).1 (by omega);refine JE.2 ⟨λy hy=>?_,h⟩;rcases IT.1 hy with rfl|hy
    .exact hg
    .exact hk.trans _ _ _ hg (hx.1 y hy)
theorem sC:∀(ms:List α) (m:α),ms.length<=(fJ o nw ms m).length/\(fJ o nw ms m).length<=ms.length+1
 |[],m=>by simp[fJ]
 |x::r,m=>by
  have:=sC r m;rw[fJ];split
  .simp;omega
  .split
   .split<;>simp
   .simp
def join(a b:List α):List α:=b.foldl (fJ o nw) a
theorem kM(hk:Keyed o):∀(b a:List α),bn o a->bn o (join o nw a b)
 |[],_,h=>h
 |m::r,a,h=>kM hk r (fJ o nw a m) (nj o nw hk a m h)
theorem oT:∀(b a:List α),(join o nw a b).length<=a.length+b.length
 |[],_=>by simp[join]
 |m::r,a=>by
  have h1:=oT r (fJ o nw a m);have h2:=sC o nw a m;simp only[join,OD,Iy] at *;omega
theorem oU:∀(b a:List α) (x:α),x∈join o nw a b->x∈a\/x∈b
 |[],_,_,h=>.inl h
 |m::r,a,x,h=>by
  rcases oU r (fJ o nw a m) x h with h|h
  .rcases oS o nw a m x h with rfl|h
   .exact .inr (by simp)
   .exact .inl h
  .exact .inr (by simp[h])
theorem ql(a b:List α)(j:Nat)(hj:j<b.length):join o nw a (b.take (j+1))=fJ o nw (join o nw a (b.take j)) (b.getD j d):=by
 rw[j9 d hj,IF hj,join,List.foldl_append,join];rfl
theorem vv:∀(a:List α) (m:α),(∀x∈a,o x m<0)->fJ o nw a m=a++[m]
 |[],_,_=>rfl
 |x::r,m,h=>by
  rw[fJ,if_pos (h x (by simp)),vv r m (λy hy=>h y (by simp[hy]))];rfl
theorem yC:∀(b a:List α),bn o (a++b)->join o nw a b=a++b
 |[],a,_=>by simp[join]
 |m::r,a,h=>by
  have h1:=vv o nw a m λx hx=>(List.pairwise_append.1 h).2.2 x hx m (by simp);have h2:=yC r (a++[m]) (by simpa using h);simp only[join,OD,h1] at h2 ⊢;rw[h2];simp
theorem join_nil(b:List α)(h:bn o b):join o nw [] b=b:=yC o nw b [] h
def mx(x y:α):α:=if nw y x=true then y else x
def get(ms:List α)(n:α):Option α:=ms.find? λx=>decide (o x n=0)
theorem get_nil(n:α):get o [] n=be:=rfl
theorem cA(x:α)(r:List α){n:α}(h:o x n=0):get o (x::r) n=AI x:=by simp[get,h]
theorem dv(x:α)(r:List α){n:α}(h:¬ o x n=0):get o (x::r) n=get o r n:=by simp[get,h]
theorem L0{ms:List α}{n x:α}(h:get o ms n=AI x):o x n=0:=by
 have:=List.find?_some h;simpa using this
theorem get_mem{ms:List α}{n x:α}(h:get o ms n=AI x):x∈ms:=List.mem_of_find?_eq_some h
theorem get_none{ms:List α}{n:α}(h:∀x∈ms,¬ o x n=0):get o ms n=be:=by
 unfold get;rw[List.find?_eq_none];intro x hx;simpa using h x hx
theorem np(hk:Keyed o){x:α}{r:List α}(h:bn o (x::r)):∀y∈r,¬ o y x=0:=by
 intro y hy e;have:=JG h hy;have h2:=hk.symm e;omega
theorem Gy(hk:Keyed o):∀{a b:List α},bn o a->bn o b->(∀n,get o a n=get o b n)->a=b
 |[],[],_,_,_=>rfl
 |[],y::s,_,_,h=>by
  have:=h y;rw[get_nil,cA o y s (hk.refl y)] at this;cases this
 |x::r,[],_,_,h=>by
  have:=h x;rw[get_nil,cA o x r (hk.refl x)] at this;cases this
 |x::r,y::s,ha,hb,h=>by
  have Vj:o x y=0:=by
   rcases Int.lt_trichotomy (o x y) 0 with hl|he|hl
   .have h1:=h x
    rw[cA o x r (hk.refl x),get_none] at h1
    .cases h1
    .intro z hz e
     have e2:=hk.symm e;rcases IT.1 hz with rfl|hz
     .omega
     .have h2:=hk.trans _ _ _ hl (JG hb hz)
      omega
   .exact he
   .have hl:=(hk.gt x y).1 hl
    have h1:=h y;rw[cA o y s (hk.refl y),get_none] at h1
    .cases h1
    .intro z hz e
     have e2:=hk.symm e;rcases IT.1 hz with rfl|hz
     .omega
     .have h2:=hk.trans _ _ _ hl (JG ha hz)
      omega
  have hxy:x=y:=by
   have h1:=h x;rw[cA o x r (hk.refl x),cA o y s (hk.symm Vj)] at h1;exact Option.some.inj h1
  subst hxy;have oN:r=s:=Gy hk (Ol ha) (Ol hb) λn=>by
   by_cases hn:o x n=0
   .rw[get_none o (λz hz e=>np o hk ha z hz (hk.CA e (hk.symm hn))),get_none o (λz hz e=>np o hk hb z hz (hk.CA e (hk.symm hn)))]
   .have h1:=h n
    rw[dv o x r hn,dv o x s hn] at h1;exact h1
  rw[oN]
def comb:Option α->Option α->Option α
 |none,y=>y
 |some x,be=>AI x
 |some x,AI y=>AI (mx nw x y)
theorem vy(x:Option α):comb nw x be=x:=by cases x<;>rfl
theorem yD(hk:Keyed o):∀(ms:List α) (m:α),bn o ms->∀n,get o (fJ o nw ms m) n=if o m n=0 then comb nw (get o ms n) (AI m) else get o ms n
 |[],m,_,n=>by
  by_cases h:o m n=0
  .rw[if_pos h,fJ,cA o m [] h];rfl
  .rw[if_neg h,fJ,dv o m [] h]
 |x::r,m,hr,n=>by
  have ih:=yD hk r m (Ol hr) n;rw[fJ];by_cases aW:o x m<0
  .rw[if_pos aW]
   by_cases hx:o x n=0
   .rw[cA o x _ hx,cA o x r hx,if_neg (λe=>by have:=hk.CA hx (hk.symm e);omega)]
   .rw[dv o x _ hx,dv o x r hx,ih]
  .rw[if_neg aW]
   by_cases he:o x m=0
   .rw[if_pos he]
    by_cases hm:o m n=0
    .rw[if_pos hm,cA o x r (hk.CA he hm)]
     by_cases wJ:nw m x=true
     .rw[if_pos wJ,cA o m r hm];simp[comb,mx,wJ]
     .rw[if_neg wJ,cA o x r (hk.CA he hm)];simp[comb,mx,wJ]
    .have hx:¬ o x n=0:=λe=>hm (hk.CA (hk.symm he) e)
     rw[if_neg hm,dv o x r hx];by_cases wJ:nw m x=true
     .rw[if_pos wJ,dv o m r hm]
     .rw[if_neg wJ,dv o x r hx]
   .rw[if_neg he]
    by_cases hm:o m n=0
    .rw[if_pos hm,cA o m _ hm,get_none]
     .rfl
     .have hg:=(hk.gt x m).1 (by omega)
      intro z hz e;have h2:=hk.CA hm (hk.symm e);rcases IT.1 hz with rfl|hz
      .omega
      .have:=hk.trans _ _ _ hg (JG hr hz)
       omega
    .rw[if_neg hm,dv o m _ hm]
theorem get_join(hk:Keyed o):∀(b a:List α),bn o a->bn o b->∀n,get o (join o nw a b) n=comb nw (get o a n) (get o b n)
 |[],a,_,_,n=>by rw[get_nil,vy];rfl
 |m::r,a,ha,hb,n=>by
  have ih:=get_join hk r (fJ o nw a m) (nj o nw hk a m ha) (Ol hb) n;show get o (join o nw (fJ o nw a m) r) n=_;rw[ih,yD o nw hk a m ha n];by_cases hm:o m n=0
  .rw[if_pos hm,cA o m r hm,get_none o (ms:=r) (λz hz e=>np o hk hb z hz (hk.CA e (hk.symm hm))),vy]
  .rw[if_neg hm,dv o m r hm]
def put(ms:List α)(m:α)(p:Nat)(f:Bool):List α:=ms.take p++m::ms.drop (if f=true then p+1 else p)
theorem Gz{ms:List α}{m:α}{p:Nat}{f:Bool}(h:At o d ms m p f)(hn:f=true->nw m (ms.getD p d)=true):fJ o nw ms m=put ms m p f:=by
 rw[oR o nw d ms m p f h,put];cases f
 .simp
 .rw[if_pos rfl,if_pos (hn rfl),if_pos rfl,List.set_eq_take_append_cons_drop,if_pos (h.is.1 rfl).1]
end
end RL
namespace Wh
open Go.RowKit
structure bE where
 node:ByteArray
 x:Int
 y:Int
 z:Int
 h:Int
 s:Int
def dm:bE:=⟨ByteArray.empty,0,0,0,0,0⟩
def bE.ok(m:bE):Prop:=m.node.size<=Il
theorem sD:dm.ok:=by simp[bE.ok,dm]
abbrev As(w:World)(b o:Nat)(m:bE):Prop:=w.cell? ⟨b,o,be⟩=AI (Y m.node)/\w.cell? ⟨b,o+1,be⟩=AI (U O m.x)/\w.cell? ⟨b,o+2,be⟩=AI (U O m.y)/\w.cell? ⟨b,o+3,be⟩=AI (U O m.z)/\w.cell? ⟨b,o+4,be⟩=AI (U O m.h)/\w.cell? ⟨b,o+5,be⟩=AI (U O m.s)
theorem As.re{w:World}{b o:Nat}{m:bE}(h:As w b o m):∀d os,As (Io (Iz w d) os) b o m:=λd os=>by
 obtain⟨c0,c1,c2,c3,c4,c5⟩:=h;exact⟨Is c0 d os,Is c1 d os,Is c2 d os,Is c3 d os,Is c4 d os,Is c5 d os⟩
theorem As.eq{w w':World}{b o:Nat}{m:bE}(h:As w b o m)(e:∀o,w'.cell? ⟨b,o,be⟩=w.cell? ⟨b,o,be⟩):As w' b o m:=by
 obtain⟨c0,c1,c2,c3,c4,c5⟩:=h;exact⟨(e _).trans c0,(e _).trans c1,(e _).trans c2,(e _).trans c3,(e _).trans c4,(e _).trans c5⟩
def Row(w:World)(b off:Nat)(ms:List bE):Prop:=∀j,j<ms.length->As w b (off+j*6) (ms.getD j dm)
def Sl(w:World)(v:Value)(ms:List bE):Prop:=
 ∃(a:Option Addr) (cap:Nat),v=J a ms.length cap/\(∀j,(ms.getD j dm).ok) /\
  (ms=[]\/∃b off,a=AI ⟨b,off,be⟩/\b<w.heap.size/\Row w b off ms)
def bE.cs(m:bE):List Value:=[Y m.node,U O m.x,U O m.y,U O m.z,U O m.h,U O m.s]
def fl(ms:List bE):List Value:=ms.flatMap bE.cs
theorem bB(m:bE):m.cs.length=6:=rfl
theorem aZ(m:bE)(r:List bE):fl (m::r)=m.cs++fl r:=by simp[fl]
theorem cG(a b:List bE):fl (a++b)=fl a++fl b:=by simp[fl]
theorem cP:∀ms:List bE,(fl ms).length=ms.length*6
 |[]=>rfl
 |m::r=>by rw[aZ,Ig,cP r,bB,Iy];omega
theorem eY:∀(ms:List bE) (i:Nat),(fl ms).take (i*6)=fl (ms.take i)
 |[],i=>by simp[fl]
 |m::r,0=>by simp[fl]
 |m::r,i+1=>by
  rw[aZ,List.take_succ_cons,aZ,show(i+1)*6=m.cs.length+i*6 by rw[bB];omega,List.take_length_add_append,eY r i]
theorem eZ:∀(ms:List bE) (i:Nat),(fl ms).drop (i*6)=fl (ms.drop i)
 |[],i=>by simp[fl]
 |m::r,0=>by simp
 |m::r,i+1=>by
  rw[aZ,List.drop_succ_cons,show(i+1)*6=m.cs.length+i*6 by rw[bB];omega,List.drop_length_add_append,eZ r i]
theorem df(m:bE):∀v∈m.cs,v.oneCell'=true:=by
 intro v hv;simp[bE.cs] at hv;rcases hv with rfl|rfl|rfl|rfl|rfl|rfl<;>rfl
theorem gJ(ms:List bE):∀v∈fl ms,v.oneCell'=true:=by
 intro v hv;obtain⟨m,_,h⟩:=List.mem_flatMap.1 hv;exact df m v h
theorem eb(ms:List bE)(j:Nat)(hj:j<ms.length)(t:Nat)(ht:t<6):(fl ms)[j*6+t]?=(ms.getD j dm).cs[t]?:=by
 induction ms generalizing j with
 |nil=>simp at hj
 |cons m r ih=>
  rw[aZ];cases j with
  |zero=>rw[List.getElem?_append_left (by rw[bB];omega)];simp
  |succ j=>
   rw[List.getElem?_append_right (by rw[bB];omega),bB,show(j+1)*6+t-6=j*6+t by omega,ih j (by simpa using hj)];simp
theorem nW(ms:List bE)(p:Nat)(hp:p<ms.length)(m:bE):(((((((fl ms).set (p*6) (Y m.node)).set (p*6+1) (U O m.x)).set (p*6+2) (U O m.y)).set (p*6+3) (U O m.z)).set (p*6+4) (U O m.h)).set (p*6+5) (U O m.s))=fl (ms.set p m):=by
 induction ms generalizing p with
 |nil=>simp at hp
 |cons x r ih=>
  cases p with
  |zero=>simp[fl,bE.cs]
  |succ p=>
   have L1:=ih p (by simpa using hp);rw[Ot,aZ,aZ,<- L1];simp only[Nat.add_mul,Nat.one_mul];have e:∀(l:List Value) (k:Nat) (v:Value),(x.cs++l).set (k+6) v=x.cs++l.set k v:=λl k v=>by
    rw[List.set_append,if_neg (by rw[bB];omega),bB,Nat.add_sub_cancel]
   have c:∀i:Nat,p*6+6+i=(p*6+i)+6:=λi=>by omega
   simp only[c];rw[e,e,e,e,e,e]
abbrev Own(base:Nat)(w:World)(v:Value)(ms:List bE):Prop:=w.ownsRow base 116 6 v ms.length (fl ms)
theorem ib{base g G:Nat}{w:World}{cur:Array Value}{ms:List bE}(hb:base<=g)(hg:w.heap[g]?=AI (AT cur 116 (0,0)))(hs:cur.size=G*6)(hn:ms.length<=G)(hG:G<=Il)(ht:cur.toList.take (ms.length*6)=fl ms) :
 Own base w (J (AI ⟨g,0,be⟩) ms.length G) ms:=⟨cP ms,.inr ⟨g,G,cur,rfl,hb,hg,hn,hG,hs,ht⟩⟩
theorem Own.sl{base:Nat}{w:World}{v:Value}{ms:List bE}(h:Own base w v ms)(hs:∀j,(ms.getD j dm).ok):Sl w v ms:=by
 rcases h.2 with⟨rfl,h0⟩|⟨g,c,cur,rfl,ev,hg,fG,dO,b9,bf⟩
 .exact⟨be,0,by rw[h0],hs,.inl (List.eq_nil_of_length_eq_zero h0)⟩
 .refine⟨_,c,rfl,hs,.inr ⟨g,0,rfl,(BY.1 hg).1,λj hj=>?_⟩⟩
  have hc:∀t,t<6->w.cell? ⟨g,0+j*6+t,be⟩=(ms.getD j dm).cs[t]?:=λt ht=>by
   rw[ae hg,<- eb ms j hj t ht,<- bf,IL (by omega)];simp
  exact⟨hc 0 (by omega),hc 1 (by omega),hc 2 (by omega),hc 3 (by omega),hc 4 (by omega),hc 5 (by omega)⟩
theorem Own.below{base:Nat}{w w':World}{v:Value}{ms:List bE}(h:Own base w v ms)(hb:Below w.heap.size w w'):Own base w' v ms:=by
 rcases h.2 with⟨rfl,h0⟩|⟨g,c,cur,rfl,ev,hg,fG,dO,b9,bf⟩
 .exact⟨h.1,.inl ⟨rfl,h0⟩⟩
 .have aW:=(BY.1 hg).1
  exact⟨h.1,.inr ⟨g,c,cur,rfl,ev,(hb.block g aW).trans hg,fG,dO,b9,bf⟩⟩
theorem Own.lt{base:Nat}{w:World}{v:Value}{ms:List bE}(h:Own base w v ms)(k:Nat)(hk:v.ownBlock=AI k):base<=k/\k<w.heap.size:=OL h k hk
theorem fc{base:Nat}{w w1 w2:World}{v:Value}{ms:List bE}(hb:Below base w w1)(h:Own base w1 v ms)(hg:w1.grownBy w2 v.ownBlock)(hbase:base<=w1.heap.size):Below base w w2:=
 hb.grown hg hbase (λk hk=>(h.lt k hk).1)
theorem ez{base g c:Nat}{w:World}{ms:List bE}(h:Own base w (J (AI ⟨g,0,be⟩) ms.length c) ms)(j:Nat)(hj:j<ms.length) :
 As w g (j*6) (ms.getD j dm):=by
 rcases h.2 with⟨h1,_⟩|⟨g',c',cur,h1,ev,hg,fG,dO,b9,bf⟩
 .cases h1
 .simp only[Value.slice.injEq,Option.some.injEq,Addr.mk.injEq] at h1
  obtain⟨⟨rfl,_,_⟩,_,_⟩:=h1;have hc:∀t,t<6->w.cell? ⟨g,j*6+t,be⟩=(ms.getD j dm).cs[t]?:=λt ht=>by
   rw[ae hg,<- eb ms j hj t ht,<- bf,IL (by omega)];simp
  exact⟨hc 0 (by omega),hc 1 (by omega),hc 2 (by omega),hc 3 (by omega),hc 4 (by omega),hc 5 (by omega)⟩
theorem jJ{base:Nat}{w:World}{v:Value}{ms:List bE}(h:Own base w v ms)(p:Nat)(hp:p<ms.length):∃g c,v=J (AI ⟨g,0,be⟩) ms.length c:=by
 rcases h.2 with⟨_,h0⟩|⟨g,c,cur,h1,_⟩
 .omega
 .exact⟨g,c,h1⟩
theorem lr{base g c p:Nat}{W:World}{ms:List bE}(h:Own base W (J (AI ⟨g,0,be⟩) ms.length c) ms)(hp:p<ms.length)(m:bE) :
 Own base ((((((W.setCell ⟨g,p*6,be⟩ (Y m.node)).setCell ⟨g,p*6+1,be⟩ (U O m.x)).setCell ⟨g,p*6+2,be⟩ (U O m.y)).setCell ⟨g,p*6+3,be⟩ (U O m.z)).setCell ⟨g,p*6+4,be⟩ (U O m.h)).setCell ⟨g,p*6+5,be⟩ (U O m.s)) (J (AI ⟨g,0,be⟩) ms.length c) (ms.set p m):=by
 have h1:=IG h (p*6) (Y m.node);have h2:=IG h1.1 (p*6+1) (U O m.x);have h3:=IG h2.1 (p*6+2) (U O m.y);have h4:=IG h3.1 (p*6+3) (U O m.z);have h5:=IG h4.1 (p*6+4) (U O m.h);have h6:=IG h5.1 (p*6+5) (U O m.s);have e:=h6.1;rw[nW ms p hp m] at e;show World.ownsRow _ _ _ _ _ (ms.set p m).length _;rw[List.length_set];exact e
theorem Sl.below{w w':World}{v:Value}{ms:List bE}(h:Sl w v ms)(hb:Below w.heap.size w w'):Sl w' v ms:=by
 obtain⟨a,cap,rfl,hs,h⟩:=h;refine⟨a,cap,rfl,hs,?_⟩;rcases h with h|⟨b,off,rfl,aW,hr⟩
 .exact .inl h
 .refine .inr ⟨b,off,rfl,IN aW hb.size,λj hj=>?_⟩
  exact(hr j hj).eq (λo=>(cz hb).1 b o aW)
theorem Row.later{w w':World}{b off:Nat}{ms:List bE}(hr:Row w b off ms)(hb:Below w.heap.size w w')(aW:b<w.heap.size):Row w' b off ms:=λj hj=>(hr j hj).eq (λo=>(cz hb).1 b o aW)
theorem Own.mono{base iK:Nat}{w:World}{v:Value}{ms:List bE}(h:Own base w v ms)(hb:iK<=base):Own iK w v ms:=by
 rcases h.2 with⟨rfl,h0⟩|⟨g,c,cur,rfl,ev,hg,fG,dO,b9,bf⟩
 .exact⟨h.1,.inl ⟨rfl,h0⟩⟩
 .exact⟨h.1,.inr ⟨g,c,cur,rfl,Iq hb ev,hg,fG,dO,b9,bf⟩⟩
theorem bY(base:Nat)(w:World):Own base w (J be 0 0) []:=World.ownsRow_nil w base 116 6
theorem dw{ms:List bE}(h:∀j,(ms.getD j dm).ok):∀m∈ms,(m).ok:=by
 intro m hm;obtain⟨j,hj,rfl⟩:=List.getElem_of_mem hm;have:=h j;simpa[Ip,If hj] using this
theorem cB{ms:List bE}(h:∀m∈ms,(m).ok):∀j,(ms.getD j dm).ok:=by
 intro j;by_cases hj:j<ms.length
 .have:=h ms[j] (IH hj)
  simpa[Ip,If hj] using this
 .rw[Ip,List.getElem?_eq_none (Nat.le_of_not_lt hj)];exact sD
theorem bD{base:Nat}{w:World}{v:Value}{ms:List bE}(h:Own base w v ms)(hs:∀m∈ms,(m).ok):Sl w v ms:=h.sl (cB hs)
theorem jK{base:Nat}{w:World}{v:Value}{L:List bE}{m:bE}(h:w.ownsRow base 116 6 v (L.length+1) (fl L++m.cs)):Own base w v (L++[m]):=by
 have e:fl (L++[m])=fl L++m.cs:=by rw[cG,aZ];simp[fl]
 show w.ownsRow base 116 6 v (L++[m]).length (fl (L++[m]));rw[e,Ig];exact h
end Wh
end Go.Proofs.YtfidhgjmifendaaGreatDoor
namespace Go.Proofs.YtfidhgjmifendaaGreatDoor
open Go.RowKit
theorem jo(e:Int)(w:World) :
 Calls AS 118 #[Ia true,U O e] w λx w'=>x=By (Ik #[])/\w'=w:=by
 go_enter Tryz.func118,Tryz.ntmps118;go_wp2_with fail;simp[JT,results,Tryz.results118]
theorem AF(p:Addr)(w:World) :
 CallsD AS 191 #[Ie (AI p)] .returning w λe u' w'=>e=By (Ik #[])/\u'=.returning/\w'=w:=by
 refine callsD_of_wpS Tryz.func191 rfl λc₀ cs hu=>?_;apply wpS_seq;apply wpS_region;simp[wpOpsS,go_sem,recoverD,hu,Tryz.ntmps191,Exit.thenS,Array.replicate];refine wpS_of_wp ?_;go_wp2_with fail;cases c₀
 simp_all [bodyPostS,results,Tryz.results191]
theorem AG(f:Nat)(Ri:Array Value)(w:World)(R:World->Prop)(ef:∀args W,(callFunc f args).run AS W=.ok (.enter f args) W)(hw:Calls AS f Ri (w.alloc (AT #[U O 0] 31)) λr w'=>r=By (Ik #[])/\R w'/\w'.cell? ⟨w.heap.size,0,be⟩=AI (U O 0)/\w'.frozen? ⟨w.heap.size,0,be⟩=false/\w.heap.size<w'.heap.size) :
 Calls AS 119 #[.func (.func f) #[] Ri] w λr w'=>r=By (U O 0)/\∃w1,R w1/\w.heap.size<w1.heap.size/\w'=w1.setCell ⟨w.heap.size,0,be⟩ (U O 0):=by
 have hmf:∀(fn:Fn) (first cap:Array Value) (w:World),(Instr.makeFunc fn first cap).run AS w=.ok (.func fn first cap) w:=λ_ _ _ _=>rfl;have HW:Hid (Calls AS f Ri (w.alloc (AT #[U O 0] 31)) λr w'=>r=By (Ik #[])/\Hid (R w')/\w'.cell? ⟨w.heap.size,0,be⟩=AI (U O 0)/\w'.frozen? ⟨w.heap.size,0,be⟩=false/\w.heap.size<w'.heap.size):=hw;clear hw;go_enter_defers Tryz.func119,Tryz.ntmps119
 go_wp2_with fail;refine HW.out.mono ?_;rintro e w1 ⟨rfl,HR,h1,h2,h3⟩;go_wp2_with fail;refine leaves_cons (f:=191) (args:=#[Ie (AI ⟨w.heap.size,0,be⟩)]) (by simp) (by simp[go_sem]) ?_;refine(AF ⟨w.heap.size,0,be⟩ _).mono ?_;rintro e u' gD ⟨rfl,rfl,rfl⟩;simp[Leaves,settle,results,Tryz.results119,go_sem,h1];exact⟨w1,HR.out,h3,rfl⟩
end Go.Proofs.YtfidhgjmifendaaGreatDoor
namespace Go.Proofs
open Go.Shelf
end Go.Proofs
namespace Go.Proofs.YtfidhgjmifendaaGreatDoor
open Go.RowKit
theorem Tryz.infoByte:(Tryz.prog.info? 5).map (λi=>(i.zero,i.size,i.bytes))=AI (AI (U .u8 0),1,1):=by kernel_rfl
theorem Tryz.sizeBuilder:(Tryz.prog.info? 268).map (·.size)=AI 2:=by kernel_rfl
theorem Tryz.AH:liesAt AS Tryz.prog.depth 270 (2/Tryz.prog.cellsOf 270) 0 268 1=true:=by kernel_rfl
abbrev Lx(B b:Nat)(p:Value)(bs:List Value)(w:World):Prop:=Lib.BuilderAt 270 5 B b p bs w
def cY(B b:Nat)(bs:List Value)(w:World):Prop:=Lx B b (Ie be) bs w\/Lx B b (Ie (AI ⟨b,0,be⟩)) bs w
def nM(w:World)(b:Nat):Option Nat:=(w.cell? ⟨b,1,be⟩).bind Jy
def Kq(b:Nat)(w w':World):Prop:=b<w.heap.size->(∀k,k<w.heap.size->k≠b->AI k≠nM w b->w'.heap[k]?=w.heap[k]?)/\(nM w' b=nM w b\/∀k,nM w' b=AI k->w.heap.size<=k)
structure Kp(B b:Nat)(w w':World):Prop where
 jX:Below B w w'
 TD:Lib.OthersKept 5 (AI b) w w'
 kq:Kq b w w'
theorem Kq.refl(b:Nat)(w:World):Kq b w w:=λ_=>⟨λ_ _ _ _=>rfl,.inl rfl⟩
theorem Kq.trans{b:Nat}{w w1 w2:World}(h:Kq b w w1)(k:Kq b w1 w2)(hs:w.heap.size<=w1.heap.size):Kq b w w2:=λhb=>by
 obtain⟨h1,h2⟩:=h hb;obtain⟨k1,k2⟩:=k (IN hb hs);refine⟨λj hj Pd CB=>?_,?_⟩
 .refine(k1 j (IN hj hs) Pd λe=>?_).trans (h1 j hj Pd CB)
  rcases h2 with h2|h2
  .exact CB (e.trans h2)
  .have:=h2 j e.symm;omega
 .rcases k2 with k2|k2
  .rcases h2 with h2|h2
   .exact .inl (k2.trans h2)
   .exact .inr λj hj=>h2 j (k2▸hj)
  .exact .inr λj hj=>Iq hs (k2 j hj)
theorem Kp.refl(B b:Nat)(w:World):Kp B b w w:=⟨Below.refl _ _,Lib.OthersKept.refl _ _ _,Kq.refl b w⟩
theorem Kp.trans{B b:Nat}{w w1 w2:World}(h:Kp B b w w1)(k:Kp B b w1 w2):Kp B b w w2:=⟨h.jX.trans k.jX,h.TD.trans k.TD,h.kq.trans k.kq h.jX.size⟩
theorem Kp.size{B b:Nat}{w w1:World}(h:Kp B b w w1):w.heap.size<=w1.heap.size:=h.jX.size
theorem Kq.step{b:Nat}{w1 w2:World}{p v v':Value}{T:I4}(aB:w1.heap[b]?=AI (AT #[p,v] T (0,0)))(aJ:w2.heap[b]?=AI (AT #[p,v] T (0,0)))(hg:∀k,k<w1.heap.size->AI k≠v.ownBlock->w2.heap[k]?=w1.heap[k]?)(cv:v'.ownBlock=v.ownBlock\/∀k,v'.ownBlock=AI k->w1.heap.size<=k):Kq b w1 (w2.setCell ⟨b,1,be⟩ v'):=λ_=>by
 have e1:nM w1 b=v.ownBlock:=by unfold nM;rw[ae aB 1];rfl
 have e2:nM (w2.setCell ⟨b,1,be⟩ v') b=v'.ownBlock:=by unfold nM;rw[World.cell?_setCell_same _ _ _ (ae aJ 1:w2.cell? ⟨b,1,be⟩=AI v)];rfl
 rw[e1,e2];exact⟨λk hk Vk fQ=>(Below.heap_setCell w2 _ v' k Vk).trans (hg k hk fQ),cv⟩
theorem yE{B n:Nat}{w:World}{v:Value}{xs:List Value}(h:w.ownsRow B 5 1 v n xs):∀g,v.ownBlock=AI g->∃c fz,w.heap[g]?=AI (AT c 5 fz):=by
 intro g hg;rcases h.2 with⟨rfl,_⟩|⟨g',cap,cur,rfl,_,Vl,_⟩
 .simp[Jy] at hg
 .simp[Jy] at hg
  subst hg;exact⟨cur,_,Vl⟩
theorem AJ(b:Nat)(w:World)(h0:w.cell? ⟨b,0,be⟩=AI (Ie be))(Aq:w.shape? b=AI (270,2))(rf:w.frozen? ⟨b,0,be⟩=false) :
 aF 300 #[Ie (AI ⟨b,0,be⟩)] w λe w'=>e=By (Ik #[])/\w'=w.setCell ⟨b,0,be⟩ (Ie (AI ⟨b,0,be⟩)):=by
 obtain⟨j,hj,hjs⟩:=Option.map_eq_some_iff.1 Tryz.sizeBuilder;go_enter Tryz.func300,Tryz.ntmps300;go_wp2_with fail;rw[Lib.run_to_unsafe w ⟨b,0,be⟩ Tryz.underlying265 Tryz.underlying338 hj (by rw[hjs];decide) Aq (Nat.zero_lt_succ 1)];simp only[Result.andThen];rw[Oper.upon_value];go_wp2_with fail;rw[OH Tryz.func310 (by kernel_rfl) (by kernel_rfl) (by kernel_rfl) (e:=Extern.AbiNoEscape.same) (by kernel_rfl)];rw[Lib.run_noEscape];simp only[Result.andThen];rw[Oper.upon_value];go_wp2_with fail;rw[Lib.run_from_unsafe w ⟨b,0,be⟩ Tryz.underlying338 Tryz.underlying265 hj Aq Tryz.AH];simp only[Result.andThen];rw[Oper.upon_value];go_wp2_with fail;simp[JT,results,Tryz.results300]
theorem DJ(b:Nat)(w:World)(h0:w.cell? ⟨b,0,be⟩=AI (Ie (AI ⟨b,0,be⟩))) :
 aF 300 #[Ie (AI ⟨b,0,be⟩)] w λe w'=>e=By (Ik #[])/\w'=w:=by
 obtain⟨j,hj,_⟩:=Option.map_eq_some_iff.1 Tryz.sizeBuilder;go_enter Tryz.func300,Tryz.ntmps300;go_wp2_with fail;rw[Lib.run_neq_ptr_same w _ Tryz.underlying265 hj];go_wp2_with fail;simp[JT,results,Tryz.results300]
theorem yF(B b:Nat)(bs:List Value)(w:World)(h:cY B b bs w) :
 aF 300 #[Ie (AI ⟨b,0,be⟩)] w λe w'=>e=By (Ik #[])/\Lx B b (Ie (AI ⟨b,0,be⟩)) bs w'/\Kp B b w w':=by
 rcases h with h|h
 .refine(AJ b w h.cell0 h.shape h.frozen0).mono ?_
  rintro e w' ⟨rfl,rfl⟩;exact⟨rfl,h.used _,(Below.refl B w).setCell (p:=⟨b,0,be⟩) h.1 _,(Lib.OthersKept.refl _ _ w).setCell ⟨b,0,be⟩ rfl _,λ_=>⟨λk _ Vk _=>Below.heap_setCell w _ _ k Vk,.inl (by unfold nM;rw[World.cell?_setCell_other _ _ _ _ (by simp)])⟩⟩
 .refine(DJ b w h.cell0).mono ?_
  rintro e w' ⟨rfl,rfl⟩;exact⟨rfl,h,Kp.refl B b _⟩
theorem uI(B b:Nat)(bs:List Value)(c:Int)(w:World)(h:cY B b bs w)(hlen:bs.length+1<=1000000)(gK:B<=w.heap.size) :
 aF 285 #[Ie (AI ⟨b,0,be⟩),U .u8 c] w λe w'=>e=By .nilIface/\Lx B b (Ie (AI ⟨b,0,be⟩)) (bs++[U .u8 c]) w'/\Kp B b w w':=by
 obtain⟨i0,hi,dh,cZ,nF⟩:=info_parts Tryz.infoByte;have HC:Hid (aF _ _ _ _):=yF B b bs w h;clear h;go_enter Tryz.func285,Tryz.ntmps285;go_wp2_with fail;refine HC.out.mono ?_;rintro e w1 ⟨rfl,h1,aB⟩;obtain⟨hB,v,CC,hown,aM⟩:=h1;have c0:=ae CC 0;have c1:=ae CC 1;have DK:=aB.size;have HO:Hid (w1.ownsRow _ _ _ _ _ _):=hown;have HK:Hid _:=CC;clear hown CC;go_wp2_with (at_builtin;refine wpList_append_own_at _ rfl _ _ 266 rfl B 5 i0 (U .u8 0) 1 1 Qp hi dh cZ nF rfl (by decide) _ bs.length bs rfl (HO.out.alloc _) ⟨w1.heap.size,0,be⟩ 1 1 [U .u8 c] rfl rfl ?c1 ?c2 ?c3 ?c4 ?c5 ?_)
 case c1=>(intro j u hj;rw[Addr.add_lit];exact(dA (by simp)).trans (by simpa using hj))
 case c2=>(intro u hu;simp at hu;subst hu;rfl)
 case c3=>(unfold Il;omega)
 case c4=>omega
 case c5=>(simp;omega)
 intro v' w2 sE fE _ cv;have aW:=(BY.1 HK.out).1;have aJ:w2.heap[b]?=AI (AT #[Ie (AI ⟨b,0,be⟩),v] 270 (0,0)):=by
  rw[fE.block b (by simp;omega) (λe=>aM e.symm),Om w1 _ b aW];exact HK.out
 have d0:=ae aJ 0;have d1:=ae aJ 1;have f1:=Lib.frozen_of_heap aJ 1;have bp:Hid (Below B w w2/\Lib.OthersKept 5 (AI b) w w2):=(show _/\_ from⟨(aB.jX.alloc (by omega) _).grown fE (by simp;omega) (λk hk=>(HO.out.lt k hk).1),(aB.TD.alloc _).grown fE (yE (HO.out.alloc _))⟩);have HKQ:Hid (Kq _ _ _):=aB.kq.trans (Kq.step HK.out aJ (λk hk fQ=>(fE.block k (by simp;omega) fQ).trans (Om w1 _ k hk)) (cv.imp id (λe k hk=>by rw[e] at hk;simp at hk;omega))) DK;have oV:Hid _:=aJ;have gX:Hid (w2.ownsRow _ _ _ _ _ _):=sE;obtain⟨g,cap,hv⟩:∃g cap,v'=J (AI ⟨g,0,be⟩) (bs.length+1) cap:=by
  rcases sE.2 with⟨_,h0⟩|⟨g,cap,cur,hv,_⟩
  .omega
  .exact⟨g,cap,hv⟩
 subst hv;clear sE fE aJ c0 c1 aB cv;go_wp2_with fail;go_ret;refine⟨rfl,?_,?_⟩
 .exact Lib.BuilderAt.put (T:=270) (e:=5) hB oV.out (bs':=bs++[U .u8 c]) (by simpa using gX.out) (by decide)
 .exact⟨bp.out.1.setCell (p:=⟨b,1,be⟩) hB _,bp.out.2.setCell ⟨b,1,be⟩ rfl _,HKQ.out⟩
theorem sF{P:Program}{w W:World}{base n:Nat}{t u ty e:I4}{i:TypeInfo}{v v':Value}{xs:List Value}{s:ByteArray}(ht:P.underlying t=AI (.slice e))(hu:P.underlying u=AI .string)(hi:P.info? e=AI i)(hz:i.zero=AI (U .u8 0))(iL:i.size=1)(Vm:i.bytes=1)(hown:w.ownsRow base e 1 v n xs)(h63:n+s.size<=Il)(hbytes:n+s.size<=140737488355328)(hr:(Builtin.append_ #[t,u] ty #[v,Y s]).run P w=.ok v' W)(gL:v'=J be 0 0↔v=J be 0 0/\s.size=0):v'.ownBlock=v.ownBlock\/v'.ownBlock=AI w.heap.size:=by
 have hm:n+s.size<=9223372036854775807:=by simp only[Il] at h63;omega
 have hxl:xs.length=n:=by simpa using hown.1
 rcases hown.2 with⟨rfl,rfl⟩|⟨g,cap,cur,rfl,_,hg,_,_,b9,_⟩
 .by_cases h0:s.size=0
  .exact .inl (by rw[gL.2 ⟨rfl,h0⟩])
  .rw[run_append_nil_string (P:=P) w t u ty e i (U .u8 0) ht hu hi hz s (by omega) (by omega) (by rw[Vm];omega)] at hr
   injection hr with h1 _;exact .inr (by rw[<- h1];rfl)
 .by_cases dx:n+s.size<=cap
  .rw[Lib.run_append_room_string (P:=P) w t u ty e i ht hu hi iL g n cap cur hg s dx (by have:=b9;omega)] at hr
   injection hr with h1 _;exact .inl (by rw[<- h1];rfl)
  .rw[Lib.run_append_grow_string (P:=P) w t u ty e i (U .u8 0) ht hu hi hz ⟨g,0,be⟩ n cap xs (by rw[iL];simpa using hxl) (hown.cells (g:=g) rfl) s (by omega) (by omega) (by rw[Vm];exact growslice_fits (by omega) (by omega))] at hr
   injection hr with h1 _;exact .inr (by rw[<- h1];rfl)
theorem nX{P:Program}(w:World){ops:Array Oper}{rest:List Oper}{o:Oper}{a:Act}{Q:Exit->Act->World->Prop}(hgd:o.guard=be)(sl x:Operand)(t u:I4)(ho:o.op=.call { callee:=.builtin .append,args:=#[sl,x],argTypes:=#[t,u] })(base:Nat)(e:I4)(i:TypeInfo)(ht:P.underlying t=AI (.slice e))(hu:P.underlying u=AI .string)(hi:P.info? e=AI i)(hz:i.zero=AI (U .u8 0))(iL:i.size=1)(Vm:i.bytes=1)
 (v:Value) (n:Nat) (xs:List Value) (hs:a.eval sl=v) (hown:w.ownsRow base e 1 v n xs) (s:ByteArray) (hx:a.eval x=Y s) (h63:n+s.size<=Il) (hbytes:n+s.size<=140737488355328) (hbase:base<=w.heap.size)
 (h:∀v' w',w'.ownsRow base e 1 v' (n+s.size) (xs++Oi s)->w.grownBy w' v.ownBlock->(v'.ownBlock=v.ownBlock\/v'.ownBlock=AI w.heap.size)->wpList P ops Q rest (a.put o.dst v') w'):wpList P ops Q (o::rest) a w:=by
 obtain⟨v',w',hr,h2,h3,h4⟩:=Lib.run_append_own_string (P:=P) w base t u o.type e i ht hu hi hz iL Vm v n xs hown s h63 hbytes hbase;have h5:=sF ht hu hi hz iL Vm hown h63 hbytes hr h4;refine wpList_plain hgd λK hK=>?_;have Pe:=hK _ _ (h v' w' h2 h3 h5);simp only[Oper.wp,execOp,ho,resolve,invoke,builtin,Sem.run_bind,Sem.run_pure,Result.andThen_ok,List.map_toArray,List.map_cons,List.map_nil,hs,hx,hr];exact Pe
theorem l9(B b:Nat)(bs:List Value)(s:ByteArray)(w:World)(h:cY B b bs w)(hlen:bs.length+s.size<=1000000)(gK:B<=w.heap.size) :
 aF 284 #[Ie (AI ⟨b,0,be⟩),Y s] w λe w'=>e=By (Ik #[U O s.size,.nilIface])/\Lx B b (Ie (AI ⟨b,0,be⟩)) (bs++Oi s) w'/\Kp B b w w':=by
 obtain⟨i0,hi,dh,cZ,nF⟩:=info_parts Tryz.infoByte;have HC:Hid (aF _ _ _ _):=yF B b bs w h;clear h;go_enter Tryz.func284,Tryz.ntmps284;go_wp2_with fail;refine HC.out.mono ?_;rintro e w1 ⟨rfl,h1,aB⟩;obtain⟨hB,v,CC,hown,aM⟩:=h1;have c0:=ae CC 0;have c1:=ae CC 1;have DK:=aB.size;have HO:Hid (w1.ownsRow _ _ _ _ _ _):=hown;have HK:Hid _:=CC;clear hown CC;go_wp2_with (at_builtin;refine nX _ rfl _ _ 266 9 rfl B 5 i0 Qp Tryz.underlying9 hi dh cZ nF _ bs.length bs rfl HO.out s rfl ?c3 ?c4 ?c5 ?_)
 case c3=>(unfold Il;omega)
 case c4=>omega
 case c5=>omega
 intro v' w2 sE fE cv;have aW:=(BY.1 HK.out).1;have aJ:w2.heap[b]?=AI (AT #[Ie (AI ⟨b,0,be⟩),v] 270 (0,0)):=by
  rw[fE.block b aW (λe=>aM e.symm)];exact HK.out
 have d0:=ae aJ 0;have d1:=ae aJ 1;have f1:=Lib.frozen_of_heap aJ 1;have bp:Hid (Below B w w2/\Lib.OthersKept 5 (AI b) w w2):=(show _/\_ from⟨aB.jX.grown fE (by omega) (λk hk=>(HO.out.lt k hk).1),aB.TD.grown fE (yE HO.out)⟩);have HKQ:Hid (Kq _ _ _):=aB.kq.trans (Kq.step HK.out aJ (λk hk fQ=>fE.block k hk fQ) (cv.imp id (λe k hk=>by rw[e] at hk;simp at hk;omega))) DK;have oV:Hid _:=aJ;have gX:Hid (w2.ownsRow B 5 1 v' (bs++Oi s).length (bs++Oi s)):=(show World.ownsRow _ _ _ _ _ _ _ by simpa[Lib.strCells_length] using sE);obtain⟨ao,n',cap,hv⟩:∃ao n' cap,v'=J ao n' cap:=by
  rcases sE.2 with⟨hv,_⟩|⟨g,cap,cur,hv,_⟩
  .exact⟨_,_,_,hv⟩
  .exact⟨_,_,_,hv⟩
 subst hv;clear sE fE aJ c0 c1 aB cv;go_wp2_with fail;go_ret2;refine⟨rfl,?_,?_⟩
 .exact Lib.BuilderAt.put (T:=270) (e:=5) hB oV.out (bs':=bs++Oi s) gX.out (by decide)
 .exact⟨bp.out.1.setCell (p:=⟨b,1,be⟩) hB _,bp.out.2.setCell ⟨b,1,be⟩ rfl _,HKQ.out⟩
end Go.Proofs.YtfidhgjmifendaaGreatDoor
namespace Go.Proofs.YtfidhgjmifendaaGreatDoor
namespace Wh
open Go.ChangeShapes Go.WideShapes Go.ChangeAt Go.RowKit
section
variable {H:Type} {enc:TypeId × Value→H} {w:World} {base:Nat} {spare:Nat→Bool} {held:Bool}
theorem Tryz.L2:Tryz.prog.cellsOf 3=1:=by kernel_rfl
theorem kcP:Tryz.prog.cellsOf 39=5:=by kernel_rfl
theorem yG{fuel:Nat}{cs:List Value}{x:DataW H×List MemPlace}(h:DataW.trod enc AS w base spare held fuel 39 cs=AI x) :
 ∃a b c d e:Int,cs=[U O a,U O b,U O c,U O d,U O e]:=by
 obtain⟨xs,n,_,_,hl,hlen,hf⟩:=DataW.trod_struct Tryz.underlying39 h;rw[kcP] at hl
 match cs,hl with
 |[c0,c1,c2,c3,c4],_=>
  match xs,hlen with
  |[y0,y1,y2,y3,y4],_=>
   have h0:=hf 0 _ rfl;have h1:=hf 1 _ rfl;have h2:=hf 2 _ rfl;have h3:=hf 3 _ rfl;have h4:=hf 4 _ rfl;simp[Tryz.L2] at h0;simp[Tryz.L2] at h1;simp[Tryz.L2] at h2;simp[Tryz.L2] at h3;simp[Tryz.L2] at h4;obtain⟨a,e0,_,_⟩:=JZ ID h0;obtain⟨b,e1,_,_⟩:=JZ ID h1;obtain⟨c,e2,_,_⟩:=JZ ID h2;obtain⟨d,e3,_,_⟩:=JZ ID h3;obtain⟨e,e4,_,_⟩:=JZ ID h4;simp only[List.cons.injEq,and_true] at e0 e1 e2 e3 e4;subst e0 e1 e2 e3 e4;exact⟨a,b,c,d,e,rfl⟩
end
end Wh
end Go.Proofs.YtfidhgjmifendaaGreatDoor
