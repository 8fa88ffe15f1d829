import Derived.Test.YtbfghimjdlpicaaGreatDoorProg
import Derived.WalkSpells
import Derived.WalkLawsBesides
import Derived.Lib.AppendZerosOnto
import Derived.Lib.Overlaps
import Derived.Lib.QuietBelow
import Derived.Shelf.Strings.Builder1
import Derived.Shelf.Small.Strs
import Derived.Shelf.Strconv.Itoa3
import Derived.Shelf.Strconv.AtoiAll
import Derived.Shelf.Strings.Shaped
import Derived.Shelf.SlSortCmp.HeapSort1
import Derived.Shelf.SlSortCmp.Insertion1
import Derived.Shelf.SlSortCmp.Pivot1
import Derived.Shelf.SlSortCmp.ReverseRange1
import Derived.Shelf.SlSortCmp.PartitionEqual1
import Derived.Deep.RegionHeld3
set_option maxHeartbeats 2000000
set_option maxRecDepth 100000
open Go.Proofs.Tryz renaming prog→AS,underlying258→Qx
open Go.Ending renaming returned→AT
open Go.Value renaming bool→Ia,int→U,string→Y,slice→J,pointer→If,ownBlock→JF,tuple→Ip
open List renaming take_succ_eq_append_getElem→IB,getElem_mem→IK,pairwise_cons→JB,mem_cons→IN,rel_of_pairwise_cons→JQ,getD→Ir,getElem?_eq_getElem→Ic,getD_cons_zero→I8,set_cons_succ→OD,foldl_cons→OI,length_cons→Iy,drop_append_of_le_length→QC,length_append→Ii,take_succ_cons→Om,take_length_add_append→J6,drop_succ_cons→On,drop_length_add_append→J7,mem_flatMap→Qn,getElem?_append_left→Jx,getElem?_append_right→Jw,set_append→Uh,eq_nil_of_length_eq_zero→Je,getElem?_take_of_lt→IP,length_set→IS,getElem_of_mem→IT,getElem?_eq_none→I3,all_eq_true→OQ
open Go.IntKind renaming i64→O
open Bool renaming eq_iff_iff→Oe,and_eq_true→IG
open Go renaming maxLen→Io,run_callFunc_extern→OM,TypeId→Ja,redrawn→Im,cell_regrown→Ih
open Nat renaming zero_le→IF,le_refl→Ie,lt_or_eq_of_le→Qv,one_mul→Ug,add_sub_cancel→Qw,lt_of_lt_of_le→IJ,le_trans→Is,le_of_not_lt→Qo,not_lt_zero→Jj,lt_succ_iff_lt_or_eq→I6
open Option renaming none→be,some→AI
open Go.Op renaming bytesLess→Jh
open UInt8 renaming lt_iff_toNat_lt→J3
open Go.Lib renaming compareBytes→JD,toList_data→JN,alloc_old→Oh,strCells→Ow
open Go.Obj renaming cells→By
open Go.Sort renaming grow→Ig
open List.Pairwise renaming of_cons→Ox
open Option.some renaming inj→JI,injEq→Iu
open ByteArray renaming empty→Ix
open Array renaming getElem?_eq_some_iff→BY
open Go.World.ownsRow renaming lt→OS,stored→IM
open Go.Value.slice renaming injEq→I2
open Go.Addr.mk renaming injEq→JT
open Go.World renaming ownsRow→M2,ownsRow_nil→No
namespace Go.Proofs.YtbfghimjdlpicaaGreatDoor
open Go.RowKit
abbrev aK(f:Nat)(a:Array Value)(w:World)(p:Ending->World->Prop):Prop:=Calls AS f a w p
abbrev ly(f:Nat)(a:Array Value)(w:World)(v:Value):Prop:=Calls AS f a w λe w'=>e=AT v/\Below w.heap.size w w'
def within(n a b:Int):Bool:=decide (a<=n)&&decide (n<=b)
def L8(n:Int):Bool:=(decide (97<=n)&&decide (n<=122))||(decide (48<=n)&&decide (n<=57))||decide (n=45)||decide (n=95)
def bl(s:ByteArray):Bool:=decide (1<=s.size)&&decide (s.size<=30)&&s.data.toList.all (λc=>L8 c.toNat)
theorem aW{a b:Bool}(h:a=b):AT (Ia a)=AT (Ia b):=by rw[h]
theorem an{k:IntKind}{a b:Int}(h:a=b):AT (U k a)=AT (U k b):=by rw[h]
theorem Gj(s:ByteArray)(k:Nat)(h:k<s.size):s.data.toList.take (k+1)=s.data.toList.take k++[s[k]]:=by
 rw[IB (by simpa using h)];rfl
theorem L9(s:ByteArray)(k:Nat)(h:s.size<=k):s.data.toList.take k=s.data.toList:=
 List.take_of_length_le (by simpa using h)
theorem Gk(s:ByteArray)(k:Nat)(h:k<s.size)(hk:(s.data.toList.take k).all (λc=>L8 c.toNat)=true)(hb:L8 (s[k].toNat:Int)=true) : (s.data.toList.take (k+1)).all (λc=>L8 c.toNat)=true:=by
 rw[Gj s k h,List.all_append,hk];simp[hb]
theorem Ma(s:ByteArray)(k:Nat)(h:k<s.size)(hb:L8 (s[k].toNat:Int)=false):bl s=false:=by
 have:s.data.toList.all (λc=>L8 c.toNat)=false:=by
  rw[List.all_eq_false];refine⟨s[k],?_,by simp[hb]⟩;exact IK (l:=s.data.toList) (n:=k) (by simpa using h)
 simp[bl,this]
theorem cM(n a b:Int)(w:World) :
 Calls AS 51 #[U O n,U O a,U O b] w λe w'=>e=AT (Ia (within n a b))/\w'=w:=by
 go_enter Tryz.func51,Tryz.ntmps51;go_wp2;all_goals
  go_ret;exact⟨aW (by unfold within;rw[Oe];simp;try omega),rfl⟩
theorem fp(n:Int)(w:World) :
 Calls AS 29 #[U O n] w λe w'=>e=AT (Ia (within n 0 4294967295))/\w'=w:=by
 go_enter Tryz.func29,Tryz.ntmps29;go_wp2_with (go_at_call 51;refine(cM _ _ _ _).mono ?_;rintro e w' ⟨rfl,rfl⟩);go_ret;exact⟨rfl,rfl⟩
theorem pJ(n:Int)(w:World) :
 Calls AS 95 #[U .u8 n] w λe w'=>e=AT (Ia (L8 n))/\w'=w:=by
 go_enter Tryz.func95,Tryz.ntmps95;go_wp2;all_goals
  go_ret;exact⟨aW (by unfold L8;rw[Oe];simp;try omega),rfl⟩
theorem cj(s:ByteArray)(w:World)(hs:s.size<=Io) :
 Calls AS 50 #[Y s] w λe w'=>e=AT (Ia (bl s))/\w'=w:=by
 unfold Io at hs;by_cases hz:within (s.size:Int) 1 30=true
 .have hz':1<=s.size/\s.size<=30:=by simp[within] at hz;omega
  go_enter Tryz.func50,Tryz.ntmps50;go_wp2_with (go_at_call 51;refine(cM _ _ _ _).mono ?_;rintro e w' ⟨rfl,rfl⟩;rw[hz]);go_loop [10] (λi=>∃k:Nat,k<=s.size/\i=U O k/\(s.data.toList.take k).all (λc=>L8 c.toNat)=true) (λi=>s.size-(intOf i).toNat)
  case atStart=>exact⟨0,IF _,rfl,rfl⟩
  case round=>
   obtain⟨k,hk,rfl,ki⟩:=hrel;have HA:Hid _:=ki;clear ki;by_cases aX:k<s.size
   .by_cases hb:L8 (s[k].toNat:Int)=true
    .go_wp2_with (go_at_call 95;refine(pJ _ _).mono ?_;rintro e w' ⟨rfl,rfl⟩;rw[hb])
     go_round
     case rel=>exact⟨k+1,by omega,by go_num,Gk s k aX HA.out hb⟩
     case measure=>simp[intOf];omega
    .have yN:L8 (s[k].toNat:Int)=false:=by simpa using hb
     go_wp2_with (go_at_call 95;refine(pJ _ _).mono ?_;rintro e w' ⟨rfl,rfl⟩;rw[yN]);go_ret;exact⟨aW (Ma s k aX yN).symm,rfl⟩
   .go_wp2
    go_ret;have h2:=HA.out;rw[L9 s k (by omega)] at h2;exact⟨aW (by simp[bl,h2,hz'.1,hz'.2]),rfl⟩
 .have hz':within (s.size:Int) 1 30=false:=by simpa using hz
  go_enter Tryz.func50,Tryz.ntmps50;go_wp2_with (go_at_call 51;refine(cM _ _ _ _).mono ?_;rintro e w' ⟨rfl,rfl⟩;rw[hz']);go_ret;refine⟨aW ?_,rfl⟩;symm;simp only[within,Bool.and_eq_false_iff,decide_eq_false_iff_not] at hz';simp only[bl,Bool.and_eq_false_iff,decide_eq_false_iff_not];rcases hz' with h|h
  .exact .inl (.inl (by omega))
  .exact .inl (.inr (by omega))
theorem cd{W w1:World}(hb:Below W.heap.size W w1):(∀b o,b<W.heap.size->w1.cell? ⟨b,o,be⟩=W.cell? ⟨b,o,be⟩)/\(∀b o,b<W.heap.size->w1.frozen? ⟨b,o,be⟩=W.frozen? ⟨b,o,be⟩):=
 ⟨λb o h=>hb.cell (p:=⟨b,o,be⟩) h,λb o h=>hb.frozen (p:=⟨b,o,be⟩) h⟩
def less(a b:ByteArray):Bool:=Jh a.toList b.toList
theorem xH:∀a:List UInt8,Jh a a=false
 |[]=>rfl
 |x::r=>by simp[Jh,xH r]
theorem uB:∀a b:List UInt8,(!(Jh a b))=(Jh b a||b==a)
 |[],[]=>rfl
 |[],_::_=>rfl
 |_::_,[]=>rfl
 |x::r,y::t=>by
  have:=uB r t;by_cases h1:x<y
  .have h2:¬ y<x:=by rw[J3] at *;omega
   have h3:¬ y=x:=by rintro rfl;rw[J3] at *;omega
   simp[Jh,h1,h2,h3]
  .by_cases h2:y<x
   .have h3:¬ y=x:=by rintro rfl;rw[J3] at *;omega
    have h4:¬ x=y:=λh=>h3 h.symm;simp[Jh,h1,h2,h4]
   .have h3:y=x:=by
     apply UInt8.toNat_inj.1;rw[J3] at *;omega
    subst h3;simp[Jh];simpa using this
def bW(a b:ByteArray):Int:=JD a.data.toList b.data.toList
theorem wT(a b:ByteArray)(w:World):(callFunc 179 #[Y a,Y b]).run AS w=.ok (.value (U O (bW a b))) w:=by
 rw[OM Tryz.func179 (by kernel_rfl) (by kernel_rfl) (by kernel_rfl) (e:=Extern.BytealgCompare.compare) (by kernel_rfl),Lib.run_compareString];rfl
theorem iq(a b:ByteArray)(w:World) :
 Calls AS 70 #[Y a,Y b] w λe w'=>e=AT (U O (bW a b))/\w'=w:=by
 have hc:=wT;go_enter Tryz.func70,Tryz.ntmps70;go_wp2;go_ret;exact⟨rfl,rfl⟩
theorem TX:∀a b:List UInt8,JD a b<0↔Jh a b=true
 |[],[]=>by simp[JD,Jh]
 |[],_::_=>by simp[JD,Jh]
 |_::_,[]=>by simp[JD,Jh]
 |x::r,y::t=>by
  have ih:=TX r t;by_cases h1:x<y
  .simp[JD,Jh,h1]
  .by_cases h2:y<x
   .have h3:¬ x=y:=by rintro rfl;exact h1 h2
    simp[JD,Jh,h1,h2,h3]
   .have h3:x=y:=by
     apply UInt8.toNat_inj.1;rw[J3] at *;omega
    subst h3;simpa[JD,Jh] using ih
theorem TY:∀a b:List UInt8,JD a b=0↔a=b
 |[],[]=>by simp[JD]
 |[],_::_=>by simp[JD]
 |_::_,[]=>by simp[JD]
 |x::r,y::t=>by
  have ih:=TY r t;by_cases h1:x<y
  .have h3:¬ x=y:=by rintro rfl;rw[J3] at *;omega
   simp[JD,h1,h3]
  .by_cases h2:y<x
   .have h3:¬ x=y:=by rintro rfl;exact h1 h2
    simp[JD,h1,h2,h3]
   .have h3:x=y:=by
     apply UInt8.toNat_inj.1;rw[J3] at *;omega
    subst h3;simpa[JD] using ih
theorem AG:∀a b c:List UInt8,Jh a b=true->Jh b c=true->Jh a c=true
 |[],[],_,h,_=>by simp[Jh] at h
 |[],_::_,[],_,h=>by simp[Jh] at h
 |[],_::_,_::_,_,_=>by simp[Jh]
 |_::_,[],_,h,_=>by simp[Jh] at h
 |_::_,_::_,[],_,h=>by simp[Jh] at h
 |x::r,y::t,z::u,h1,h2=>by
  have ih:=AG r t u;simp only[Jh,Bool.or_eq_true,IG,decide_eq_true_eq,beq_iff_eq] at h1 h2 ⊢;rcases h1 with h1|⟨rfl,h1⟩
  .rcases h2 with h2|⟨rfl,h2⟩
   .left;rw[J3] at *;omega
   .left;exact h1
  .rcases h2 with h2|⟨rfl,h2⟩
   .left;exact h2
   .right;exact⟨rfl,ih h1 h2⟩
theorem kK{a b:ByteArray}(h:a.data.toList=b.data.toList):a=b:=by
 obtain⟨⟨la⟩⟩:=a;obtain⟨⟨lb⟩⟩:=b;simp at h;subst h;rfl
theorem fq(a b:ByteArray):bW a b<0↔less a b=true:=by
 unfold bW less;rw[JN,JN];exact TX _ _
theorem bL(a b:ByteArray):bW a b=0↔a=b:=by
 unfold bW;rw[TY];exact⟨kK,λh=>by rw[h]⟩
theorem fT{a b c:ByteArray}(h1:less a b=true)(h2:less b c=true):less a c=true:=AG _ _ _ h1 h2
theorem ep(a:ByteArray):less a a=false:=xH _
theorem Cx(a b:ByteArray):less a b=true\/a=b\/less b a=true:=by
 have h:=uB a.toList b.toList;unfold less;cases h1:Jh a.toList b.toList
 .rw[h1] at h
  cases h2:Jh b.toList a.toList
  .rw[h2] at h
   right;left
   have:b.toList=a.toList:=by simpa using h.symm
   rw[JN,JN] at this;exact(kK this).symm
  .right;right;rfl
 .left;rfl
theorem uC{a b:ByteArray}(h1:less a b=true):less b a=false:=by
 cases h:less b a
 .rfl
 .have:=fT h1 h;rw[ep] at this;cases this
theorem oS(a b:ByteArray):0<bW a b↔less b a=true:=by
 have h1:=fq a b;have h2:=bL a b;rcases Cx a b with h|rfl|h
 .have:=h1.2 h
  rw[uC h];simp;omega
 .rw[ep];have:=h2.2 rfl;simp;omega
 .rw[h]
  have h3:¬ bW a b<0:=λhh=>by rw[h1,uC h] at hh;cases hh
  have h4:¬ bW a b=0:=λhh=>by rw[h2] at hh;subst hh;rw[ep] at h;cases h
  simp;omega
theorem mL{P:Program}(w:World)(dT sT ty elem:Ja)(g o VU agb:Nat)(a:Addr)(VV agc k:Nat)(cur:Array Value)(t:Ja)(cs:List Value)(hu:P.underlying dT=AI (.slice elem))(hs:(P.info? elem).map (·.size)=AI k)(hg:w.heap[g]?=AI (By cur t (0,0)))(hn:cs.length=Nat.min VV VU*k)(agd:∀j v,cs[j]?=AI v->w.cell? (a.add j)=AI v)(age:o+cs.length<=cur.size)(h1:∀v∈cs,v.oneCell'=true) : (Builtin.copy_ #[dT,sT] ty #[J (AI ⟨g,o,be⟩) VU agb,J (AI a) VV agc]).run P w =
   .ok (goInt (Nat.min VV VU)) (w.setRow g (cur.toList.take o++cs++cur.toList.drop (o+cs.length)).toArray):=by
 have hl:=run_loadCells_list (P:=P) w a cs agd;have pK:=run_storeCells_at P g o t cs 0 cur w hg (by simpa using age) h1;cases hq:P.info? elem with
 |none=>simp[hq] at hs
 |some i=>
  have hi:i.size=k:=by simpa[hq] using hs
  simp[Builtin.copy_,run_underlying hu,Builtin.lenOf,Builtin.firstCells,sizeOf,typeInfo,hq,hi,<- hn,hl,pK]
theorem dL{P:Program}{ops:Array Oper}{o:Oper}{a:Act}{w:World}{K:Act->World->Prop}{Q:Exit->Act->World->Prop}{E:Prop}(hg:o.guard=be)(d x:Operand)(dT sT:Ja)(hop:o.op=Op.call { callee:=Callee.builtin Builtin.copy,args:=#[d,x],argTypes:=#[dT,sT] })
 (v u:Value) (hd:a.eval d=v) (hx:a.eval x=u) {v':Value} {w':World} (hr:(Builtin.copy_ #[dT,sT] o.type #[v,u]).run P w=.ok v' w') (hK:K (a.put o.dst v') w') :
 if Region.wanted o (yielded ops a.tmps)=true then Oper.wp P o a w K Q else E:=by
 have hw:Region.wanted o (yielded ops a.tmps)=true:=by simp[Region.wanted,hg]
 rw[if_pos hw];unfold Oper.wp;simp[execOp,hop,resolve,invoke,builtin,hd,hx,hr,Result.andThen];exact hK
theorem ae{w:World}{g:Nat}{cur:Array Value}{t:Ja}{fr:Nat×Nat}(hg:w.heap[g]?=AI (By cur t fr))(o:Nat):w.cell? ⟨g,o,be⟩=cur[o]?:=by
 simp[World.cell?,hg]
theorem fb{a b:ByteArray}(h:a≠b):(a.toList==b.toList)=false/\¬ a.toList=b.toList:=by
 have h2:¬ a.toList=b.toList:=λe=>h (kK (by rw[JN,JN] at e;exact e));exact⟨by simpa using h2,h2⟩
theorem dR{W:World}{cs:Array Value}{t:Ja}{g k:Nat}(hg:g=W.heap.size):(W.alloc (By cs t)).cell? ⟨g,k,be⟩=cs[k]?:=by subst hg;simp
theorem oT{w w':World}(h:w.grownBy w' be)(row:Option Nat):w.grownBy w' row:=⟨h.os,h.tape,h.output,h.size,λk hk _=>h.block k hk (by simp)⟩
theorem bV(w:World)(A:Array Value)(T:Ja):∃W,W=w.alloc (By A T)/\Below w.heap.size w W/\W.heap.size=w.heap.size+1/\W.heap[w.heap.size]?=AI (By A T (0,0)):=⟨_,rfl,(Below.refl _ _).alloc (Ie _) _,by simp,heap_alloc_new w _⟩
theorem bu{P:Program}{ops:Array Oper}{C:World->Prop}{R:Act->World->Prop}{w:World}{a:Act}(h:∀d os,Hid (Below w.heap.size w (Ig (Im w d) os))->R a (Ig (Im w d) os)):wpQuiet P ops C (λa=>∀w',(∃p:Regrown,w'=Ig (Im w p.d) p.os)->R a w') [] a:=wpQuiet_nil (λ_ ⟨p,e⟩=>e▸h p.d p.os (below_regrown w p.d p.os))
end Go.Proofs.YtbfghimjdlpicaaGreatDoor
namespace Go.Proofs.YtbfghimjdlpicaaGreatDoor
namespace RL
section
variable {α:Type}
structure Keyed(o:α->α->Int):Prop where
 refl:∀a,o a a=0
 gt:∀a b,0<o a b↔o b a<0
 trans:∀a b c,o a b<0->o b c<0->o a c<0
 left:∀a b c,o a b=0->o a c=o b c
 right:∀a b c,o a b=0->o c a=o c b
structure eQ(o:α->α->Int)(nw:α->α->Bool):Prop where
 irrefl:∀a,nw a a=false
 trans:∀a b c,nw a b=true->nw b c=true->nw a c=true
 total:∀a b,o a b=0->nw a b=false->nw b a=false->a=b
theorem Keyed.symm{o:α->α->Int}(h:Keyed o){a b:α}(e:o a b=0):o b a=0:=by
 have h1:=h.gt a b;have h2:=h.gt b a;rcases Int.lt_trichotomy (o b a) 0 with hl|he|hg
 .have:=h1.2 hl;omega
 .exact he
 .have:=h2.1 hg;omega
theorem Keyed.AH{o:α->α->Int}(h:Keyed o){a b c:α}(e:o a b=0)(f:o b c=0):o a c=0:=by rw[h.left a b c e];exact f
variable (o:α→α→Int) (nw:α→α→Bool) (d:α)
abbrev aT(ms:List α):Prop:=ms.Pairwise λa b=>o a b<0
def aR:List α->Bool
 |[]=>true
 |[_]=>true
 |a::b::r=>decide (o a b<0)&&aR (b::r)
theorem mM(hk:Keyed o):∀ms:List α,aR o ms=true->aT o ms
 |[],_=>.nil
 |[x],_=>by simp[aT]
 |a::b::r,h=>by
  rw[aR,IG,decide_eq_true_eq] at h;have ih:=mM hk (b::r) h.2;refine JB.2 ⟨λc hc=>?_,ih⟩;rcases IN.1 hc with rfl|hc
  .exact h.1
  .exact hk.trans _ _ _ h.1 (JQ ih hc)
theorem kL:∀ms:List α,aT o ms->aR o ms=true
 |[],_=>rfl
 |[x],_=>rfl
 |a::b::r,h=>by
  rw[aR,IG,decide_eq_true_eq];exact⟨JQ h (by simp),kL (b::r) (Ox h)⟩
theorem iu:∀ms:List α,(∀j,j+1<ms.length->o (ms.getD j d) (ms.getD (j+1) d)<0)->aR o ms=true
 |[],_=>rfl
 |[x],_=>rfl
 |a::b::r,h=>by
  rw[aR,IG,decide_eq_true_eq];refine⟨by have:=h 0 (by simp);simpa using this,iu (b::r) λj hj=>?_⟩;have:=h (j+1) (by simpa using hj);simpa using this
theorem jn:∀ms:List α,aR o ms=true->∀j,j+1<ms.length->o (ms.getD j d) (ms.getD (j+1) d)<0
 |[],_,j,hj=>by simp at hj
 |[x],_,j,hj=>by simp at hj
 |a::b::r,h,0,_=>by
  rw[aR,IG,decide_eq_true_eq] at h;simpa using h.1
 |a::b::r,h,j+1,hj=>by
  rw[aR,IG,decide_eq_true_eq] at h;have:=jn (b::r) h.2 j (by simpa using hj);simpa using this
theorem gD{ms:List α}{i:Nat}(h:i<ms.length):ms.getD i d=ms[i]:=by simp[Ir,Ic h]
theorem ue{ms:List α}(h:aT o ms){i j:Nat}(jS:i<j)(hj:j<ms.length):o (ms.getD i d) (ms.getD j d)<0:=by
 rw[gD d (show i<ms.length by omega),gD d hj];exact List.pairwise_iff_getElem.1 h i j (by omega) hj jS
theorem eu(hk:Keyed o){ms:List α}(h:aT o ms)(t:α):∀i j,i<=j->j<ms.length->o (ms.getD j d) t<0->o (ms.getD i d) t<0:=by
 intro i j jS hj aX;rcases Qv jS with VW|rfl
 .exact hk.trans _ _ _ (ue o d h VW hj) aX
 .exact aX
structure At(ms:List α)(t:α)(p:Nat)(f:Bool):Prop where
 le:p<=ms.length
 lo:∀j,j<p->o (ms.getD j d) t<0
 hi:∀j,p<=j->j<ms.length->0<=o (ms.getD j d) t
 is:f=true↔p<ms.length/\o (ms.getD p d) t=0
theorem jT(hk:Keyed o)(ms:List α)(hr:aT o ms)(t:α):∃p f,At o d ms t p f:=by
 induction ms with
 |nil=>exact⟨0,false,by simp,λj h=>by omega,λj h h2=>by simp at h2,by simp⟩
 |cons x r ih=>
  have hx:=JB.1 hr;by_cases aX:o x t<0
  .obtain⟨p,f,h⟩:=ih hx.2
   refine⟨p+1,f,by have:=h.le;simpa using this,λj hj=>?_,λj hj hl=>?_,by have:=h.is;simpa using this⟩
   .cases j with
    |zero=>simpa using aX
    |succ j=>have:=h.lo j (by omega);simpa using this
   .cases j with
    |zero=>omega
    |succ j=>have:=h.hi j (by omega) (by simpa using hl);simpa using this
  .refine⟨0,decide (o x t=0),by simp,λj hj=>by omega,λj _ hl=>?_,by simp⟩
   apply Int.not_lt.1;intro hq;have:=eu o d hk hr t 0 j (by omega) hl hq;simp at this;omega
theorem eZ{ms:List α}{t:α}{p q:Nat}{f e:Bool}(h:At o d ms t p f)(k:At o d ms t q e):p=q/\f=e:=by
 have Mb:p=q:=by
  rcases Nat.lt_trichotomy p q with aX|rfl|aX
  .have h1:=k.lo p aX
   have h2:=h.hi p (Ie _) (by have:=k.le;omega);omega
  .rfl
  .have h1:=h.lo q aX
   have h2:=k.hi q (Ie _) (by have:=h.le;omega);omega
 subst Mb;refine⟨rfl,?_⟩;rw[Oe,h.is,k.is]
theorem EH{ms:List α}(hk:Keyed o)(hr:aT o ms){t:α}{k:Nat}(hl:k<ms.length)(he:o (ms.getD k d) t=0):At o d ms t k true:=by
 refine⟨by omega,λj hj=>?_,λj hj VX=>?_,⟨λ_=>⟨hl,he⟩,λ_=>rfl⟩⟩
 .rw[<- hk.right _ _ (ms.getD j d) he]
  exact ue o d hr hj hl
 .rcases Qv hj with h|rfl
  .rw[<- hk.right _ _ (ms.getD j d) he]
   have:=(hk.gt (ms.getD j d) (ms.getD k d)).2 (ue o d hr h VX);omega
  .omega
theorem Mc{ms:List α}(hk:Keyed o){t:α}{p:Nat}{f:Bool}(ha:At o d ms t p f)(hr:aT o ms)(k:Nat)(hpk:p<k)(hl:k<ms.length):0<o (ms.getD k d) t:=by
 have h1:=ue o d hr hpk hl;have h2:=ha.hi p (Ie _) (by omega);have h3:=ha.hi k (by omega) hl;rcases Int.lt_or_eq_of_le h3 with h|h
 .exact h
 .have:o (ms.getD p d) t<0:=by rw[<- hk.right _ _ _ h.symm];exact h1
  omega
def gN:List α->α->List α
 |[],m=>[m]
 |x::r,m=>if o x m<0 then x::gN r m else if o x m=0 then(if nw m x=true then m::r else x::r) else m::x::r
theorem rh:∀(ms:List α) (m:α) (p:Nat) (f:Bool),At o d ms m p f ->
 gN o nw ms m=if f=true then(if nw m (ms.getD p d)=true then ms.set p m else ms) else ms.take p++m::ms.drop p
 |[],m,p,f,h=>by
  have hp:p=0:=by have:=h.le;simpa using this
  subst hp;have hf:f=false:=by
   cases f
   .rfl
   .have:=h.is.1 rfl;simp at this
  subst hf;simp[gN]
 |x::r,m,0,f,h=>by
  have h0:=h.hi 0 (Ie _) (by simp);simp only[I8] at h0;rw[gN,if_neg (by omega)];cases f
  .have aP:¬ o x m=0:=λe=>by have:=h.is.2 ⟨by simp,by simpa using e⟩;cases this
   rw[if_neg aP];simp
  .have he:=(h.is.1 rfl).2
   simp only[I8] at he;rw[if_pos he];simp only[I8,List.set_cons_zero,if_pos]
 |x::r,m,p+1,f,h=>by
  have h0:=h.lo 0 (by omega);simp only[I8] at h0;have hr:At o d r m p f:=⟨by have:=h.le;simpa using this,λj hj=>by have:=h.lo (j+1) (by omega);simpa using this,
   λj hj hl=>by have:=h.hi (j+1) (by omega) (by simpa using hl);simpa using this,by have:=h.is;simpa using this⟩
  rw[gN,if_pos h0,rh r m p f hr];cases f
  .simp
  .simp only[if_pos,List.getD_cons_succ,OD]
   split<;>rfl
theorem nX:∀(ms:List α) (m x:α),x∈gN o nw ms m->x=m\/x∈ms
 |[],m,x,h=>by simp[gN] at h;exact .inl h
 |y::r,m,x,h=>by
  rw[gN] at h;split at h
  .rcases IN.1 h with rfl|h
   .exact .inr (by simp)
   .rcases nX r m x h with h|h
    .exact .inl h
    .exact .inr (by simp[h])
  .split at h
   .split at h
    .rcases IN.1 h with h|h
     .exact .inl h
     .exact .inr (by simp[h])
    .exact .inr h
   .rcases IN.1 h with h|h
    .exact .inl h
    .exact .inr h
theorem oU(hk:Keyed o):∀(ms:List α) (m:α),aT o ms->aT o (gN o nw ms m)
 |[],m,_=>by simp[gN]
 |x::r,m,h=>by
  have hx:=JB.1 h;rw[gN];split
  .rename_i aX
   refine JB.2 ⟨λy hy=>?_,oU hk r m hx.2⟩;rcases nX o nw r m y hy with rfl|hy
   .exact aX
   .exact hx.1 y hy
  .rename_i aX
   split
   .rename_i he
    split
    .exact JB.2 ⟨λy hy=>by rw[<- hk.left x m y he];exact hx.1 y hy,hx.2⟩
    .exact h
   .rename_i he
    have hg:=(hk.gt x m).1 (by omega);refine JB.2 ⟨λy hy=>?_,h⟩;rcases IN.1 hy with rfl|hy
    .exact hg
    .exact hk.trans _ _ _ hg (hx.1 y hy)
theorem ri:∀(ms:List α) (m:α),ms.length<=(gN o nw ms m).length/\(gN o nw ms m).length<=ms.length+1
 |[],m=>by simp[gN]
 |x::r,m=>by
  have:=ri r m;rw[gN];split
  .simp;omega
  .split
   .split<;>simp
   .simp
def join(a b:List α):List α:=b.foldl (gN o nw) a
theorem cT(hk:Keyed o):∀(b a:List α),aT o a->aT o (join o nw a b)
 |[],_,h=>h
 |m::r,a,h=>cT hk r (gN o nw a m) (oU o nw hk a m h)
theorem rj:∀(b a:List α),(join o nw a b).length<=a.length+b.length
 |[],_=>by simp[join]
 |m::r,a=>by
  have h1:=rj r (gN o nw a m);have h2:=ri o nw a m;simp only[join,OI,Iy] at *;omega
theorem nY:∀(b a:List α) (x:α),x∈join o nw a b->x∈a\/x∈b
 |[],_,_,h=>.inl h
 |m::r,a,x,h=>by
  rcases nY r (gN o nw a m) x h with h|h
  .rcases nX o nw a m x h with rfl|h
   .exact .inr (by simp)
   .exact .inl h
  .exact .inr (by simp[h])
theorem sz(a b:List α)(j:Nat)(hj:j<b.length):join o nw a (b.take (j+1))=gN o nw (join o nw a (b.take j)) (b.getD j d):=by
 rw[gD d hj,IB hj,join,List.foldl_append,join];rfl
theorem xI:∀(a:List α) (m:α),(∀x∈a,o x m<0)->gN o nw a m=a++[m]
 |[],_,_=>rfl
 |x::r,m,h=>by
  rw[gN,if_pos (h x (by simp)),xI r m (λy hy=>h y (by simp[hy]))];rfl
theorem AJ:∀(b a:List α),aT o (a++b)->join o nw a b=a++b
 |[],a,_=>by simp[join]
 |m::r,a,h=>by
  have h1:=xI o nw a m λx hx=>(List.pairwise_append.1 h).2.2 x hx m (by simp);have h2:=AJ r (a++[m]) (by simpa using h);simp only[join,OI,h1] at h2 ⊢;rw[h2];simp
theorem join_nil(b:List α)(h:aT o b):join o nw [] b=b:=AJ o nw b [] h
def mx(x y:α):α:=if nw y x=true then y else x
theorem Rw(hn:eQ o nw){x y:α}(he:o x y=0):mx nw x y=mx nw y x:=by
 unfold mx;cases h1:nw y x<;>cases h2:nw x y
 .simp[hn.total x y he h2 h1]
 .simp
 .simp
 .exfalso
  have:=hn.trans _ _ _ h1 h2;rw[hn.irrefl] at this;cases this
theorem Md(hn:eQ o nw){x y z:α}(h12:o x y=0)(h23:o y z=0):mx nw (mx nw x y) z=mx nw x (mx nw y z):=by
 unfold mx;cases h1:nw y x<;>cases h2:nw z y<;>cases h3:nw z x<;>simp[h1,h2,h3]
 .exfalso
  cases h4:nw x y
  .have:=hn.total x y h12 h4 h1;subst this;rw[h3] at h2;cases h2
  .have:=hn.trans _ _ _ h3 h4;rw[h2] at this;cases this
 .exfalso
  have:=hn.trans _ _ _ h2 h1;rw[h3] at this;cases this
theorem Rx(x:α):mx nw x x=x:=by unfold mx;split<;>rfl
def get(ms:List α)(n:α):Option α:=ms.find? λx=>decide (o x n=0)
theorem get_nil(n:α):get o [] n=be:=rfl
theorem cO(x:α)(r:List α){n:α}(h:o x n=0):get o (x::r) n=AI x:=by simp[get,h]
theorem dM(x:α)(r:List α){n:α}(h:¬ o x n=0):get o (x::r) n=get o r n:=by simp[get,h]
theorem iJ{ms:List α}{n x:α}(h:get o ms n=AI x):o x n=0:=by
 have:=List.find?_some h;simpa using this
theorem get_mem{ms:List α}{n x:α}(h:get o ms n=AI x):x∈ms:=List.mem_of_find?_eq_some h
theorem get_none{ms:List α}{n:α}(h:∀x∈ms,¬ o x n=0):get o ms n=be:=by
 unfold get;rw[List.find?_eq_none];intro x hx;simpa using h x hx
theorem oV(hk:Keyed o){x:α}{r:List α}(h:aT o (x::r)):∀y∈r,¬ o y x=0:=by
 intro y hy e;have:=JQ h hy;have h2:=hk.symm e;omega
theorem rl(hk:Keyed o):∀{a b:List α},aT o a->aT o b->(∀n,get o a n=get o b n)->a=b
 |[],[],_,_,_=>rfl
 |[],y::s,_,_,h=>by
  have:=h y;rw[get_nil,cO o y s (hk.refl y)] at this;cases this
 |x::r,[],_,_,h=>by
  have:=h x;rw[get_nil,cO o x r (hk.refl x)] at this;cases this
 |x::r,y::s,ha,hb,h=>by
  have aa7:o x y=0:=by
   rcases Int.lt_trichotomy (o x y) 0 with hl|he|hl
   .have h1:=h x
    rw[cO o x r (hk.refl x),get_none] at h1
    .cases h1
    .intro z hz e
     have e2:=hk.symm e;rcases IN.1 hz with rfl|hz
     .omega
     .have h2:=hk.trans _ _ _ hl (JQ hb hz)
      omega
   .exact he
   .have hl:=(hk.gt x y).1 hl
    have h1:=h y;rw[cO o y s (hk.refl y),get_none] at h1
    .cases h1
    .intro z hz e
     have e2:=hk.symm e;rcases IN.1 hz with rfl|hz
     .omega
     .have h2:=hk.trans _ _ _ hl (JQ ha hz)
      omega
  have hxy:x=y:=by
   have h1:=h x;rw[cO o x r (hk.refl x),cO o y s (hk.symm aa7)] at h1;exact JI h1
  subst hxy;have pW:r=s:=rl hk (Ox ha) (Ox hb) λn=>by
   by_cases hn:o x n=0
   .rw[get_none o (λz hz e=>oV o hk ha z hz (hk.AH e (hk.symm hn))),get_none o (λz hz e=>oV o hk hb z hz (hk.AH e (hk.symm hn)))]
   .have h1:=h n
    rw[dM o x r hn,dM o x s hn] at h1;exact h1
  rw[pW]
def comb:Option α->Option α->Option α
 |none,y=>y
 |some x,be=>AI x
 |some x,AI y=>AI (mx nw x y)
theorem sB(x:Option α):comb nw x be=x:=by cases x<;>rfl
theorem xJ(hk:Keyed o)(hn:eQ o nw){x y:Option α}{n:α}(hx:∀z,x=AI z->o z n=0)(hy:∀z,y=AI z->o z n=0):comb nw x y=comb nw y x:=by
 cases x with
 |none=>rw[sB];rfl
 |some x=>cases y with
  |none=>rfl
  |some y=>simp only[comb];rw[Rw o nw hn (hk.AH (hx x rfl) (hk.symm (hy y rfl)))]
theorem uD(hk:Keyed o)(hn:eQ o nw){x y z:Option α}{n:α}(hx:∀u,x=AI u->o u n=0)(hy:∀u,y=AI u->o u n=0)(hz:∀u,z=AI u->o u n=0):comb nw (comb nw x y) z=comb nw x (comb nw y z):=by
 cases x with
 |none=>rfl
 |some x=>cases y with
  |none=>rfl
  |some y=>cases z with
   |none=>rfl
   |some z=>simp only[comb];rw[Md o nw hn (hk.AH (hx x rfl) (hk.symm (hy y rfl))) (hk.AH (hy y rfl) (hk.symm (hz z rfl)))]
theorem AK(hk:Keyed o):∀(ms:List α) (m:α),aT o ms->∀n,get o (gN o nw ms m) n=if o m n=0 then comb nw (get o ms n) (AI m) else get o ms n
 |[],m,_,n=>by
  by_cases h:o m n=0
  .rw[if_pos h,gN,cO o m [] h];rfl
  .rw[if_neg h,gN,dM o m [] h]
 |x::r,m,hr,n=>by
  have ih:=AK hk r m (Ox hr) n;rw[gN];by_cases aX:o x m<0
  .rw[if_pos aX]
   by_cases hx:o x n=0
   .rw[cO o x _ hx,cO o x r hx,if_neg (λe=>by have:=hk.AH hx (hk.symm e);omega)]
   .rw[dM o x _ hx,dM o x r hx,ih]
  .rw[if_neg aX]
   by_cases he:o x m=0
   .rw[if_pos he]
    by_cases hm:o m n=0
    .rw[if_pos hm,cO o x r (hk.AH he hm)]
     by_cases yO:nw m x=true
     .rw[if_pos yO,cO o m r hm];simp[comb,mx,yO]
     .rw[if_neg yO,cO o x r (hk.AH he hm)];simp[comb,mx,yO]
    .have hx:¬ o x n=0:=λe=>hm (hk.AH (hk.symm he) e)
     rw[if_neg hm,dM o x r hx];by_cases yO:nw m x=true
     .rw[if_pos yO,dM o m r hm]
     .rw[if_neg yO,dM o x r hx]
   .rw[if_neg he]
    by_cases hm:o m n=0
    .rw[if_pos hm,cO o m _ hm,get_none]
     .rfl
     .have hg:=(hk.gt x m).1 (by omega)
      intro z hz e;have h2:=hk.AH hm (hk.symm e);rcases IN.1 hz with rfl|hz
      .omega
      .have:=hk.trans _ _ _ hg (JQ hr hz)
       omega
    .rw[if_neg hm,dM o m _ hm]
theorem get_join(hk:Keyed o):∀(b a:List α),aT o a->aT o b->∀n,get o (join o nw a b) n=comb nw (get o a n) (get o b n)
 |[],a,_,_,n=>by rw[get_nil,sB];rfl
 |m::r,a,ha,hb,n=>by
  have ih:=get_join hk r (gN o nw a m) (oU o nw hk a m ha) (Ox hb) n;show get o (join o nw (gN o nw a m) r) n=_;rw[ih,AK o nw hk a m ha n];by_cases hm:o m n=0
  .rw[if_pos hm,cO o m r hm,get_none o (ms:=r) (λz hz e=>oV o hk hb z hz (hk.AH e (hk.symm hm))),sB]
  .rw[if_neg hm,dM o m r hm]
theorem join_comm(hk:Keyed o)(hn:eQ o nw){a b:List α}(ha:aT o a)(hb:aT o b):join o nw a b=join o nw b a:=
 rl o hk (cT o nw hk b a ha) (cT o nw hk a b hb) λn=>by
  rw[get_join o nw hk b a ha hb,get_join o nw hk a b hb ha];exact xJ o nw hk hn (n:=n) (λz h=>iJ o h) (λz h=>iJ o h)
theorem join_assoc(hk:Keyed o)(hn:eQ o nw){a b c:List α}(ha:aT o a)(hb:aT o b)(hc:aT o c):join o nw (join o nw a b) c=join o nw a (join o nw b c):=
 rl o hk (cT o nw hk c _ (cT o nw hk b a ha)) (cT o nw hk _ a ha) λn=>by
  rw[get_join o nw hk c _ (cT o nw hk b a ha) hc,get_join o nw hk b a ha hb,get_join o nw hk _ a ha (cT o nw hk c b hb),get_join o nw hk c b hb hc];exact uD o nw hk hn (n:=n) (λz h=>iJ o h) (λz h=>iJ o h) (λz h=>iJ o h)
theorem nZ(hk:Keyed o)(hn:eQ o nw){a b:List α}(ha:aT o a)(hb:aT o b):join o nw (join o nw a b) a=join o nw a b:=
 rl o hk (cT o nw hk a _ (cT o nw hk b a ha)) (cT o nw hk b a ha) λn=>by
  rw[get_join o nw hk a _ (cT o nw hk b a ha) ha,get_join o nw hk b a ha hb];rw[xJ o nw hk hn (n:=n) (x:=get o a n) (λz h=>iJ o h) (λz h=>iJ o h)];rw[uD o nw hk hn (n:=n) (λz h=>iJ o h) (λz h=>iJ o h) (λz h=>iJ o h)];congr 1;cases h:get o a n with
  |none=>rfl
  |some x=>simp[comb,Rx]
def fo(ms:List α)(m:α)(p q k:Nat):List α:=if k<=p then ms.take k else ms.take p++m::(ms.take k).drop q
theorem Ry{ms:List α}{m:α}{p q k:Nat}(h:k<p)(hk:k<ms.length):fo ms m p q (k+1)=fo ms m p q k++[ms.getD k d]:=by
 rw[fo,fo,if_pos (by omega),if_pos (by omega),IB hk,gD d hk]
theorem Rz{ms:List α}{m:α}{p:Nat}:fo ms m p (p+1) (p+1)=fo ms m p (p+1) p++[m]:=by
 rw[fo,fo,if_neg (by omega),if_pos (by omega),List.drop_of_length_le (by simp;omega)]
theorem RB{ms:List α}{m:α}{p:Nat}(hp:p<ms.length):fo ms m p p (p+1)=(fo ms m p p p++[m])++[ms.getD p d]:=by
 rw[fo,fo,if_neg (by omega),if_pos (by omega),IB hp,QC (by simp;omega),List.drop_of_length_le (by simp;omega),gD d hp];simp
theorem RC{ms:List α}{m:α}{p q k:Nat}(h:p<k)(hq:q<=k)(hk:k<ms.length):fo ms m p q (k+1)=fo ms m p q k++[ms.getD k d]:=by
 rw[fo,fo,if_neg (by omega),if_neg (by omega),IB hk,QC (by simp;omega),gD d hk];simp
theorem Me{ms:List α}{m:α}{p q k:Nat}:(fo ms m p q k).length<=1+ms.length+ms.length:=by
 unfold fo;split<;>simp<;>omega
def put(ms:List α)(m:α)(p:Nat)(f:Bool):List α:=ms.take p++m::ms.drop (if f=true then p+1 else p)
theorem RD{ms:List α}{m:α}{p:Nat}{f:Bool}(hp:p<ms.length):fo ms m p (if f=true then p+1 else p) ms.length=put ms m p f:=by
 rw[fo,if_neg (by omega),List.take_length,put]
theorem Mf{ms:List α}{m:α}{p q:Nat}(hp:p=ms.length):fo ms m p q ms.length++[m]=put ms m p false:=by
 subst hp;rw[fo,if_pos (Ie _),put];simp
theorem Mg{ms:List α}{m:α}{p:Nat}{f:Bool}(h:At o d ms m p f)(hn:f=true->nw m (ms.getD p d)=true):gN o nw ms m=put ms m p f:=by
 rw[rh o nw d ms m p f h,put];cases f
 .simp
 .rw[if_pos rfl,if_pos (hn rfl),if_pos rfl,List.set_eq_take_append_cons_drop,if_pos (h.is.1 rfl).1]
end
end RL
namespace Wh
open Go.RowKit
structure bT where
 node:ByteArray
 x:Int
 y:Int
 z:Int
 h:Int
 s:Int
def dm:bT:=⟨Ix,0,0,0,0,0⟩
def bT.ok(m:bT):Prop:=m.node.size<=Io
theorem uE:dm.ok:=by simp[bT.ok,dm]
abbrev As(w:World)(b o:Nat)(m:bT):Prop:=w.cell? ⟨b,o,be⟩=AI (Y m.node)/\w.cell? ⟨b,o+1,be⟩=AI (U O m.x)/\w.cell? ⟨b,o+2,be⟩=AI (U O m.y)/\w.cell? ⟨b,o+3,be⟩=AI (U O m.z)/\w.cell? ⟨b,o+4,be⟩=AI (U O m.h)/\w.cell? ⟨b,o+5,be⟩=AI (U O m.s)
theorem As.re{w:World}{b o:Nat}{m:bT}(h:As w b o m):∀d os,As (Ig (Im w d) os) b o m:=λd os=>by
 obtain⟨c0,c1,c2,c3,c4,c5⟩:=h;exact⟨Ih c0 d os,Ih c1 d os,Ih c2 d os,Ih c3 d os,Ih c4 d os,Ih c5 d os⟩
theorem As.eq{w w':World}{b o:Nat}{m:bT}(h:As w b o m)(e:∀o,w'.cell? ⟨b,o,be⟩=w.cell? ⟨b,o,be⟩):As w' b o m:=by
 obtain⟨c0,c1,c2,c3,c4,c5⟩:=h;exact⟨(e _).trans c0,(e _).trans c1,(e _).trans c2,(e _).trans c3,(e _).trans c4,(e _).trans c5⟩
def Row(w:World)(b off:Nat)(ms:List bT):Prop:=∀j,j<ms.length->As w b (off+j*6) (ms.getD j dm)
def Sl(w:World)(v:Value)(ms:List bT):Prop:=
 ∃(a:Option Addr) (cap:Nat),v=J a ms.length cap/\(∀j,(ms.getD j dm).ok) /\
  (ms=[]\/∃b off,a=AI ⟨b,off,be⟩/\b<w.heap.size/\Row w b off ms)
def bT.cs(m:bT):List Value:=[Y m.node,U O m.x,U O m.y,U O m.z,U O m.h,U O m.s]
def fl(ms:List bT):List Value:=ms.flatMap bT.cs
theorem bR(m:bT):m.cs.length=6:=rfl
theorem bk(m:bT)(r:List bT):fl (m::r)=m.cs++fl r:=by simp[fl]
theorem cU(a b:List bT):fl (a++b)=fl a++fl b:=by simp[fl]
theorem da:∀ms:List bT,(fl ms).length=ms.length*6
 |[]=>rfl
 |m::r=>by rw[bk,Ii,da r,bR,Iy];omega
theorem fP:∀(ms:List bT) (i:Nat),(fl ms).take (i*6)=fl (ms.take i)
 |[],i=>by simp[fl]
 |m::r,0=>by simp[fl]
 |m::r,i+1=>by
  rw[bk,Om,bk,show(i+1)*6=m.cs.length+i*6 by rw[bR];omega,J6,fP r i]
theorem fQ:∀(ms:List bT) (i:Nat),(fl ms).drop (i*6)=fl (ms.drop i)
 |[],i=>by simp[fl]
 |m::r,0=>by simp
 |m::r,i+1=>by
  rw[bk,On,show(i+1)*6=m.cs.length+i*6 by rw[bR];omega,J7,fQ r i]
theorem cX(m:bT):∀v∈m.cs,v.oneCell'=true:=by
 intro v hv;simp[bT.cs] at hv;rcases hv with rfl|rfl|rfl|rfl|rfl|rfl<;>rfl
theorem iK(ms:List bT):∀v∈fl ms,v.oneCell'=true:=by
 intro v hv;obtain⟨m,_,h⟩:=Qn.1 hv;exact cX m v h
theorem eK(ms:List bT)(j:Nat)(hj:j<ms.length)(t:Nat)(ht:t<6):(fl ms)[j*6+t]?=(ms.getD j dm).cs[t]?:=by
 induction ms generalizing j with
 |nil=>simp at hj
 |cons m r ih=>
  rw[bk];cases j with
  |zero=>rw[Jx (by rw[bR];omega)];simp
  |succ j=>
   rw[Jw (by rw[bR];omega),bR,show(j+1)*6+t-6=j*6+t by omega,ih j (by simpa using hj)];simp
theorem pX(ms:List bT)(p:Nat)(hp:p<ms.length)(m:bT):(((((((fl ms).set (p*6) (Y m.node)).set (p*6+1) (U O m.x)).set (p*6+2) (U O m.y)).set (p*6+3) (U O m.z)).set (p*6+4) (U O m.h)).set (p*6+5) (U O m.s))=fl (ms.set p m):=by
 induction ms generalizing p with
 |nil=>simp at hp
 |cons x r ih=>
  cases p with
  |zero=>simp[fl,bT.cs]
  |succ p=>
   have RE:=ih p (by simpa using hp);rw[OD,bk,bk,<- RE];simp only[Nat.add_mul,Ug];have e:∀(l:List Value) (k:Nat) (v:Value),(x.cs++l).set (k+6) v=x.cs++l.set k v:=λl k v=>by
    rw[Uh,if_neg (by rw[bR];omega),bR,Qw]
   have c:∀i:Nat,p*6+6+i=(p*6+i)+6:=λi=>by omega
   simp only[c];rw[e,e,e,e,e,e]
abbrev Own(base:Nat)(w:World)(v:Value)(ms:List bT):Prop:=w.ownsRow base 116 6 v ms.length (fl ms)
theorem jo{base g G:Nat}{w:World}{cur:Array Value}{ms:List bT}(hb:base<=g)(hg:w.heap[g]?=AI (By cur 116 (0,0)))(hs:cur.size=G*6)(hn:ms.length<=G)(hG:G<=Io)(ht:cur.toList.take (ms.length*6)=fl ms) :
 Own base w (J (AI ⟨g,0,be⟩) ms.length G) ms:=⟨da ms,.inr ⟨g,G,cur,rfl,hb,hg,hn,hG,hs,ht⟩⟩
theorem Own.sl{base:Nat}{w:World}{v:Value}{ms:List bT}(h:Own base w v ms)(hs:∀j,(ms.getD j dm).ok):Sl w v ms:=by
 rcases h.2 with⟨rfl,h0⟩|⟨g,c,cur,rfl,eX,hg,gK,et,cE,bo⟩
 .exact⟨be,0,by rw[h0],hs,.inl (Je h0)⟩
 .refine⟨_,c,rfl,hs,.inr ⟨g,0,rfl,(BY.1 hg).1,λj hj=>?_⟩⟩
  have hc:∀t,t<6->w.cell? ⟨g,0+j*6+t,be⟩=(ms.getD j dm).cs[t]?:=λt ht=>by
   rw[ae hg,<- eK ms j hj t ht,<- bo,IP (by omega)];simp
  exact⟨hc 0 (by omega),hc 1 (by omega),hc 2 (by omega),hc 3 (by omega),hc 4 (by omega),hc 5 (by omega)⟩
theorem Own.below{base:Nat}{w w':World}{v:Value}{ms:List bT}(h:Own base w v ms)(hb:Below w.heap.size w w'):Own base w' v ms:=by
 rcases h.2 with⟨rfl,h0⟩|⟨g,c,cur,rfl,eX,hg,gK,et,cE,bo⟩
 .exact⟨h.1,.inl ⟨rfl,h0⟩⟩
 .have aX:=(BY.1 hg).1
  exact⟨h.1,.inr ⟨g,c,cur,rfl,eX,(hb.block g aX).trans hg,gK,et,cE,bo⟩⟩
theorem Own.lt{base:Nat}{w:World}{v:Value}{ms:List bT}(h:Own base w v ms)(k:Nat)(hk:v.ownBlock=AI k):base<=k/\k<w.heap.size:=OS h k hk
theorem fU{base:Nat}{w w1 w2:World}{v:Value}{ms:List bT}(hb:Below base w w1)(h:Own base w1 v ms)(hg:w1.grownBy w2 v.ownBlock)(hbase:base<=w1.heap.size):Below base w w2:=
 hb.grown hg hbase (λk hk=>(h.lt k hk).1)
theorem fc{base g c:Nat}{w:World}{ms:List bT}(h:Own base w (J (AI ⟨g,0,be⟩) ms.length c) ms)(j:Nat)(hj:j<ms.length) :
 As w g (j*6) (ms.getD j dm):=by
 rcases h.2 with⟨h1,_⟩|⟨g',c',cur,h1,eX,hg,gK,et,cE,bo⟩
 .cases h1
 .simp only[I2,Iu,JT] at h1
  obtain⟨⟨rfl,_,_⟩,_,_⟩:=h1;have hc:∀t,t<6->w.cell? ⟨g,j*6+t,be⟩=(ms.getD j dm).cs[t]?:=λt ht=>by
   rw[ae hg,<- eK ms j hj t ht,<- bo,IP (by omega)];simp
  exact⟨hc 0 (by omega),hc 1 (by omega),hc 2 (by omega),hc 3 (by omega),hc 4 (by omega),hc 5 (by omega)⟩
theorem kM{base:Nat}{w:World}{v:Value}{ms:List bT}(h:Own base w v ms)(p:Nat)(hp:p<ms.length):∃g c,v=J (AI ⟨g,0,be⟩) ms.length c:=by
 rcases h.2 with⟨_,h0⟩|⟨g,c,cur,h1,_⟩
 .omega
 .exact⟨g,c,h1⟩
theorem mN{base g c p:Nat}{W:World}{ms:List bT}(h:Own base W (J (AI ⟨g,0,be⟩) ms.length c) ms)(hp:p<ms.length)(m:bT) :
 Own base ((((((W.setCell ⟨g,p*6,be⟩ (Y m.node)).setCell ⟨g,p*6+1,be⟩ (U O m.x)).setCell ⟨g,p*6+2,be⟩ (U O m.y)).setCell ⟨g,p*6+3,be⟩ (U O m.z)).setCell ⟨g,p*6+4,be⟩ (U O m.h)).setCell ⟨g,p*6+5,be⟩ (U O m.s)) (J (AI ⟨g,0,be⟩) ms.length c) (ms.set p m):=by
 have h1:=IM h (p*6) (Y m.node);have h2:=IM h1.1 (p*6+1) (U O m.x);have h3:=IM h2.1 (p*6+2) (U O m.y);have h4:=IM h3.1 (p*6+3) (U O m.z);have h5:=IM h4.1 (p*6+4) (U O m.h);have h6:=IM h5.1 (p*6+5) (U O m.s);have e:=h6.1;rw[pX ms p hp m] at e;show M2 _ _ _ _ _ (ms.set p m).length _;rw[IS];exact e
theorem Sl.below{w w':World}{v:Value}{ms:List bT}(h:Sl w v ms)(hb:Below w.heap.size w w'):Sl w' v ms:=by
 obtain⟨a,cap,rfl,hs,h⟩:=h;refine⟨a,cap,rfl,hs,?_⟩;rcases h with h|⟨b,off,rfl,aX,hr⟩
 .exact .inl h
 .refine .inr ⟨b,off,rfl,IJ aX hb.size,λj hj=>?_⟩
  exact(hr j hj).eq (λo=>(cd hb).1 b o aX)
theorem Row.later{w w':World}{b off:Nat}{ms:List bT}(hr:Row w b off ms)(hb:Below w.heap.size w w')(aX:b<w.heap.size):Row w' b off ms:=λj hj=>(hr j hj).eq (λo=>(cd hb).1 b o aX)
theorem Own.mono{base jG:Nat}{w:World}{v:Value}{ms:List bT}(h:Own base w v ms)(hb:jG<=base):Own jG w v ms:=by
 rcases h.2 with⟨rfl,h0⟩|⟨g,c,cur,rfl,eX,hg,gK,et,cE,bo⟩
 .exact⟨h.1,.inl ⟨rfl,h0⟩⟩
 .exact⟨h.1,.inr ⟨g,c,cur,rfl,Is hb eX,hg,gK,et,cE,bo⟩⟩
theorem cv(base:Nat)(w:World):Own base w (J be 0 0) []:=No w base 116 6
theorem dI{ms:List bT}(h:∀j,(ms.getD j dm).ok):∀m∈ms,(m).ok:=by
 intro m hm;obtain⟨j,hj,rfl⟩:=IT hm;have:=h j;simpa[Ir,Ic hj] using this
theorem cD{ms:List bT}(h:∀m∈ms,(m).ok):∀j,(ms.getD j dm).ok:=by
 intro j;by_cases hj:j<ms.length
 .have:=h ms[j] (IK hj)
  simpa[Ir,Ic hj] using this
 .rw[Ir,I3 (Qo hj)];exact uE
theorem bM{base:Nat}{w:World}{v:Value}{ms:List bT}(h:Own base w v ms)(hs:∀m∈ms,(m).ok):Sl w v ms:=h.sl (cD hs)
theorem fe{base:Nat}{w:World}{v:Value}{L:List bT}{m:bT}(h:w.ownsRow base 116 6 v (L.length+1) (fl L++m.cs)):Own base w v (L++[m]):=by
 have e:fl (L++[m])=fl L++m.cs:=by rw[cU,bk];simp[fl]
 show w.ownsRow base 116 6 v (L++[m]).length (fl (L++[m]));rw[e,Ii];exact h
end Wh
namespace Sv
open Go.RowKit
structure aV where
 node:ByteArray
 bf:ByteArray
 name:ByteArray
 tag:ByteArray
 addr:Int
 port:Int
 af:Bool
 version:Int
 gone:Bool
def dm:aV:=⟨Ix,Ix,Ix,Ix,0,0,false,0,false⟩
def aV.ok(m:aV):Prop:=m.node.size<=Io/\m.bf.size<=Io/\m.name.size<=Io/\m.tag.size<=Io
theorem uE:dm.ok:=by simp[aV.ok,dm]
abbrev As(w:World)(b o:Nat)(m:aV):Prop:=w.cell? ⟨b,o,be⟩=AI (Y m.node)/\w.cell? ⟨b,o+1,be⟩=AI (Y m.bf)/\w.cell? ⟨b,o+2,be⟩=AI (Y m.name)/\w.cell? ⟨b,o+3,be⟩=AI (Y m.tag)/\w.cell? ⟨b,o+4,be⟩=AI (U O m.addr)/\w.cell? ⟨b,o+5,be⟩=AI (U O m.port)/\w.cell? ⟨b,o+6,be⟩=AI (Ia m.af)/\w.cell? ⟨b,o+7,be⟩=AI (U O m.version)/\w.cell? ⟨b,o+8,be⟩=AI (Ia m.gone)
theorem As.re{w:World}{b o:Nat}{m:aV}(h:As w b o m):∀d os,As (Ig (Im w d) os) b o m:=λd os=>by
 obtain⟨c0,c1,c2,c3,c4,c5,c6,c7,c8⟩:=h;exact⟨Ih c0 d os,Ih c1 d os,Ih c2 d os,Ih c3 d os,Ih c4 d os,Ih c5 d os,Ih c6 d os,Ih c7 d os,Ih c8 d os⟩
theorem As.eq{w w':World}{b o:Nat}{m:aV}(h:As w b o m)(e:∀o,w'.cell? ⟨b,o,be⟩=w.cell? ⟨b,o,be⟩):As w' b o m:=by
 obtain⟨c0,c1,c2,c3,c4,c5,c6,c7,c8⟩:=h;exact⟨(e _).trans c0,(e _).trans c1,(e _).trans c2,(e _).trans c3,(e _).trans c4,(e _).trans c5,(e _).trans c6,(e _).trans c7,(e _).trans c8⟩
def Row(w:World)(b off:Nat)(ms:List aV):Prop:=∀j,j<ms.length->As w b (off+j*9) (ms.getD j dm)
def Sl(w:World)(v:Value)(ms:List aV):Prop:=
 ∃(a:Option Addr) (cap:Nat),v=J a ms.length cap/\(∀j,(ms.getD j dm).ok) /\
  (ms=[]\/∃b off,a=AI ⟨b,off,be⟩/\b<w.heap.size/\Row w b off ms)
def aV.cs(m:aV):List Value:=[Y m.node,Y m.bf,Y m.name,Y m.tag,U O m.addr,U O m.port,Ia m.af,U O m.version,Ia m.gone]
def fl(ms:List aV):List Value:=ms.flatMap aV.cs
theorem bR(m:aV):m.cs.length=9:=rfl
theorem bk(m:aV)(r:List aV):fl (m::r)=m.cs++fl r:=by simp[fl]
theorem cU(a b:List aV):fl (a++b)=fl a++fl b:=by simp[fl]
theorem da:∀ms:List aV,(fl ms).length=ms.length*9
 |[]=>rfl
 |m::r=>by rw[bk,Ii,da r,bR,Iy];omega
theorem fP:∀(ms:List aV) (i:Nat),(fl ms).take (i*9)=fl (ms.take i)
 |[],i=>by simp[fl]
 |m::r,0=>by simp[fl]
 |m::r,i+1=>by
  rw[bk,Om,bk,show(i+1)*9=m.cs.length+i*9 by rw[bR];omega,J6,fP r i]
theorem fQ:∀(ms:List aV) (i:Nat),(fl ms).drop (i*9)=fl (ms.drop i)
 |[],i=>by simp[fl]
 |m::r,0=>by simp
 |m::r,i+1=>by
  rw[bk,On,show(i+1)*9=m.cs.length+i*9 by rw[bR];omega,J7,fQ r i]
theorem cX(m:aV):∀v∈m.cs,v.oneCell'=true:=by
 intro v hv;simp[aV.cs] at hv;rcases hv with rfl|rfl|rfl|rfl|rfl|rfl|rfl|rfl|rfl<;>rfl
theorem iK(ms:List aV):∀v∈fl ms,v.oneCell'=true:=by
 intro v hv;obtain⟨m,_,h⟩:=Qn.1 hv;exact cX m v h
theorem eK(ms:List aV)(j:Nat)(hj:j<ms.length)(t:Nat)(ht:t<9):(fl ms)[j*9+t]?=(ms.getD j dm).cs[t]?:=by
 induction ms generalizing j with
 |nil=>simp at hj
 |cons m r ih=>
  rw[bk];cases j with
  |zero=>rw[Jx (by rw[bR];omega)];simp
  |succ j=>
   rw[Jw (by rw[bR];omega),bR,show(j+1)*9+t-9=j*9+t by omega,ih j (by simpa using hj)];simp
theorem pX(ms:List aV)(p:Nat)(hp:p<ms.length)(m:aV):((((((((((fl ms).set (p*9) (Y m.node)).set (p*9+1) (Y m.bf)).set (p*9+2) (Y m.name)).set (p*9+3) (Y m.tag)).set (p*9+4) (U O m.addr)).set (p*9+5) (U O m.port)).set (p*9+6) (Ia m.af)).set (p*9+7) (U O m.version)).set (p*9+8) (Ia m.gone))=fl (ms.set p m):=by
 induction ms generalizing p with
 |nil=>simp at hp
 |cons x r ih=>
  cases p with
  |zero=>simp[fl,aV.cs]
  |succ p=>
   have RE:=ih p (by simpa using hp);rw[OD,bk,bk,<- RE];simp only[Nat.add_mul,Ug];have e:∀(l:List Value) (k:Nat) (v:Value),(x.cs++l).set (k+9) v=x.cs++l.set k v:=λl k v=>by
    rw[Uh,if_neg (by rw[bR];omega),bR,Qw]
   have c:∀i:Nat,p*9+9+i=(p*9+i)+9:=λi=>by omega
   simp only[c];rw[e,e,e,e,e,e,e,e,e]
abbrev Own(base:Nat)(w:World)(v:Value)(ms:List aV):Prop:=w.ownsRow base 38 9 v ms.length (fl ms)
theorem jo{base g G:Nat}{w:World}{cur:Array Value}{ms:List aV}(hb:base<=g)(hg:w.heap[g]?=AI (By cur 38 (0,0)))(hs:cur.size=G*9)(hn:ms.length<=G)(hG:G<=Io)(ht:cur.toList.take (ms.length*9)=fl ms) :
 Own base w (J (AI ⟨g,0,be⟩) ms.length G) ms:=⟨da ms,.inr ⟨g,G,cur,rfl,hb,hg,hn,hG,hs,ht⟩⟩
theorem Own.sl{base:Nat}{w:World}{v:Value}{ms:List aV}(h:Own base w v ms)(hs:∀j,(ms.getD j dm).ok):Sl w v ms:=by
 rcases h.2 with⟨rfl,h0⟩|⟨g,c,cur,rfl,eX,hg,gK,et,cE,bo⟩
 .exact⟨be,0,by rw[h0],hs,.inl (Je h0)⟩
 .refine⟨_,c,rfl,hs,.inr ⟨g,0,rfl,(BY.1 hg).1,λj hj=>?_⟩⟩
  have hc:∀t,t<9->w.cell? ⟨g,0+j*9+t,be⟩=(ms.getD j dm).cs[t]?:=λt ht=>by
   rw[ae hg,<- eK ms j hj t ht,<- bo,IP (by omega)];simp
  exact⟨hc 0 (by omega),hc 1 (by omega),hc 2 (by omega),hc 3 (by omega),hc 4 (by omega),hc 5 (by omega),hc 6 (by omega),hc 7 (by omega),hc 8 (by omega)⟩
theorem Own.below{base:Nat}{w w':World}{v:Value}{ms:List aV}(h:Own base w v ms)(hb:Below w.heap.size w w'):Own base w' v ms:=by
 rcases h.2 with⟨rfl,h0⟩|⟨g,c,cur,rfl,eX,hg,gK,et,cE,bo⟩
 .exact⟨h.1,.inl ⟨rfl,h0⟩⟩
 .have aX:=(BY.1 hg).1
  exact⟨h.1,.inr ⟨g,c,cur,rfl,eX,(hb.block g aX).trans hg,gK,et,cE,bo⟩⟩
theorem Own.lt{base:Nat}{w:World}{v:Value}{ms:List aV}(h:Own base w v ms)(k:Nat)(hk:v.ownBlock=AI k):base<=k/\k<w.heap.size:=OS h k hk
theorem fU{base:Nat}{w w1 w2:World}{v:Value}{ms:List aV}(hb:Below base w w1)(h:Own base w1 v ms)(hg:w1.grownBy w2 v.ownBlock)(hbase:base<=w1.heap.size):Below base w w2:=
 hb.grown hg hbase (λk hk=>(h.lt k hk).1)
theorem fc{base g c:Nat}{w:World}{ms:List aV}(h:Own base w (J (AI ⟨g,0,be⟩) ms.length c) ms)(j:Nat)(hj:j<ms.length) :
 As w g (j*9) (ms.getD j dm):=by
 rcases h.2 with⟨h1,_⟩|⟨g',c',cur,h1,eX,hg,gK,et,cE,bo⟩
 .cases h1
 .simp only[I2,Iu,JT] at h1
  obtain⟨⟨rfl,_,_⟩,_,_⟩:=h1;have hc:∀t,t<9->w.cell? ⟨g,j*9+t,be⟩=(ms.getD j dm).cs[t]?:=λt ht=>by
   rw[ae hg,<- eK ms j hj t ht,<- bo,IP (by omega)];simp
  exact⟨hc 0 (by omega),hc 1 (by omega),hc 2 (by omega),hc 3 (by omega),hc 4 (by omega),hc 5 (by omega),hc 6 (by omega),hc 7 (by omega),hc 8 (by omega)⟩
theorem kM{base:Nat}{w:World}{v:Value}{ms:List aV}(h:Own base w v ms)(p:Nat)(hp:p<ms.length):∃g c,v=J (AI ⟨g,0,be⟩) ms.length c:=by
 rcases h.2 with⟨_,h0⟩|⟨g,c,cur,h1,_⟩
 .omega
 .exact⟨g,c,h1⟩
theorem mN{base g c p:Nat}{W:World}{ms:List aV}(h:Own base W (J (AI ⟨g,0,be⟩) ms.length c) ms)(hp:p<ms.length)(m:aV) :
 Own base (((((((((W.setCell ⟨g,p*9,be⟩ (Y m.node)).setCell ⟨g,p*9+1,be⟩ (Y m.bf)).setCell ⟨g,p*9+2,be⟩ (Y m.name)).setCell ⟨g,p*9+3,be⟩ (Y m.tag)).setCell ⟨g,p*9+4,be⟩ (U O m.addr)).setCell ⟨g,p*9+5,be⟩ (U O m.port)).setCell ⟨g,p*9+6,be⟩ (Ia m.af)).setCell ⟨g,p*9+7,be⟩ (U O m.version)).setCell ⟨g,p*9+8,be⟩ (Ia m.gone)) (J (AI ⟨g,0,be⟩) ms.length c) (ms.set p m):=by
 have h1:=IM h (p*9) (Y m.node);have h2:=IM h1.1 (p*9+1) (Y m.bf);have h3:=IM h2.1 (p*9+2) (Y m.name);have h4:=IM h3.1 (p*9+3) (Y m.tag);have h5:=IM h4.1 (p*9+4) (U O m.addr);have h6:=IM h5.1 (p*9+5) (U O m.port);have h7:=IM h6.1 (p*9+6) (Ia m.af);have h8:=IM h7.1 (p*9+7) (U O m.version);have h9:=IM h8.1 (p*9+8) (Ia m.gone);have e:=h9.1;rw[pX ms p hp m] at e;show M2 _ _ _ _ _ (ms.set p m).length _;rw[IS];exact e
theorem Sl.below{w w':World}{v:Value}{ms:List aV}(h:Sl w v ms)(hb:Below w.heap.size w w'):Sl w' v ms:=by
 obtain⟨a,cap,rfl,hs,h⟩:=h;refine⟨a,cap,rfl,hs,?_⟩;rcases h with h|⟨b,off,rfl,aX,hr⟩
 .exact .inl h
 .refine .inr ⟨b,off,rfl,IJ aX hb.size,λj hj=>?_⟩
  exact(hr j hj).eq (λo=>(cd hb).1 b o aX)
theorem Row.later{w w':World}{b off:Nat}{ms:List aV}(hr:Row w b off ms)(hb:Below w.heap.size w w')(aX:b<w.heap.size):Row w' b off ms:=λj hj=>(hr j hj).eq (λo=>(cd hb).1 b o aX)
theorem Own.mono{base jG:Nat}{w:World}{v:Value}{ms:List aV}(h:Own base w v ms)(hb:jG<=base):Own jG w v ms:=by
 rcases h.2 with⟨rfl,h0⟩|⟨g,c,cur,rfl,eX,hg,gK,et,cE,bo⟩
 .exact⟨h.1,.inl ⟨rfl,h0⟩⟩
 .exact⟨h.1,.inr ⟨g,c,cur,rfl,Is hb eX,hg,gK,et,cE,bo⟩⟩
theorem cv(base:Nat)(w:World):Own base w (J be 0 0) []:=No w base 38 9
theorem dI{ms:List aV}(h:∀j,(ms.getD j dm).ok):∀m∈ms,(m).ok:=by
 intro m hm;obtain⟨j,hj,rfl⟩:=IT hm;have:=h j;simpa[Ir,Ic hj] using this
theorem cD{ms:List aV}(h:∀m∈ms,(m).ok):∀j,(ms.getD j dm).ok:=by
 intro j;by_cases hj:j<ms.length
 .have:=h ms[j] (IK hj)
  simpa[Ir,Ic hj] using this
 .rw[Ir,I3 (Qo hj)];exact uE
theorem bM{base:Nat}{w:World}{v:Value}{ms:List aV}(h:Own base w v ms)(hs:∀m∈ms,(m).ok):Sl w v ms:=h.sl (cD hs)
theorem pY(w:World)(b cap:Nat)(m:aV)(hm:(m).ok)(hg:w.heap[b]?=AI (By #[Y m.node,Y m.bf,Y m.name,Y m.tag,U O m.addr,U O m.port,Ia m.af,U O m.version,Ia m.gone] 38 (0,0))):Sl w (J (AI ⟨b,0,be⟩) 1 cap) [m]:=by
 refine⟨_,cap,rfl,cD (λx hx=>by simp at hx;subst hx;exact hm),.inr ⟨b,0,rfl,(BY.1 hg).1,λj hj=>?_⟩⟩
 have:j=0:=by simpa using hj
 subst this;exact⟨ae hg (0+0*9),ae hg (0+0*9+1),ae hg (0+0*9+2),ae hg (0+0*9+3),ae hg (0+0*9+4),ae hg (0+0*9+5),ae hg (0+0*9+6),ae hg (0+0*9+7),ae hg (0+0*9+8)⟩
theorem fe{base:Nat}{w:World}{v:Value}{L:List aV}{m:aV}(h:w.ownsRow base 38 9 v (L.length+1) (fl L++m.cs)):Own base w v (L++[m]):=by
 have e:fl (L++[m])=fl L++m.cs:=by rw[cU,bk];simp[fl]
 show w.ownsRow base 38 9 v (L++[m]).length (fl (L++[m]));rw[e,Ii];exact h
end Sv
namespace Gw
open Go.RowKit
structure bN where
 av:ByteArray
 addr:Int
 version:Int
def dm:bN:=⟨Ix,0,0⟩
def bN.ok(m:bN):Prop:=m.av.size<=Io
theorem uE:dm.ok:=by simp[bN.ok,dm]
abbrev As(w:World)(b o:Nat)(m:bN):Prop:=w.cell? ⟨b,o,be⟩=AI (Y m.av)/\w.cell? ⟨b,o+1,be⟩=AI (U O m.addr)/\w.cell? ⟨b,o+2,be⟩=AI (U O m.version)
theorem As.re{w:World}{b o:Nat}{m:bN}(h:As w b o m):∀d os,As (Ig (Im w d) os) b o m:=λd os=>by
 obtain⟨c0,c1,c2⟩:=h;exact⟨Ih c0 d os,Ih c1 d os,Ih c2 d os⟩
theorem As.eq{w w':World}{b o:Nat}{m:bN}(h:As w b o m)(e:∀o,w'.cell? ⟨b,o,be⟩=w.cell? ⟨b,o,be⟩):As w' b o m:=by
 obtain⟨c0,c1,c2⟩:=h;exact⟨(e _).trans c0,(e _).trans c1,(e _).trans c2⟩
def Row(w:World)(b off:Nat)(ms:List bN):Prop:=∀j,j<ms.length->As w b (off+j*3) (ms.getD j dm)
def Sl(w:World)(v:Value)(ms:List bN):Prop:=
 ∃(a:Option Addr) (cap:Nat),v=J a ms.length cap/\(∀j,(ms.getD j dm).ok) /\
  (ms=[]\/∃b off,a=AI ⟨b,off,be⟩/\b<w.heap.size/\Row w b off ms)
def bN.cs(m:bN):List Value:=[Y m.av,U O m.addr,U O m.version]
def fl(ms:List bN):List Value:=ms.flatMap bN.cs
theorem bR(m:bN):m.cs.length=3:=rfl
theorem bk(m:bN)(r:List bN):fl (m::r)=m.cs++fl r:=by simp[fl]
theorem cU(a b:List bN):fl (a++b)=fl a++fl b:=by simp[fl]
theorem da:∀ms:List bN,(fl ms).length=ms.length*3
 |[]=>rfl
 |m::r=>by rw[bk,Ii,da r,bR,Iy];omega
theorem fP:∀(ms:List bN) (i:Nat),(fl ms).take (i*3)=fl (ms.take i)
 |[],i=>by simp[fl]
 |m::r,0=>by simp[fl]
 |m::r,i+1=>by
  rw[bk,Om,bk,show(i+1)*3=m.cs.length+i*3 by rw[bR];omega,J6,fP r i]
theorem fQ:∀(ms:List bN) (i:Nat),(fl ms).drop (i*3)=fl (ms.drop i)
 |[],i=>by simp[fl]
 |m::r,0=>by simp
 |m::r,i+1=>by
  rw[bk,On,show(i+1)*3=m.cs.length+i*3 by rw[bR];omega,J7,fQ r i]
theorem cX(m:bN):∀v∈m.cs,v.oneCell'=true:=by
 intro v hv;simp[bN.cs] at hv;rcases hv with rfl|rfl|rfl<;>rfl
theorem iK(ms:List bN):∀v∈fl ms,v.oneCell'=true:=by
 intro v hv;obtain⟨m,_,h⟩:=Qn.1 hv;exact cX m v h
theorem eK(ms:List bN)(j:Nat)(hj:j<ms.length)(t:Nat)(ht:t<3):(fl ms)[j*3+t]?=(ms.getD j dm).cs[t]?:=by
 induction ms generalizing j with
 |nil=>simp at hj
 |cons m r ih=>
  rw[bk];cases j with
  |zero=>rw[Jx (by rw[bR];omega)];simp
  |succ j=>
   rw[Jw (by rw[bR];omega),bR,show(j+1)*3+t-3=j*3+t by omega,ih j (by simpa using hj)];simp
theorem pX(ms:List bN)(p:Nat)(hp:p<ms.length)(m:bN):((((fl ms).set (p*3) (Y m.av)).set (p*3+1) (U O m.addr)).set (p*3+2) (U O m.version))=fl (ms.set p m):=by
 induction ms generalizing p with
 |nil=>simp at hp
 |cons x r ih=>
  cases p with
  |zero=>simp[fl,bN.cs]
  |succ p=>
   have RE:=ih p (by simpa using hp);rw[OD,bk,bk,<- RE];simp only[Nat.add_mul,Ug];have e:∀(l:List Value) (k:Nat) (v:Value),(x.cs++l).set (k+3) v=x.cs++l.set k v:=λl k v=>by
    rw[Uh,if_neg (by rw[bR];omega),bR,Qw]
   have c:∀i:Nat,p*3+3+i=(p*3+i)+3:=λi=>by omega
   simp only[c];rw[e,e,e]
abbrev Own(base:Nat)(w:World)(v:Value)(ms:List bN):Prop:=w.ownsRow base 102 3 v ms.length (fl ms)
theorem jo{base g G:Nat}{w:World}{cur:Array Value}{ms:List bN}(hb:base<=g)(hg:w.heap[g]?=AI (By cur 102 (0,0)))(hs:cur.size=G*3)(hn:ms.length<=G)(hG:G<=Io)(ht:cur.toList.take (ms.length*3)=fl ms) :
 Own base w (J (AI ⟨g,0,be⟩) ms.length G) ms:=⟨da ms,.inr ⟨g,G,cur,rfl,hb,hg,hn,hG,hs,ht⟩⟩
theorem Own.sl{base:Nat}{w:World}{v:Value}{ms:List bN}(h:Own base w v ms)(hs:∀j,(ms.getD j dm).ok):Sl w v ms:=by
 rcases h.2 with⟨rfl,h0⟩|⟨g,c,cur,rfl,eX,hg,gK,et,cE,bo⟩
 .exact⟨be,0,by rw[h0],hs,.inl (Je h0)⟩
 .refine⟨_,c,rfl,hs,.inr ⟨g,0,rfl,(BY.1 hg).1,λj hj=>?_⟩⟩
  have hc:∀t,t<3->w.cell? ⟨g,0+j*3+t,be⟩=(ms.getD j dm).cs[t]?:=λt ht=>by
   rw[ae hg,<- eK ms j hj t ht,<- bo,IP (by omega)];simp
  exact⟨hc 0 (by omega),hc 1 (by omega),hc 2 (by omega)⟩
theorem Own.below{base:Nat}{w w':World}{v:Value}{ms:List bN}(h:Own base w v ms)(hb:Below w.heap.size w w'):Own base w' v ms:=by
 rcases h.2 with⟨rfl,h0⟩|⟨g,c,cur,rfl,eX,hg,gK,et,cE,bo⟩
 .exact⟨h.1,.inl ⟨rfl,h0⟩⟩
 .have aX:=(BY.1 hg).1
  exact⟨h.1,.inr ⟨g,c,cur,rfl,eX,(hb.block g aX).trans hg,gK,et,cE,bo⟩⟩
theorem Own.lt{base:Nat}{w:World}{v:Value}{ms:List bN}(h:Own base w v ms)(k:Nat)(hk:v.ownBlock=AI k):base<=k/\k<w.heap.size:=OS h k hk
theorem fU{base:Nat}{w w1 w2:World}{v:Value}{ms:List bN}(hb:Below base w w1)(h:Own base w1 v ms)(hg:w1.grownBy w2 v.ownBlock)(hbase:base<=w1.heap.size):Below base w w2:=
 hb.grown hg hbase (λk hk=>(h.lt k hk).1)
theorem fc{base g c:Nat}{w:World}{ms:List bN}(h:Own base w (J (AI ⟨g,0,be⟩) ms.length c) ms)(j:Nat)(hj:j<ms.length) :
 As w g (j*3) (ms.getD j dm):=by
 rcases h.2 with⟨h1,_⟩|⟨g',c',cur,h1,eX,hg,gK,et,cE,bo⟩
 .cases h1
 .simp only[I2,Iu,JT] at h1
  obtain⟨⟨rfl,_,_⟩,_,_⟩:=h1;have hc:∀t,t<3->w.cell? ⟨g,j*3+t,be⟩=(ms.getD j dm).cs[t]?:=λt ht=>by
   rw[ae hg,<- eK ms j hj t ht,<- bo,IP (by omega)];simp
  exact⟨hc 0 (by omega),hc 1 (by omega),hc 2 (by omega)⟩
theorem kM{base:Nat}{w:World}{v:Value}{ms:List bN}(h:Own base w v ms)(p:Nat)(hp:p<ms.length):∃g c,v=J (AI ⟨g,0,be⟩) ms.length c:=by
 rcases h.2 with⟨_,h0⟩|⟨g,c,cur,h1,_⟩
 .omega
 .exact⟨g,c,h1⟩
theorem mN{base g c p:Nat}{W:World}{ms:List bN}(h:Own base W (J (AI ⟨g,0,be⟩) ms.length c) ms)(hp:p<ms.length)(m:bN) :
 Own base (((W.setCell ⟨g,p*3,be⟩ (Y m.av)).setCell ⟨g,p*3+1,be⟩ (U O m.addr)).setCell ⟨g,p*3+2,be⟩ (U O m.version)) (J (AI ⟨g,0,be⟩) ms.length c) (ms.set p m):=by
 have h1:=IM h (p*3) (Y m.av);have h2:=IM h1.1 (p*3+1) (U O m.addr);have h3:=IM h2.1 (p*3+2) (U O m.version);have e:=h3.1;rw[pX ms p hp m] at e;show M2 _ _ _ _ _ (ms.set p m).length _;rw[IS];exact e
theorem Sl.below{w w':World}{v:Value}{ms:List bN}(h:Sl w v ms)(hb:Below w.heap.size w w'):Sl w' v ms:=by
 obtain⟨a,cap,rfl,hs,h⟩:=h;refine⟨a,cap,rfl,hs,?_⟩;rcases h with h|⟨b,off,rfl,aX,hr⟩
 .exact .inl h
 .refine .inr ⟨b,off,rfl,IJ aX hb.size,λj hj=>?_⟩
  exact(hr j hj).eq (λo=>(cd hb).1 b o aX)
theorem Row.later{w w':World}{b off:Nat}{ms:List bN}(hr:Row w b off ms)(hb:Below w.heap.size w w')(aX:b<w.heap.size):Row w' b off ms:=λj hj=>(hr j hj).eq (λo=>(cd hb).1 b o aX)
theorem Own.mono{base jG:Nat}{w:World}{v:Value}{ms:List bN}(h:Own base w v ms)(hb:jG<=base):Own jG w v ms:=by
 rcases h.2 with⟨rfl,h0⟩|⟨g,c,cur,rfl,eX,hg,gK,et,cE,bo⟩
 .exact⟨h.1,.inl ⟨rfl,h0⟩⟩
 .exact⟨h.1,.inr ⟨g,c,cur,rfl,Is hb eX,hg,gK,et,cE,bo⟩⟩
theorem cv(base:Nat)(w:World):Own base w (J be 0 0) []:=No w base 102 3
theorem dI{ms:List bN}(h:∀j,(ms.getD j dm).ok):∀m∈ms,(m).ok:=by
 intro m hm;obtain⟨j,hj,rfl⟩:=IT hm;have:=h j;simpa[Ir,Ic hj] using this
theorem cD{ms:List bN}(h:∀m∈ms,(m).ok):∀j,(ms.getD j dm).ok:=by
 intro j;by_cases hj:j<ms.length
 .have:=h ms[j] (IK hj)
  simpa[Ir,Ic hj] using this
 .rw[Ir,I3 (Qo hj)];exact uE
theorem bM{base:Nat}{w:World}{v:Value}{ms:List bN}(h:Own base w v ms)(hs:∀m∈ms,(m).ok):Sl w v ms:=h.sl (cD hs)
theorem pY(w:World)(b cap:Nat)(m:bN)(hm:(m).ok)(hg:w.heap[b]?=AI (By #[Y m.av,U O m.addr,U O m.version] 102 (0,0))):Sl w (J (AI ⟨b,0,be⟩) 1 cap) [m]:=by
 refine⟨_,cap,rfl,cD (λx hx=>by simp at hx;subst hx;exact hm),.inr ⟨b,0,rfl,(BY.1 hg).1,λj hj=>?_⟩⟩
 have:j=0:=by simpa using hj
 subst this;exact⟨ae hg (0+0*3),ae hg (0+0*3+1),ae hg (0+0*3+2)⟩
theorem fe{base:Nat}{w:World}{v:Value}{L:List bN}{m:bN}(h:w.ownsRow base 102 3 v (L.length+1) (fl L++m.cs)):Own base w v (L++[m]):=by
 have e:fl (L++[m])=fl L++m.cs:=by rw[cU,bk];simp[fl]
 show w.ownsRow base 102 3 v (L++[m]).length (fl (L++[m]));rw[e,Ii];exact h
end Gw
end Go.Proofs.YtbfghimjdlpicaaGreatDoor
namespace Go.Proofs.YtbfghimjdlpicaaGreatDoor
open Go.RowKit
structure Mem where
 name:ByteArray
 state:Int
 aI:Int
 addr:Int
 server:Bool
def dm:Mem:=⟨Ix,0,0,0,false⟩
abbrev As(w:World)(b o:Nat)(m:Mem):Prop:=w.cell? ⟨b,o,be⟩=AI (Y m.name)/\w.cell? ⟨b,o+1,be⟩=AI (U O m.state)/\w.cell? ⟨b,o+2,be⟩=AI (U O m.aI)/\w.cell? ⟨b,o+3,be⟩=AI (U O m.addr)/\w.cell? ⟨b,o+4,be⟩=AI (Ia m.server)
theorem As.re{w:World}{b o:Nat}{m:Mem}(h:As w b o m):∀d os,As (Ig (Im w d) os) b o m:=λd os=>by
 obtain⟨c0,c1,c2,c3,c4⟩:=h;exact⟨Ih c0 d os,Ih c1 d os,Ih c2 d os,Ih c3 d os,Ih c4 d os⟩
theorem As.eq{w w':World}{b o:Nat}{m:Mem}(h:As w b o m)(e:∀o,w'.cell? ⟨b,o,be⟩=w.cell? ⟨b,o,be⟩):As w' b o m:=by
 obtain⟨c0,c1,c2,c3,c4⟩:=h;exact⟨(e _).trans c0,(e _).trans c1,(e _).trans c2,(e _).trans c3,(e _).trans c4⟩
def Row(w:World)(b off:Nat)(ms:List Mem):Prop:=∀j,j<ms.length->As w b (off+j*5) (ms.getD j dm)
def Sl(w:World)(v:Value)(ms:List Mem):Prop:=
 ∃(a:Option Addr) (cap:Nat),v=J a ms.length cap/\(∀j,(ms.getD j dm).name.size<=Io) /\
  (ms=[]\/∃b off,a=AI ⟨b,off,be⟩/\b<w.heap.size/\Row w b off ms)
def Mem.cs(m:Mem):List Value:=[Y m.name,U O m.state,U O m.aI,U O m.addr,Ia m.server]
def fl(ms:List Mem):List Value:=ms.flatMap Mem.cs
theorem bR(m:Mem):m.cs.length=5:=rfl
theorem bk(m:Mem)(r:List Mem):fl (m::r)=m.cs++fl r:=by simp[fl]
theorem cU(a b:List Mem):fl (a++b)=fl a++fl b:=by simp[fl]
theorem da:∀ms:List Mem,(fl ms).length=ms.length*5
 |[]=>rfl
 |m::r=>by rw[bk,Ii,da r,bR,Iy];omega
theorem fP:∀(ms:List Mem) (i:Nat),(fl ms).take (i*5)=fl (ms.take i)
 |[],i=>by simp[fl]
 |m::r,0=>by simp[fl]
 |m::r,i+1=>by
  rw[bk,Om,bk,show(i+1)*5=m.cs.length+i*5 by rw[bR];omega,J6,fP r i]
theorem fQ:∀(ms:List Mem) (i:Nat),(fl ms).drop (i*5)=fl (ms.drop i)
 |[],i=>by simp[fl]
 |m::r,0=>by simp
 |m::r,i+1=>by
  rw[bk,On,show(i+1)*5=m.cs.length+i*5 by rw[bR];omega,J7,fQ r i]
theorem cX(m:Mem):∀v∈m.cs,v.oneCell'=true:=by
 intro v hv;simp[Mem.cs] at hv;rcases hv with rfl|rfl|rfl|rfl|rfl<;>rfl
theorem iK(ms:List Mem):∀v∈fl ms,v.oneCell'=true:=by
 intro v hv;obtain⟨m,_,h⟩:=Qn.1 hv;exact cX m v h
theorem eK(ms:List Mem)(j:Nat)(hj:j<ms.length)(t:Nat)(ht:t<5):(fl ms)[j*5+t]?=(ms.getD j dm).cs[t]?:=by
 induction ms generalizing j with
 |nil=>simp at hj
 |cons m r ih=>
  rw[bk];cases j with
  |zero=>rw[Jx (by rw[bR];omega)];simp
  |succ j=>
   rw[Jw (by rw[bR];omega),bR,show(j+1)*5+t-5=j*5+t by omega,ih j (by simpa using hj)];simp
theorem pX(ms:List Mem)(p:Nat)(hp:p<ms.length)(m:Mem):((((((fl ms).set (p*5) (Y m.name)).set (p*5+1) (U O m.state)).set (p*5+2) (U O m.aI)).set (p*5+3) (U O m.addr)).set (p*5+4) (Ia m.server))=fl (ms.set p m):=by
 induction ms generalizing p with
 |nil=>simp at hp
 |cons x r ih=>
  cases p with
  |zero=>simp[fl,Mem.cs]
  |succ p=>
   have RE:=ih p (by simpa using hp);rw[OD,bk,bk,<- RE];simp only[Nat.add_mul,Ug];have e:∀(l:List Value) (k:Nat) (v:Value),(x.cs++l).set (k+5) v=x.cs++l.set k v:=λl k v=>by
    rw[Uh,if_neg (by rw[bR];omega),bR,Qw]
   have c:∀i:Nat,p*5+5+i=(p*5+i)+5:=λi=>by omega
   simp only[c];rw[e,e,e,e,e]
abbrev Own(base:Nat)(w:World)(v:Value)(ms:List Mem):Prop:=w.ownsRow base 52 5 v ms.length (fl ms)
theorem jo{base g G:Nat}{w:World}{cur:Array Value}{ms:List Mem}(hb:base<=g)(hg:w.heap[g]?=AI (By cur 52 (0,0)))(hs:cur.size=G*5)(hn:ms.length<=G)(hG:G<=Io)(ht:cur.toList.take (ms.length*5)=fl ms) :
 Own base w (J (AI ⟨g,0,be⟩) ms.length G) ms:=⟨da ms,.inr ⟨g,G,cur,rfl,hb,hg,hn,hG,hs,ht⟩⟩
theorem Own.sl{base:Nat}{w:World}{v:Value}{ms:List Mem}(h:Own base w v ms)(hs:∀j,(ms.getD j dm).name.size<=Io):Sl w v ms:=by
 rcases h.2 with⟨rfl,h0⟩|⟨g,c,cur,rfl,eX,hg,gK,et,cE,bo⟩
 .exact⟨be,0,by rw[h0],hs,.inl (Je h0)⟩
 .refine⟨_,c,rfl,hs,.inr ⟨g,0,rfl,(BY.1 hg).1,λj hj=>?_⟩⟩
  have hc:∀t,t<5->w.cell? ⟨g,0+j*5+t,be⟩=(ms.getD j dm).cs[t]?:=λt ht=>by
   rw[ae hg,<- eK ms j hj t ht,<- bo,IP (by omega)];simp
  exact⟨hc 0 (by omega),hc 1 (by omega),hc 2 (by omega),hc 3 (by omega),hc 4 (by omega)⟩
theorem Own.below{base:Nat}{w w':World}{v:Value}{ms:List Mem}(h:Own base w v ms)(hb:Below w.heap.size w w'):Own base w' v ms:=by
 rcases h.2 with⟨rfl,h0⟩|⟨g,c,cur,rfl,eX,hg,gK,et,cE,bo⟩
 .exact⟨h.1,.inl ⟨rfl,h0⟩⟩
 .have aX:=(BY.1 hg).1
  exact⟨h.1,.inr ⟨g,c,cur,rfl,eX,(hb.block g aX).trans hg,gK,et,cE,bo⟩⟩
theorem Own.lt{base:Nat}{w:World}{v:Value}{ms:List Mem}(h:Own base w v ms)(k:Nat)(hk:v.ownBlock=AI k):base<=k/\k<w.heap.size:=OS h k hk
theorem fU{base:Nat}{w w1 w2:World}{v:Value}{ms:List Mem}(hb:Below base w w1)(h:Own base w1 v ms)(hg:w1.grownBy w2 v.ownBlock)(hbase:base<=w1.heap.size):Below base w w2:=
 hb.grown hg hbase (λk hk=>(h.lt k hk).1)
theorem fc{base g c:Nat}{w:World}{ms:List Mem}(h:Own base w (J (AI ⟨g,0,be⟩) ms.length c) ms)(j:Nat)(hj:j<ms.length) :
 As w g (j*5) (ms.getD j dm):=by
 rcases h.2 with⟨h1,_⟩|⟨g',c',cur,h1,eX,hg,gK,et,cE,bo⟩
 .cases h1
 .simp only[I2,Iu,JT] at h1
  obtain⟨⟨rfl,_,_⟩,_,_⟩:=h1;have hc:∀t,t<5->w.cell? ⟨g,j*5+t,be⟩=(ms.getD j dm).cs[t]?:=λt ht=>by
   rw[ae hg,<- eK ms j hj t ht,<- bo,IP (by omega)];simp
  exact⟨hc 0 (by omega),hc 1 (by omega),hc 2 (by omega),hc 3 (by omega),hc 4 (by omega)⟩
theorem kM{base:Nat}{w:World}{v:Value}{ms:List Mem}(h:Own base w v ms)(p:Nat)(hp:p<ms.length):∃g c,v=J (AI ⟨g,0,be⟩) ms.length c:=by
 rcases h.2 with⟨_,h0⟩|⟨g,c,cur,h1,_⟩
 .omega
 .exact⟨g,c,h1⟩
theorem mN{base g c p:Nat}{W:World}{ms:List Mem}(h:Own base W (J (AI ⟨g,0,be⟩) ms.length c) ms)(hp:p<ms.length)(m:Mem) :
 Own base (((((W.setCell ⟨g,p*5,be⟩ (Y m.name)).setCell ⟨g,p*5+1,be⟩ (U O m.state)).setCell ⟨g,p*5+2,be⟩ (U O m.aI)).setCell ⟨g,p*5+3,be⟩ (U O m.addr)).setCell ⟨g,p*5+4,be⟩ (Ia m.server)) (J (AI ⟨g,0,be⟩) ms.length c) (ms.set p m):=by
 have h1:=IM h (p*5) (Y m.name);have h2:=IM h1.1 (p*5+1) (U O m.state);have h3:=IM h2.1 (p*5+2) (U O m.aI);have h4:=IM h3.1 (p*5+3) (U O m.addr);have h5:=IM h4.1 (p*5+4) (Ia m.server);have e:=h5.1;rw[pX ms p hp m] at e;show M2 _ _ _ _ _ (ms.set p m).length _;rw[IS];exact e
theorem Sl.below{w w':World}{v:Value}{ms:List Mem}(h:Sl w v ms)(hb:Below w.heap.size w w'):Sl w' v ms:=by
 obtain⟨a,cap,rfl,hs,h⟩:=h;refine⟨a,cap,rfl,hs,?_⟩;rcases h with h|⟨b,off,rfl,aX,hr⟩
 .exact .inl h
 .refine .inr ⟨b,off,rfl,IJ aX hb.size,λj hj=>?_⟩
  exact(hr j hj).eq (λo=>(cd hb).1 b o aX)
theorem Row.later{w w':World}{b off:Nat}{ms:List Mem}(hr:Row w b off ms)(hb:Below w.heap.size w w')(aX:b<w.heap.size):Row w' b off ms:=λj hj=>(hr j hj).eq (λo=>(cd hb).1 b o aX)
theorem Own.mono{base jG:Nat}{w:World}{v:Value}{ms:List Mem}(h:Own base w v ms)(hb:jG<=base):Own jG w v ms:=by
 rcases h.2 with⟨rfl,h0⟩|⟨g,c,cur,rfl,eX,hg,gK,et,cE,bo⟩
 .exact⟨h.1,.inl ⟨rfl,h0⟩⟩
 .exact⟨h.1,.inr ⟨g,c,cur,rfl,Is hb eX,hg,gK,et,cE,bo⟩⟩
theorem cv(base:Nat)(w:World):Own base w (J be 0 0) []:=No w base 52 5
theorem dI{ms:List Mem}(h:∀j,(ms.getD j dm).name.size<=Io):∀m∈ms,(m).name.size<=Io:=by
 intro m hm;obtain⟨j,hj,rfl⟩:=IT hm;have:=h j;simpa[Ir,Ic hj] using this
theorem cD{ms:List Mem}(h:∀m∈ms,(m).name.size<=Io):∀j,(ms.getD j dm).name.size<=Io:=by
 intro j;by_cases hj:j<ms.length
 .have:=h ms[j] (IK hj)
  simpa[Ir,Ic hj] using this
 .simp[Ir,I3 (Qo hj),dm]
theorem bM{base:Nat}{w:World}{v:Value}{ms:List Mem}(h:Own base w v ms)(hs:∀m∈ms,(m).name.size<=Io):Sl w v ms:=h.sl (cD hs)
theorem pY(w:World)(b cap:Nat)(m:Mem)(hm:(m).name.size<=Io)(hg:w.heap[b]?=AI (By #[Y m.name,U O m.state,U O m.aI,U O m.addr,Ia m.server] 52 (0,0))):Sl w (J (AI ⟨b,0,be⟩) 1 cap) [m]:=by
 refine⟨_,cap,rfl,cD (λx hx=>by simp at hx;subst hx;exact hm),.inr ⟨b,0,rfl,(BY.1 hg).1,λj hj=>?_⟩⟩
 have:j=0:=by simpa using hj
 subst this;exact⟨ae hg (0+0*5),ae hg (0+0*5+1),ae hg (0+0*5+2),ae hg (0+0*5+3),ae hg (0+0*5+4)⟩
theorem fe{base:Nat}{w:World}{v:Value}{L:List Mem}{m:Mem}(h:w.ownsRow base 52 5 v (L.length+1) (fl L++m.cs)):Own base w v (L++[m]):=by
 have e:fl (L++[m])=fl L++m.cs:=by rw[cU,bk];simp[fl]
 show w.ownsRow base 52 5 v (L++[m]).length (fl (L++[m]));rw[e,Ii];exact h
theorem pZ(ss:List ByteArray)(b cap:Nat)(w:World)(hb:∀j,j<ss.length->w.cell? ⟨b,j,be⟩=AI (Y (ss.getD j Ix)))(hs:∀j,(ss.getD j Ix).size<=Io)(hn:ss.length<=1000) :
 aK 28 #[J (AI ⟨b,0,be⟩) ss.length cap] w λe w'=>e=AT (Ia (ss.all bl))/\w'=w:=by
 have HB:Hid _:=hb;have HS:Hid _:=hs;have H0:Hid ((∀j,j<ss.length->bl (ss.getD j Ix)=true)->ss.all bl=true):=λh=>by
  rw[OQ];intro x hx;obtain⟨j,hj,rfl⟩:=IT hx;have:=h j hj;simpa[Ir,Ic hj] using this
 have H1:Hid (∀j,j<ss.length->bl (ss.getD j Ix)=false->ss.all bl=false):=λj hj h=>by
  rw[List.all_eq_false];refine⟨ss[j],IK hj,?_⟩;rw[show ss.getD j Ix=ss[j] by simp[Ir,Ic hj]] at h;simp[h]
 clear hb hs;generalize ss.all bl=res at *;generalize hN:ss.length=n at *;clear hN;go_enter Tryz.func28,Tryz.ntmps28;go_wp2_with fail;go_loop [7] (λi=>∃k:Nat,k<=n/\i=U O k/\Hid (∀j,j<k->bl (ss.getD j Ix)=true)) (λi=>n-(intOf i).toNat)
 case atStart=>exact⟨0,IF _,rfl,λj h=>absurd h (Jj _)⟩
 case round=>
  obtain⟨k,hk,rfl,hz⟩:=hrel;by_cases aX:k<n
  .have hc:=HB.out k aX
   have RF:=HS.out k;have HZ:Hid (bl (ss.getD k Ix)=true->∀j,j<k+1->bl (ss.getD j Ix)=true):=λh j hj=>by
    rcases I6.1 hj with h2|rfl
    .exact hz.out j h2
    .exact h
   have HF:Hid (bl (ss.getD k Ix)=false->res=false):=λh=>H1.out k aX h;generalize ss.getD k Ix=s at *;rcases hl:bl s with _|_
   .have HR:Hid _:=HF.out hl
    go_wp2_with (go_at_call 50;refine(cj _ _ RF).mono ?_;rintro e w' ⟨rfl,rfl⟩;rw[hl]);go_ret;exact⟨aW HR.out.symm,rfl⟩
   .go_wp2_with (go_at_call 50;refine(cj _ _ RF).mono ?_;rintro e w' ⟨rfl,rfl⟩;rw[hl])
    go_round
    case rel=>exact⟨k+1,by omega,by go_num,HZ.out hl⟩
    case measure=>simp[intOf];omega
  .have HR:Hid _:=H0.out λj hj=>hz.out j (by omega)
   go_wp2_with fail;go_ret;exact⟨aW HR.out.symm,rfl⟩
def qb(t:ByteArray):Bool:=decide (t=Ix)||bl t
theorem AL(ss:List ByteArray)(b cap:Nat)(w:World)(hb:∀j,j<ss.length->w.cell? ⟨b,j,be⟩=AI (Y (ss.getD j Ix)))(hs:∀j,(ss.getD j Ix).size<=Io)(hn:ss.length<=1000) :
 aK 190 #[J (AI ⟨b,0,be⟩) ss.length cap] w λe w'=>e=AT (Ia (ss.all qb))/\w'=w:=by
 have HB:Hid _:=hb;have HS:Hid _:=hs;have H0:Hid ((∀j,j<ss.length->qb (ss.getD j Ix)=true)->ss.all qb=true):=λh=>by
  rw[OQ];intro x hx;obtain⟨j,hj,rfl⟩:=IT hx;have:=h j hj;simpa[Ir,Ic hj] using this
 have H1:Hid (∀j,j<ss.length->qb (ss.getD j Ix)=false->ss.all qb=false):=λj hj h=>by
  rw[List.all_eq_false];refine⟨ss[j],IK hj,?_⟩;rw[show ss.getD j Ix=ss[j] by simp[Ir,Ic hj]] at h;simp[h]
 clear hb hs;generalize ss.all qb=res at *;generalize hN:ss.length=n at *;clear hN;go_enter Tryz.func190,Tryz.ntmps190;go_wp2_with fail;go_loop [7] (λi=>∃k:Nat,k<=n/\i=U O k/\Hid (∀j,j<k->qb (ss.getD j Ix)=true)) (λi=>n-(intOf i).toNat)
 case atStart=>exact⟨0,IF _,rfl,λj h=>absurd h (Jj _)⟩
 case round=>
  obtain⟨k,hk,rfl,hz⟩:=hrel;by_cases aX:k<n
  .have hc:=HB.out k aX
   have RF:=HS.out k;have HZ:Hid (qb (ss.getD k Ix)=true->∀j,j<k+1->qb (ss.getD j Ix)=true):=λh j hj=>by
    rcases I6.1 hj with h2|rfl
    .exact hz.out j h2
    .exact h
   have HF:Hid (qb (ss.getD k Ix)=false->res=false):=λh=>H1.out k aX h;generalize ss.getD k Ix=s at *;by_cases hse:s=Ix
   .subst hse
    have ma:Hid _:=HZ.out (by simp[qb]);clear HZ HF;go_wp2_with fail;go_round
    case rel=>exact⟨k+1,by omega,by go_num,ma.out⟩
    case measure=>simp[intOf];omega
   .have HE:Hid (qb s=bl s):=(show qb s=bl s by simp[qb,hse])
    obtain⟨h1,h2⟩:=fb hse;have h3:¬ s.toList=[]:=λe=>h2 (by rw[e,JN];rfl);have h4:(s.toList==[])=false:=by simpa using h3
    clear hse;rcases hl:bl s with _|_
    .have HR:Hid _:=HF.out (by rw[HE.out,hl])
     go_wp2_with (go_at_call 50;refine(cj _ _ RF).mono ?_;rintro e w' ⟨rfl,rfl⟩;rw[hl]);go_ret;exact⟨aW HR.out.symm,rfl⟩
    .have ma:Hid _:=HZ.out (by rw[HE.out,hl])
     clear HZ HF;go_wp2_with (go_at_call 50;refine(cj _ _ RF).mono ?_;rintro e w' ⟨rfl,rfl⟩;rw[hl]);go_round
     case rel=>exact⟨k+1,by omega,by go_num,ma.out⟩
     case measure=>simp[intOf];omega
  .have HR:Hid _:=H0.out λj hj=>hz.out j (by omega)
   go_wp2_with fail;go_ret;exact⟨aW HR.out.symm,rfl⟩
theorem Mh(t:ByteArray)(W:World)(g:Nat)(hs:t.size<=Io)(hg:W.heap[g]?=AI (By #[Y t] 9 (0,0))) :
 aK 190 #[J (AI ⟨g,0,be⟩) 1 1] W λe w'=>e=AT (Ia (qb t))/\w'=W:=by
 have h:=AL [t] g 1 W (λj hj=>by
  rw[ae hg]
  have:j=0:=by simp at hj;omega
  subst this;rfl) (λj=>by
  match j with
  |0=>exact hs
  |_+1=>simp[Ir]) (by simp)
 simpa using h
end Go.Proofs.YtbfghimjdlpicaaGreatDoor
namespace Go.Proofs
open Go.Shelf
end Go.Proofs
namespace Go.Proofs.YtbfghimjdlpicaaGreatDoor
open Go.RowKit
theorem Tryz.infoByte:(Tryz.prog.info? 5).map (λi=>(i.zero,i.size,i.bytes))=AI (AI (U .u8 0),1,1):=by kernel_rfl
theorem Tryz.sizeBuilder:(Tryz.prog.info? 260).map (·.size)=AI 2:=by kernel_rfl
theorem Tryz.Cy:liesAt AS Tryz.prog.depth 262 (2/Tryz.prog.cellsOf 262) 0 260 1=true:=by kernel_rfl
abbrev P5(B b:Nat)(p:Value)(bs:List Value)(w:World):Prop:=Lib.BuilderAt 262 5 B b p bs w
def dC(B b:Nat)(bs:List Value)(w:World):Prop:=P5 B b (If be) bs w\/P5 B b (If (AI ⟨b,0,be⟩)) bs w
def pL(w:World)(b:Nat):Option Nat:=(w.cell? ⟨b,1,be⟩).bind JF
def Kq(b:Nat)(w w':World):Prop:=b<w.heap.size->(∀k,k<w.heap.size->k≠b->AI k≠pL w b->w'.heap[k]?=w.heap[k]?)/\(pL w' b=pL w b\/∀k,pL w' b=AI k->w.heap.size<=k)
structure Kp(B b:Nat)(w w':World):Prop where
 lv:Below B w w'
 oth:Lib.OthersKept 5 (AI b) w w'
 kq:Kq b w w'
theorem Kq.refl(b:Nat)(w:World):Kq b w w:=λ_=>⟨λ_ _ _ _=>rfl,.inl rfl⟩
theorem Kq.trans{b:Nat}{w w1 w2:World}(h:Kq b w w1)(k:Kq b w1 w2)(hs:w.heap.size<=w1.heap.size):Kq b w w2:=λhb=>by
 obtain⟨h1,h2⟩:=h hb;obtain⟨k1,k2⟩:=k (IJ hb hs);refine⟨λj hj hjb yP=>?_,?_⟩
 .refine(k1 j (IJ hj hs) hjb λe=>?_).trans (h1 j hj hjb yP)
  rcases h2 with h2|h2
  .exact yP (e.trans h2)
  .have:=h2 j e.symm;omega
 .rcases k2 with k2|k2
  .rcases h2 with h2|h2
   .exact .inl (k2.trans h2)
   .exact .inr λj hj=>h2 j (k2▸hj)
  .exact .inr λj hj=>Is hs (k2 j hj)
theorem Kp.refl(B b:Nat)(w:World):Kp B b w w:=⟨Below.refl _ _,Lib.OthersKept.refl _ _ _,Kq.refl b w⟩
theorem Kp.trans{B b:Nat}{w w1 w2:World}(h:Kp B b w w1)(k:Kp B b w1 w2):Kp B b w w2:=⟨h.lv.trans k.lv,h.oth.trans k.oth,h.kq.trans k.kq h.lv.size⟩
theorem Kp.size{B b:Nat}{w w1:World}(h:Kp B b w w1):w.heap.size<=w1.heap.size:=h.lv.size
theorem Kq.step{b:Nat}{w1 w2:World}{p v v':Value}{T:Ja}(aC:w1.heap[b]?=AI (By #[p,v] T (0,0)))(aL:w2.heap[b]?=AI (By #[p,v] T (0,0)))(hg:∀k,k<w1.heap.size->AI k≠v.ownBlock->w2.heap[k]?=w1.heap[k]?)(cA:v'.ownBlock=v.ownBlock\/∀k,v'.ownBlock=AI k->w1.heap.size<=k):Kq b w1 (w2.setCell ⟨b,1,be⟩ v'):=λ_=>by
 have e1:pL w1 b=v.ownBlock:=by unfold pL;rw[ae aC 1];rfl
 have e2:pL (w2.setCell ⟨b,1,be⟩ v') b=v'.ownBlock:=by unfold pL;rw[World.cell?_setCell_same _ _ _ (ae aL 1:w2.cell? ⟨b,1,be⟩=AI v)];rfl
 rw[e1,e2];exact⟨λk hk hkb eJ=>(Below.heap_setCell w2 _ v' k hkb).trans (hg k hk eJ),cA⟩
theorem AM{B n:Nat}{w:World}{v:Value}{xs:List Value}(h:w.ownsRow B 5 1 v n xs):∀g,v.ownBlock=AI g->∃c fz,w.heap[g]?=AI (By c 5 fz):=by
 intro g hg;rcases h.2 with⟨rfl,_⟩|⟨g',cap,cur,rfl,_,VY,_⟩
 .simp[JF] at hg
 .simp[JF] at hg
  subst hg;exact⟨cur,_,VY⟩
theorem Cz(b:Nat)(w:World)(h0:w.cell? ⟨b,0,be⟩=AI (If be))(Ck:w.shape? b=AI (262,2))(tm:w.frozen? ⟨b,0,be⟩=false) :
 aK 295 #[If (AI ⟨b,0,be⟩)] w λe w'=>e=AT (Ip #[])/\w'=w.setCell ⟨b,0,be⟩ (If (AI ⟨b,0,be⟩)):=by
 obtain⟨j,hj,hjs⟩:=Option.map_eq_some_iff.1 Tryz.sizeBuilder;go_enter Tryz.func295,Tryz.ntmps295;go_wp2_with fail;rw[Lib.run_to_unsafe w ⟨b,0,be⟩ Tryz.underlying257 Tryz.underlying335 hj (by rw[hjs];decide) Ck (Nat.zero_lt_succ 1)];simp only[Result.andThen];rw[Oper.upon_value];go_wp2_with fail;rw[OM Tryz.func307 (by kernel_rfl) (by kernel_rfl) (by kernel_rfl) (e:=Extern.AbiNoEscape.same) (by kernel_rfl)];rw[Lib.run_noEscape];simp only[Result.andThen];rw[Oper.upon_value];go_wp2_with fail;rw[Lib.run_from_unsafe w ⟨b,0,be⟩ Tryz.underlying335 Tryz.underlying257 hj Ck Tryz.Cy];simp only[Result.andThen];rw[Oper.upon_value];go_wp2_with fail;simp[bodyPost,results,Tryz.results295]
theorem Gl(b:Nat)(w:World)(h0:w.cell? ⟨b,0,be⟩=AI (If (AI ⟨b,0,be⟩))) :
 aK 295 #[If (AI ⟨b,0,be⟩)] w λe w'=>e=AT (Ip #[])/\w'=w:=by
 obtain⟨j,hj,_⟩:=Option.map_eq_some_iff.1 Tryz.sizeBuilder;go_enter Tryz.func295,Tryz.ntmps295;go_wp2_with fail;rw[Lib.run_neq_ptr_same w _ Tryz.underlying257 hj];go_wp2_with fail;simp[bodyPost,results,Tryz.results295]
theorem AN(B b:Nat)(bs:List Value)(w:World)(h:dC B b bs w) :
 aK 295 #[If (AI ⟨b,0,be⟩)] w λe w'=>e=AT (Ip #[])/\P5 B b (If (AI ⟨b,0,be⟩)) bs w'/\Kp B b w w':=by
 rcases h with h|h
 .refine(Cz b w h.cell0 h.shape h.frozen0).mono ?_
  rintro e w' ⟨rfl,rfl⟩;exact⟨rfl,h.used _,(Below.refl B w).setCell (p:=⟨b,0,be⟩) h.1 _,(Lib.OthersKept.refl _ _ w).setCell ⟨b,0,be⟩ rfl _,λ_=>⟨λk _ hkb _=>Below.heap_setCell w _ _ k hkb,.inl (by unfold pL;rw[World.cell?_setCell_other _ _ _ _ (by simp)])⟩⟩
 .refine(Gl b w h.cell0).mono ?_
  rintro e w' ⟨rfl,rfl⟩;exact⟨rfl,h,Kp.refl B b _⟩
theorem wU(B b:Nat)(bs:List Value)(c:Int)(w:World)(h:dC B b bs w)(hlen:bs.length+1<=1000000)(iL:B<=w.heap.size) :
 aK 282 #[If (AI ⟨b,0,be⟩),U .u8 c] w λe w'=>e=AT .nilIface/\P5 B b (If (AI ⟨b,0,be⟩)) (bs++[U .u8 c]) w'/\Kp B b w w':=by
 obtain⟨i0,hi,dt,dD,pA⟩:=info_parts Tryz.infoByte;have HC:Hid (aK _ _ _ _):=AN B b bs w h;clear h;go_enter Tryz.func282,Tryz.ntmps282;go_wp2_with fail;refine HC.out.mono ?_;rintro e w1 ⟨rfl,h1,aC⟩;obtain⟨hB,v,EI,hown,aP⟩:=h1;have c0:=ae EI 0;have c1:=ae EI 1;have Gm:=aC.size;have HO:Hid (w1.ownsRow _ _ _ _ _ _):=hown;have HK:Hid _:=EI;clear hown EI;go_wp2_with (at_builtin;refine wpList_append_own_at _ rfl _ _ 258 rfl B 5 i0 (U .u8 0) 1 1 Qx hi dt dD pA rfl (by decide) _ bs.length bs rfl (HO.out.alloc _) ⟨w1.heap.size,0,be⟩ 1 1 [U .u8 c] rfl rfl ?c1 ?c2 ?c3 ?c4 ?c5 ?_)
 case c1=>(intro j u hj;rw[Addr.add_lit];exact(dR (by simp)).trans (by simpa using hj))
 case c2=>(intro u hu;simp at hu;subst hu;rfl)
 case c3=>(unfold Io;omega)
 case c4=>omega
 case c5=>(simp;omega)
 intro v' w2 uF gI _ cA;have aX:=(BY.1 HK.out).1;have aL:w2.heap[b]?=AI (By #[If (AI ⟨b,0,be⟩),v] 262 (0,0)):=by
  rw[gI.block b (by simp;omega) (λe=>aP e.symm),Oh w1 _ b aX];exact HK.out
 have d0:=ae aL 0;have d1:=ae aL 1;have f1:=Lib.frozen_of_heap aL 1;have bA:Hid (Below B w w2/\Lib.OthersKept 5 (AI b) w w2):=(show _/\_ from⟨(aC.lv.alloc (by omega) _).grown gI (by simp;omega) (λk hk=>(HO.out.lt k hk).1),(aC.oth.alloc _).grown gI (AM (HO.out.alloc _))⟩);have HKQ:Hid (Kq _ _ _):=aC.kq.trans (Kq.step HK.out aL (λk hk eJ=>(gI.block k (by simp;omega) eJ).trans (Oh w1 _ k hk)) (cA.imp id (λe k hk=>by rw[e] at hk;simp at hk;omega))) Gm;have rm:Hid _:=aL;have ja:Hid (w2.ownsRow _ _ _ _ _ _):=uF;obtain⟨g,cap,hv⟩:∃g cap,v'=J (AI ⟨g,0,be⟩) (bs.length+1) cap:=by
  rcases uF.2 with⟨_,h0⟩|⟨g,cap,cur,hv,_⟩
  .omega
  .exact⟨g,cap,hv⟩
 subst hv;clear uF gI aL c0 c1 aC cA;go_wp2_with fail;go_ret;refine⟨rfl,?_,?_⟩
 .exact Lib.BuilderAt.put (T:=262) (e:=5) hB rm.out (bs':=bs++[U .u8 c]) (by simpa using ja.out) (by decide)
 .exact⟨bA.out.1.setCell (p:=⟨b,1,be⟩) hB _,bA.out.2.setCell ⟨b,1,be⟩ rfl _,HKQ.out⟩
theorem uG{P:Program}{w W:World}{base n:Nat}{t u ty e:Ja}{i:TypeInfo}{v v':Value}{xs:List Value}{s:ByteArray}(ht:P.underlying t=AI (.slice e))(hu:P.underlying u=AI .string)(hi:P.info? e=AI i)(hz:i.zero=AI (U .u8 0))(jH:i.size=1)(hby:i.bytes=1)(hown:w.ownsRow base e 1 v n xs)(h63:n+s.size<=Io)(hbytes:n+s.size<=140737488355328)(hr:(Builtin.append_ #[t,u] ty #[v,Y s]).run P w=.ok v' W)(gV:v'=J be 0 0↔v=J be 0 0/\s.size=0):v'.ownBlock=v.ownBlock\/v'.ownBlock=AI w.heap.size:=by
 have hm:n+s.size<=9223372036854775807:=by simp only[Io] at h63;omega
 have hxl:xs.length=n:=by simpa using hown.1
 rcases hown.2 with⟨rfl,rfl⟩|⟨g,cap,cur,rfl,_,hg,_,_,cE,_⟩
 .by_cases h0:s.size=0
  .exact .inl (by rw[gV.2 ⟨rfl,h0⟩])
  .rw[run_append_nil_string (P:=P) w t u ty e i (U .u8 0) ht hu hi hz s (by omega) (by omega) (by rw[hby];omega)] at hr
   injection hr with h1 _;exact .inr (by rw[<- h1];rfl)
 .by_cases dN:n+s.size<=cap
  .rw[Lib.run_append_room_string (P:=P) w t u ty e i ht hu hi jH g n cap cur hg s dN (by have:=cE;omega)] at hr
   injection hr with h1 _;exact .inl (by rw[<- h1];rfl)
  .rw[Lib.run_append_grow_string (P:=P) w t u ty e i (U .u8 0) ht hu hi hz ⟨g,0,be⟩ n cap xs (by rw[jH];simpa using hxl) (hown.cells (g:=g) rfl) s (by omega) (by omega) (by rw[hby];exact growslice_fits (by omega) (by omega))] at hr
   injection hr with h1 _;exact .inr (by rw[<- h1];rfl)
theorem qd{P:Program}(w:World){ops:Array Oper}{rest:List Oper}{o:Oper}{a:Act}{Q:Exit->Act->World->Prop}(hgd:o.guard=be)(sl x:Operand)(t u:Ja)(ho:o.op=.call { callee:=.builtin .append,args:=#[sl,x],argTypes:=#[t,u] })(base:Nat)(e:Ja)(i:TypeInfo)(ht:P.underlying t=AI (.slice e))(hu:P.underlying u=AI .string)(hi:P.info? e=AI i)(hz:i.zero=AI (U .u8 0))(jH:i.size=1)(hby:i.bytes=1)
 (v:Value) (n:Nat) (xs:List Value) (hs:a.eval sl=v) (hown:w.ownsRow base e 1 v n xs) (s:ByteArray) (hx:a.eval x=Y s) (h63:n+s.size<=Io) (hbytes:n+s.size<=140737488355328) (hbase:base<=w.heap.size)
 (h:∀v' w',w'.ownsRow base e 1 v' (n+s.size) (xs++Ow s)->w.grownBy w' v.ownBlock->(v'.ownBlock=v.ownBlock\/v'.ownBlock=AI w.heap.size)->wpList P ops Q rest (a.put o.dst v') w'):wpList P ops Q (o::rest) a w:=by
 obtain⟨v',w',hr,h2,h3,h4⟩:=Lib.run_append_own_string (P:=P) w base t u o.type e i ht hu hi hz jH hby v n xs hown s h63 hbytes hbase;have h5:=uG ht hu hi hz jH hby hown h63 hbytes hr h4;refine wpList_plain hgd λK hK=>?_;have TZ:=hK _ _ (h v' w' h2 h3 h5);simp only[Oper.wp,execOp,ho,resolve,invoke,builtin,Sem.run_bind,Sem.run_pure,Result.andThen_ok,List.map_toArray,List.map_cons,List.map_nil,hs,hx,hr];exact TZ
theorem nJ(B b:Nat)(bs:List Value)(s:ByteArray)(w:World)(h:dC B b bs w)(hlen:bs.length+s.size<=1000000)(iL:B<=w.heap.size) :
 aK 281 #[If (AI ⟨b,0,be⟩),Y s] w λe w'=>e=AT (Ip #[U O s.size,.nilIface])/\P5 B b (If (AI ⟨b,0,be⟩)) (bs++Ow s) w'/\Kp B b w w':=by
 obtain⟨i0,hi,dt,dD,pA⟩:=info_parts Tryz.infoByte;have HC:Hid (aK _ _ _ _):=AN B b bs w h;clear h;go_enter Tryz.func281,Tryz.ntmps281;go_wp2_with fail;refine HC.out.mono ?_;rintro e w1 ⟨rfl,h1,aC⟩;obtain⟨hB,v,EI,hown,aP⟩:=h1;have c0:=ae EI 0;have c1:=ae EI 1;have Gm:=aC.size;have HO:Hid (w1.ownsRow _ _ _ _ _ _):=hown;have HK:Hid _:=EI;clear hown EI;go_wp2_with (at_builtin;refine qd _ rfl _ _ 258 9 rfl B 5 i0 Qx Tryz.underlying9 hi dt dD pA _ bs.length bs rfl HO.out s rfl ?c3 ?c4 ?c5 ?_)
 case c3=>(unfold Io;omega)
 case c4=>omega
 case c5=>omega
 intro v' w2 uF gI cA;have aX:=(BY.1 HK.out).1;have aL:w2.heap[b]?=AI (By #[If (AI ⟨b,0,be⟩),v] 262 (0,0)):=by
  rw[gI.block b aX (λe=>aP e.symm)];exact HK.out
 have d0:=ae aL 0;have d1:=ae aL 1;have f1:=Lib.frozen_of_heap aL 1;have bA:Hid (Below B w w2/\Lib.OthersKept 5 (AI b) w w2):=(show _/\_ from⟨aC.lv.grown gI (by omega) (λk hk=>(HO.out.lt k hk).1),aC.oth.grown gI (AM HO.out)⟩);have HKQ:Hid (Kq _ _ _):=aC.kq.trans (Kq.step HK.out aL (λk hk eJ=>gI.block k hk eJ) (cA.imp id (λe k hk=>by rw[e] at hk;simp at hk;omega))) Gm;have rm:Hid _:=aL;have ja:Hid (w2.ownsRow B 5 1 v' (bs++Ow s).length (bs++Ow s)):=(show M2 _ _ _ _ _ _ _ by simpa[Lib.strCells_length] using uF);obtain⟨ao,n',cap,hv⟩:∃ao n' cap,v'=J ao n' cap:=by
  rcases uF.2 with⟨hv,_⟩|⟨g,cap,cur,hv,_⟩
  .exact⟨_,_,_,hv⟩
  .exact⟨_,_,_,hv⟩
 subst hv;clear uF gI aL c0 c1 aC cA;go_wp2_with fail;go_ret2;refine⟨rfl,?_,?_⟩
 .exact Lib.BuilderAt.put (T:=262) (e:=5) hB rm.out (bs':=bs++Ow s) ja.out (by decide)
 .exact⟨bA.out.1.setCell (p:=⟨b,1,be⟩) hB _,bA.out.2.setCell ⟨b,1,be⟩ rfl _,HKQ.out⟩
end Go.Proofs.YtbfghimjdlpicaaGreatDoor
