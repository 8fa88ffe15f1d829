import Derived.Test.YtfidjlcdlakceaaGreatDoorProg
import Derived.WalkSpells
import Derived.WalkLawsBesides
import Derived.Lib.AppendZerosOnto
import Derived.Lib.Overlaps
import Derived.Lib.QuietBelow
import Derived.Shelf.Strings.OnBuilder
import Derived.Shelf.Small.Strs
import Derived.Shelf.Strconv.Clone
import Derived.Shelf.Strings.Shaped
import Derived.Shelf.Strings.SplitShaped
import Derived.Shelf.SlSortCmp.NoneTotal
import Derived.Shelf.Slices.Turned
import Derived.Shelf.SlicesE.DeleteFunc
import Derived.Shelf.Utf8.RuneCount
import Derived.Shelf.Strings.Explode
import Derived.Shelf.Unicode.DecodeAny
import Derived.Shelf.Slices.Clone
import Derived.Shelf.Slices.SearchI
import Derived.Shelf.SlicesE.Clone
import Derived.Lib.SmallJoins
set_option maxHeartbeats 1600000
open Go.Proofs.Tryz renaming prog→be,underlying3→Iz,isAgg3→JX,sizeOf3→JI,zeroValue3→JN,underlying4→Jg,isAgg4→Oq,sizeOf4→Od,zeroValue4→JO,underlying5→Jm,isAgg5→Qj,sizeOf5→O3,zeroValue5→Ot,underlying9→Iv,isAgg9→J9,sizeOf9→JT,zeroValue9→JZ,underlying192→Oz,isAgg192→Qr,sizeOf192→Qb,zeroValue192→OF,underlying260→OA,isAgg260→Qs,sizeOf260→Qc,zeroValue260→OG,underlying294→Uf,underlying0→J3,isAgg0→O4,sizeOf0→OL,zeroValue0→Oe,underlying111→Jn,isAgg111→QF,sizeOf111→Qw,zeroValue111→O0
open Go.Ending renaming returned→sh
open Go.Value renaming bool→AT,int→O,string→I,slice→U,tuple→Il
open List renaming getElem_mem→IQ,length_drop→Jl,length_take→IA,size_toArray→OZ,length_append→Ij,append_assoc→Jf,all_eq_true→J2,getElem_of_mem→Jp,getD→Io,getElem?_eq_getElem→Ic,mem_cons_self→JJ,mem_cons_of_mem→Oh,cons_append→OM,length_cons→I5,mem_cons→Jr,take_succ_cons→QY
open Go.IntKind renaming i64→J
open Bool renaming eq_iff_iff→JM,and_eq_true→IJ
open Go renaming maxLen→Ii,TypeId→I8,heap_alloc_new→Ie,redrawn→Ix
open Nat renaming zero_le→IF,le_refl→By,mul_le_mul_right→OU,not_lt_zero→IP,lt_succ_iff_lt_or_eq→II
open Option renaming none→Y,some→Z
open Go.Op renaming bytesLess→IU
open UInt8 renaming lt_iff_toNat_lt→J8
open Go.Lib renaming compareBytes→Jy,toList_data→Jb,indexByte→JE
open Go.Obj renaming cells→AI
open Go.Builtin renaming copy_→QE
open Array renaming length_toList→Jh,getElem?_eq_some_iff→Ib
open Go.Shelf renaming Ren→On
open ByteArray renaming empty→If,size→JP,mk→O5
namespace Go.Proofs.YtfidjlcdlakceaaGreatDoor
open Go.RowKit
abbrev aT(f:Nat)(a:Array Value)(w:World)(p:Ending->World->Prop):Prop:=Calls be f a w p
abbrev ij(f:Nat)(a:Array Value)(w:World)(v:Value):Prop:=Calls be f a w λe w'=>e=sh v/\Below w.heap.size w w'
def within(n a b:Int):Bool:=decide (a<=n)&&decide (n<=b)
def zZ(n:Int):Bool:=(decide (97<=n)&&decide (n<=122))||(decide (48<=n)&&decide (n<=57))||decide (n=45)||decide (n=95)
def aA(s:ByteArray):Bool:=decide (1<=s.size)&&decide (s.size<=30)&&s.data.toList.all (λc=>zZ c.toNat)
theorem az{a b:Bool}(h:a=b):sh (AT a)=sh (AT b):=by rw[h]
theorem aj{k:IntKind}{a b:Int}(h:a=b):sh (O k a)=sh (O k b):=by rw[h]
theorem DS(s:ByteArray)(k:Nat)(h:k<s.size):s.data.toList.take (k+1)=s.data.toList.take k++[s[k]]:=by
 rw[List.take_succ_eq_append_getElem (by simpa using h)];rfl
theorem xz(s:ByteArray)(k:Nat)(h:s.size<=k):s.data.toList.take k=s.data.toList:=
 List.take_of_length_le (by simpa using h)
theorem uN(s:ByteArray)(k:Nat)(h:k<s.size)(hk:(s.data.toList.take k).all (λc=>zZ c.toNat)=true)(hb:zZ (s[k].toNat:Int)=true) : (s.data.toList.take (k+1)).all (λc=>zZ c.toNat)=true:=by
 rw[DS s k h,List.all_append,hk];simp[hb]
theorem xA(s:ByteArray)(k:Nat)(h:k<s.size)(hb:zZ (s[k].toNat:Int)=false):aA s=false:=by
 have:s.data.toList.all (λc=>zZ c.toNat)=false:=by
  rw[List.all_eq_false];refine⟨s[k],?_,by simp[hb]⟩;exact IQ (l:=s.data.toList) (n:=k) (by simpa using h)
 simp[aA,this]
theorem bw(n a b:Int)(w:World) :
 Calls be 70 #[O J n,O J a,O J b] w λe w'=>e=sh (AT (within n a b))/\w'=w:=by
 go_enter Tryz.func70,Tryz.ntmps70;go_wp2;all_goals
  go_ret;exact⟨az (by unfold within;rw[JM];simp;try omega),rfl⟩
theorem cj(n a b:Int)(w:World) :
 Calls be 82 #[O J n,O J a,O J b] w λe w'=>e=sh (AT (within n a b))/\w'=w:=by
 go_enter Tryz.func82,Tryz.ntmps82;go_wp2;all_goals
  go_ret;exact⟨az (by unfold within;rw[JM];simp;try omega),rfl⟩
theorem dG(n:Int)(w:World) :
 Calls be 44 #[O J n] w λe w'=>e=sh (AT (within n 0 4294967295))/\w'=w:=by
 go_enter Tryz.func44,Tryz.ntmps44;go_wp2_with (go_at_call 70;refine(bw _ _ _ _).mono ?_;rintro e w' ⟨rfl,rfl⟩);go_ret;exact⟨rfl,rfl⟩
theorem bW(n:Int)(w:World) :
 Calls be 85 #[O J n] w λe w'=>e=sh (AT (within n 0 4294967295))/\w'=w:=by
 go_enter Tryz.func85,Tryz.ntmps85;go_wp2_with (go_at_call 82;refine(cj _ _ _ _).mono ?_;rintro e w' ⟨rfl,rfl⟩);go_ret;exact⟨rfl,rfl⟩
theorem mI(n:Int)(w:World) :
 Calls be 118 #[O .u8 n] w λe w'=>e=sh (AT (zZ n))/\w'=w:=by
 go_enter Tryz.func118,Tryz.ntmps118;go_wp2;all_goals
  go_ret;exact⟨az (by unfold zZ;rw[JM];simp;try omega),rfl⟩
theorem aW(s:ByteArray)(w:World)(hs:s.size<=Ii) :
 Calls be 65 #[I s] w λe w'=>e=sh (AT (aA s))/\w'=w:=by
 unfold Ii at hs;by_cases hz:within (s.size:Int) 1 30=true
 .have RM:1<=s.size/\s.size<=30:=by simp[within] at hz;omega
  go_enter Tryz.func65,Tryz.ntmps65;go_wp2_with (go_at_call 70;refine(bw _ _ _ _).mono ?_;rintro e w' ⟨rfl,rfl⟩;rw[hz]);go_loop [10] (λi=>∃k:Nat,k<=s.size/\i=O J k/\(s.data.toList.take k).all (λc=>zZ c.toNat)=true) (λi=>s.size-(intOf i).toNat)
  case atStart=>exact⟨0,IF _,rfl,rfl⟩
  case round=>
   obtain⟨k,hk,rfl,cX⟩:=hrel;have HA:Hid _:=cX;clear cX;by_cases aB:k<s.size
   .by_cases hb:zZ (s[k].toNat:Int)=true
    .go_wp2_with (go_at_call 118;refine(mI _ _).mono ?_;rintro e w' ⟨rfl,rfl⟩;rw[hb])
     go_round
     case rel=>exact⟨k+1,by omega,by go_num,uN s k aB HA.out hb⟩
     case measure=>simp[intOf];omega
    .have Hi:zZ (s[k].toNat:Int)=false:=by simpa using hb
     go_wp2_with (go_at_call 118;refine(mI _ _).mono ?_;rintro e w' ⟨rfl,rfl⟩;rw[Hi]);go_ret;exact⟨az (xA s k aB Hi).symm,rfl⟩
   .go_wp2
    go_ret;have h2:=HA.out;rw[xz s k (by omega)] at h2;exact⟨az (by simp[aA,h2,RM.1,RM.2]),rfl⟩
 .have RM:within (s.size:Int) 1 30=false:=by simpa using hz
  go_enter Tryz.func65,Tryz.ntmps65;go_wp2_with (go_at_call 70;refine(bw _ _ _ _).mono ?_;rintro e w' ⟨rfl,rfl⟩;rw[RM]);go_ret;refine⟨az ?_,rfl⟩;symm;simp only[within,Bool.and_eq_false_iff,decide_eq_false_iff_not] at RM;simp only[aA,Bool.and_eq_false_iff,decide_eq_false_iff_not];rcases RM with h|h
  .exact .inl (.inl (by omega))
  .exact .inl (.inr (by omega))
theorem Cm(n:Int):zZ n=true↔(97<=n/\n<=122)\/(48<=n/\n<=57)\/n=45\/n=95:=by
 unfold zZ;simp[or_assoc]
theorem Nq(n:Int):zZ n=false↔¬ ((97<=n/\n<=122)\/(48<=n/\n<=57)\/n=45\/n=95):=by
 rw[<- Cm];simp
theorem aN(s:ByteArray)(w:World)(hs:s.size<=Ii) :
 Calls be 33 #[I s] w λe w'=>e=sh (AT (aA s))/\w'=w:=by
 unfold Ii at hs;go_enter Tryz.func33,Tryz.ntmps33;go_wp2;go_loop [3] (λi=>∃k:Nat,k<=s.size/\i=O J k/\(s.data.toList.take k).all (λc=>zZ c.toNat)=true) (λi=>s.size-(intOf i).toNat)
 case atStart=>exact⟨0,IF _,rfl,rfl⟩
 case round=>
  obtain⟨k,hk,rfl,cX⟩:=hrel;have HA:Hid _:=cX;clear cX;by_cases aB:k<s.size
  .have RN:=uN s k aB HA.out
   have DT:=xA s k aB;have H1:Hid _:=RN;have H2:Hid _:=DT;clear RN DT;go_wp2;all_goals first
    |(go_ret
      exact⟨az (H2.out ((Nq _).2 (by simp at *;omega))).symm,rfl⟩)
    |(refine⟨⟨k+1,by omega,by go_num,H1.out ((Cm _).2 ?_)⟩,by simp[intOf];omega⟩
      simp at *;omega)
  .have h2:=HA.out
   rw[xz s k (by omega)] at h2;have H3:Hid _:=h2;clear h2;go_wp2;all_goals
    go_ret;refine⟨az ?_,rfl⟩;unfold aA;rw[H3.out,JM];simp;try omega
theorem cD{W w1:World}(hb:Below W.heap.size W w1):(∀b o,b<W.heap.size->w1.cell? ⟨b,o,Y⟩=W.cell? ⟨b,o,Y⟩)/\(∀b o,b<W.heap.size->w1.frozen? ⟨b,o,Y⟩=W.frozen? ⟨b,o,Y⟩):=
 ⟨λb o h=>hb.cell (p:=⟨b,o,Y⟩) h,λb o h=>hb.frozen (p:=⟨b,o,Y⟩) h⟩
def less(a b:ByteArray):Bool:=IU a.toList b.toList
theorem uO:∀a:List UInt8,IU a a=false
 |[]=>rfl
 |x::r=>by simp[IU,uO r]
theorem gF:∀a b:List UInt8,(!(IU a b))=(IU b a||b==a)
 |[],[]=>rfl
 |[],_::_=>rfl
 |_::_,[]=>rfl
 |x::r,y::t=>by
  have:=gF r t;by_cases h1:x<y
  .have h2:¬ y<x:=by rw[J8] at *;omega
   have h3:¬ y=x:=by rintro rfl;rw[J8] at *;omega
   simp[IU,h1,h2,h3]
  .by_cases h2:y<x
   .have h3:¬ y=x:=by rintro rfl;rw[J8] at *;omega
    have h4:¬ x=y:=λh=>h3 h.symm;simp[IU,h1,h2,h4]
   .have h3:y=x:=by
     apply UInt8.toNat_inj.1;rw[J8] at *;omega
    subst h3;simp[IU];simpa using this
def bl(a b:ByteArray):Int:=Jy a.data.toList b.data.toList
theorem uf(a b:ByteArray)(w:World):(callFunc 229 #[I a,I b]).run be w=.ok (.value (O J (bl a b))) w:=by
 rw[run_callFunc_extern Tryz.func229 (by kernel_rfl) (by kernel_rfl) (by kernel_rfl) (e:=Extern.BytealgCompare.compare) (by kernel_rfl),Lib.run_compareString];rfl
theorem fC(a b:ByteArray)(w:World) :
 Calls be 110 #[I a,I b] w λe w'=>e=sh (O J (bl a b))/\w'=w:=by
 have hc:=uf;go_enter Tryz.func110,Tryz.ntmps110;go_wp2;go_ret;exact⟨rfl,rfl⟩
theorem RO:∀a b:List UInt8,Jy a b<0↔IU a b=true
 |[],[]=>by simp[Jy,IU]
 |[],_::_=>by simp[Jy,IU]
 |_::_,[]=>by simp[Jy,IU]
 |x::r,y::t=>by
  have ih:=RO r t;by_cases h1:x<y
  .simp[Jy,IU,h1]
  .by_cases h2:y<x
   .have h3:¬ x=y:=by rintro rfl;exact h1 h2
    simp[Jy,IU,h1,h2,h3]
   .have h3:x=y:=by
     apply UInt8.toNat_inj.1;rw[J8] at *;omega
    subst h3;simpa[Jy,IU] using ih
theorem RP:∀a b:List UInt8,Jy a b=0↔a=b
 |[],[]=>by simp[Jy]
 |[],_::_=>by simp[Jy]
 |_::_,[]=>by simp[Jy]
 |x::r,y::t=>by
  have ih:=RP r t;by_cases h1:x<y
  .have h3:¬ x=y:=by rintro rfl;rw[J8] at *;omega
   simp[Jy,h1,h3]
  .by_cases h2:y<x
   .have h3:¬ x=y:=by rintro rfl;exact h1 h2
    simp[Jy,h1,h2,h3]
   .have h3:x=y:=by
     apply UInt8.toNat_inj.1;rw[J8] at *;omega
    subst h3;simpa[Jy] using ih
theorem xB:∀a b c:List UInt8,IU a b=true->IU b c=true->IU a c=true
 |[],[],_,h,_=>by simp[IU] at h
 |[],_::_,[],_,h=>by simp[IU] at h
 |[],_::_,_::_,_,_=>by simp[IU]
 |_::_,[],_,h,_=>by simp[IU] at h
 |_::_,_::_,[],_,h=>by simp[IU] at h
 |x::r,y::t,z::u,h1,h2=>by
  have ih:=xB r t u;simp only[IU,Bool.or_eq_true,IJ,decide_eq_true_eq,beq_iff_eq] at h1 h2 ⊢;rcases h1 with h1|⟨rfl,h1⟩
  .rcases h2 with h2|⟨rfl,h2⟩
   .left;rw[J8] at *;omega
   .left;exact h1
  .rcases h2 with h2|⟨rfl,h2⟩
   .left;exact h2
   .right;exact⟨rfl,ih h1 h2⟩
theorem jq{a b:ByteArray}(h:a.data.toList=b.data.toList):a=b:=by
 obtain⟨⟨la⟩⟩:=a;obtain⟨⟨lb⟩⟩:=b;simp at h;subst h;rfl
theorem dx(a b:ByteArray):bl a b<0↔less a b=true:=by
 unfold bl less;rw[Jb,Jb];exact RO _ _
theorem cK(a b:ByteArray):bl a b=0↔a=b:=by
 unfold bl;rw[RP];exact⟨jq,λh=>by rw[h]⟩
theorem fp{a b c:ByteArray}(h1:less a b=true)(h2:less b c=true):less a c=true:=xB _ _ _ h1 h2
theorem iZ(a:ByteArray):less a a=false:=uO _
theorem Al(a b:ByteArray):less a b=true\/a=b\/less b a=true:=by
 have h:=gF a.toList b.toList;unfold less;cases h1:IU a.toList b.toList
 .rw[h1] at h
  cases h2:IU b.toList a.toList
  .rw[h2] at h
   right;left
   have:b.toList=a.toList:=by simpa using h.symm
   rw[Jb,Jb] at this;exact(jq this).symm
  .right;right;rfl
 .left;rfl
theorem rW{a b:ByteArray}(h1:less a b=true):less b a=false:=by
 cases h:less b a
 .rfl
 .have:=fp h1 h;rw[iZ] at this;cases this
theorem rz(a b:ByteArray):0<bl a b↔less b a=true:=by
 have h1:=dx a b;have h2:=cK a b;rcases Al a b with h|rfl|h
 .have:=h1.2 h
  rw[rW h];simp;omega
 .rw[iZ];have:=h2.2 rfl;simp;omega
 .rw[h]
  have h3:¬ bl a b<0:=λhh=>by rw[h1,rW h] at hh;cases hh
  have h4:¬ bl a b=0:=λhh=>by rw[h2] at hh;subst hh;rw[iZ] at h;cases h
  simp;omega
theorem j1{P:Program}(w:World)(dT sT ty elem:I8)(g o Ts aej:Nat)(a:Addr)(Tt aek k:Nat)(cur:Array Value)(t:I8)(cs:List Value)(hu:P.underlying dT=Z (.slice elem))(hs:(P.info? elem).map (·.size)=Z k)(hg:w.heap[g]?=Z (AI cur t (0,0)))(hn:cs.length=Nat.min Tt Ts*k)(ael:∀j v,cs[j]?=Z v->w.cell? (a.add j)=Z v)(aem:o+cs.length<=cur.size)(h1:∀v∈cs,v.oneCell'=true) : (QE #[dT,sT] ty #[U (Z ⟨g,o,Y⟩) Ts aej,U (Z a) Tt aek]).run P w =
   .ok (goInt (Nat.min Tt Ts)) (w.setRow g (cur.toList.take o++cs++cur.toList.drop (o+cs.length)).toArray):=by
 have hl:=run_loadCells_list (P:=P) w a cs ael;have rX:=run_storeCells_at P g o t cs 0 cur w hg (by simpa using aem) h1;cases hq:P.info? elem with
 |none=>simp[hq] at hs
 |some i=>
  have hi:i.size=k:=by simpa[hq] using hs
  simp[QE,run_underlying hu,Builtin.lenOf,Builtin.firstCells,sizeOf,typeInfo,hq,hi,<- hn,hl,rX]
theorem kW{P:Program}{ops:Array Oper}{o:Oper}{a:Act}{w:World}{K:Act->World->Prop}{Q:Exit->Act->World->Prop}{E:Prop}(hg:o.guard=Y)(d x:Operand)(dT sT:I8)(hop:o.op=Op.call { callee:=Callee.builtin Builtin.copy,args:=#[d,x],argTypes:=#[dT,sT] })
 (v u:Value) (hd:a.eval d=v) (hx:a.eval x=u) {v':Value} {w':World} (hr:(QE #[dT,sT] o.type #[v,u]).run P w=.ok v' w') (hK:K (a.put o.dst v') w') :
 if Region.wanted o (yielded ops a.tmps)=true then Oper.wp P o a w K Q else E:=by
 have hw:Region.wanted o (yielded ops a.tmps)=true:=by simp[Region.wanted,hg]
 rw[if_pos hw];unfold Oper.wp;simp[execOp,hop,resolve,invoke,builtin,hd,hx,hr,Result.andThen];exact hK
theorem af{w:World}{g:Nat}{cur:Array Value}{t:I8}{fr:Nat×Nat}(hg:w.heap[g]?=Z (AI cur t fr))(o:Nat):w.cell? ⟨g,o,Y⟩=cur[o]?:=by
 simp[World.cell?,hg]
theorem eJ{a b:ByteArray}(h:a≠b):(a.toList==b.toList)=false/\¬ a.toList=b.toList:=by
 have h2:¬ a.toList=b.toList:=λe=>h (jq (by rw[Jb,Jb] at e;exact e));exact⟨by simpa using h2,h2⟩
theorem dF{W:World}{cs:Array Value}{t:I8}{g k:Nat}(hg:g=W.heap.size):(W.alloc (AI cs t)).cell? ⟨g,k,Y⟩=cs[k]?:=by subst hg;simp
theorem DU{w w':World}(h:w.grownBy w' Y)(row:Option Nat):w.grownBy w' row:=⟨h.os,h.tape,h.output,h.size,λk hk _=>h.block k hk (by simp)⟩
theorem eC(w:World)(A:Array Value)(T:I8):∃W,W=w.alloc (AI A T)/\Below w.heap.size w W/\W.heap.size=w.heap.size+1/\W.heap[w.heap.size]?=Z (AI A T (0,0)):=⟨_,rfl,(Below.refl _ _).alloc (By _) _,by simp,Ie w _⟩
theorem cA{P:Program}{ops:Array Oper}{C:World->Prop}{R:Act->World->Prop}{w:World}{a:Act}(h:∀d os,Hid (Below w.heap.size w (Go.Sort.grow (Ix w d) os))->R a (Go.Sort.grow (Ix w d) os)):wpQuiet P ops C (λa=>∀w',(∃p:Regrown,w'=Go.Sort.grow (Ix w p.d) p.os)->R a w') [] a:=wpQuiet_nil (λ_ ⟨p,e⟩=>e▸h p.d p.os (below_regrown w p.d p.os))
section
variable {P:Program} {S T:TypeId} {k:Nat}
theorem Hj{w:World}{g i n:Nat}{cur:Array Value}(hg:w.heap[g]?=Z (AI cur T (0,0))):∀j v,((cur.toList.take n).drop i)[j]?=Z v->w.cell? ((⟨g,i,Y⟩:Addr).add j)=Z v:=λj v hj=>by
 rw[show w.cell? ((⟨g,i,Y⟩:Addr).add j)=cur[i+j]? by rw[Addr.add_lit];exact af hg _];rw[List.getElem?_drop,List.getElem?_take] at hj;split at hj
 .simpa using hj
 .cases hj
theorem Hk(hu:P.underlying S=Z (.slice T))(bb:(P.info? T).map (·.size)=Z k){g n c i vb:Nat}{cur:Array Value}{vs:List Value}{w:World}(hg:w.heap[g]?=Z (AI cur T (0,0)))(cJ:cur.size=c*k)(hi:i<n)(gG:n+1<=c)(RQ:vb≠g)(hv:w.heap[vb]?=Z (AI vs.toArray T (0,0)))(Am:vs.length=k)(GF:∀v∈cur.toList.take (n*k),v.oneCell'=true)(Hl:∀v∈vs,v.oneCell'=true) :
 ∃W1 W2,(∀ty dc sc,(QE #[S,S] ty #[U (Z ⟨g,(i+1)*k,Y⟩) (n-i) dc,U (Z ⟨g,i*k,Y⟩) (n+1-i) sc]).run P w.drew=.ok (goInt (Nat.min (n+1-i) (n-i))) W1) /\
  (∀ty dc,(QE #[S,S] ty #[U (Z ⟨g,i*k,Y⟩) (n+1-i) dc,U (Z ⟨vb,0,Y⟩) 1 1]).run P W1=.ok (goInt (Nat.min 1 (n+1-i))) W2) /\
  ∃kX:Array Value,W2.heap[g]?=Z (AI kX T (0,0))/\kX.size=c*k/\kX.toList.take ((n+1)*k)=cur.toList.take (i*k)++vs++(cur.toList.take (n*k)).drop (i*k)/\w.grownBy W2 (Z g):=by
 have m1:(i+1)*k=i*k+k:=Nat.succ_mul i k;have m2:(n+1)*k=n*k+k:=Nat.succ_mul n k;have m3:i*k<=n*k:=OU k (by omega);have m4:(n+1)*k<=c*k:=OU k gG;have m5:(n-i)*k=n*k-i*k:=Nat.sub_mul n i k;have Nr:((cur.toList.take (n*k)).drop (i*k)).length=(n-i)*k:=by
  simp only[Jl,IA,Jh];omega
 have hX1:∀v∈(cur.toList.take (n*k)).drop (i*k),v.oneCell'=true:=λv hv=>GF v (List.mem_of_mem_drop hv);have hXs:=Hj (w:=w.drew) (i:=i*k) (n:=n*k) hg;generalize hX:(cur.toList.take (n*k)).drop (i*k)=X at *;obtain⟨C1,RU⟩:∃C1:Array Value,C1=(cur.toList.take ((i+1)*k)++X++cur.toList.drop ((i+1)*k+X.length)).toArray:=⟨_,rfl⟩;obtain⟨W1,gA⟩:∃W1,W1=w.drew.setRow g C1:=⟨_,rfl⟩;have bf:W1.heap[g]?=Z (AI C1 T (0,0)):=by rw[gA];exact setRow_heap w.drew g cur C1 T (0,0) hg
 have uP:∀q,q≠g->W1.heap[q]?=w.heap[q]?:=λq hq=>by rw[gA,setRow_other w.drew g q C1 hq];rfl
 have Tu:W1.heap[vb]?=Z (AI vs.toArray T (0,0)):=by rw[uP vb RQ];exact hv
 have gi:C1.size=c*k:=by
  rw[RU];simp only[OZ,Ij,IA,Jl,Jh,Nr,cJ];omega
 obtain⟨C2,Tv⟩:∃C2:Array Value,C2=(C1.toList.take (i*k)++vs++C1.toList.drop (i*k+vs.length)).toArray:=⟨_,rfl⟩;obtain⟨W2,eW⟩:∃W2,W2=W1.setRow g C2:=⟨_,rfl⟩;refine⟨W1,W2,λty dc sc=>?_,λty dc=>?_,C2,by rw[eW];exact setRow_heap W1 g C1 C2 T (0,0) bf,?_,?_,⟨by rw[eW,gA];rfl,by rw[eW,gA];rfl,by rw[eW,gA];rfl,by rw[eW,gA];simp[World.setRow],λq _ hq=>?_⟩⟩
 .rw[gA,RU]
  exact j1 w.drew S S ty T g ((i+1)*k) (n-i) dc ⟨g,i*k,Y⟩ (n+1-i) sc k cur T X hu bb hg (by rw[Nr];congr 1;simp only[Nat.min_def];split<;>omega) hXs (by rw[Nr,cJ];omega) hX1
 .rw[eW,Tv]
  exact j1 W1 S S ty T g (i*k) (n+1-i) dc ⟨vb,0,Y⟩ 1 1 k C1 T vs hu bb bf (by rw[Am,show Nat.min 1 (n+1-i)=1 by simp only[Nat.min_def];split<;>omega,Nat.one_mul]) (λj v hj=>by rw[Addr.add_lit,af Tu];simpa using hj) (by rw[Am,gi];omega) Hl
 .rw[Tv];simp only[OZ,Ij,IA,Jl,Jh,Am,gi];omega
 .have e1:C1.toList.take (i*k)=cur.toList.take (i*k):=by
   rw[RU];simp only[Jf];rw[List.take_append_of_le_length (by simp only[IA,Jh,cJ];omega),List.take_take];congr 1;omega
  have e2:C1.toList.drop (i*k+vs.length)=X++cur.toList.drop ((i+1)*k+X.length):=by
   rw[RU];simp only[Jf];rw[List.drop_append_of_le_length (by simp only[IA,Jh,cJ];omega),List.drop_of_length_le (by simp only[IA,Jh,cJ];omega),List.nil_append]
  rw[Tv,e1,e2];simp only[Jf];rw[<- Jf vs,<- Jf (List.take (i*k) cur.toList)];exact List.take_left' (by simp only[Ij,IA,Jh,cJ,Am,Nr];omega)
 .have hq':q≠g:=λe=>hq (by rw[e])
  rw[eW,setRow_other W1 g q C2 hq',uP q hq']
theorem Hn(hu:P.underlying S=Z (.slice T))(bb:(P.info? T).map (·.size)=Z k){g c i vb G:Nat}{cur Aa:Array Value}{vs:List Value}{w:World}(hg:w.heap[g]?=Z (AI cur T (0,0)))(cJ:cur.size=c*k)(hi:i<c)(hv:w.heap[vb]?=Z (AI vs.toArray T (0,0)))(Am:vs.length=k)(GF:∀v∈cur.toList.take (c*k),v.oneCell'=true)(Hl:∀v∈vs,v.oneCell'=true)(rA:c+1<=G)(Tw:Aa.size=G*k)(hRt:Aa.toList.take (i*k)=cur.toList.take (i*k)) :
 ∃W2 W3,(∀ty dc,(QE #[S,S] ty #[U (Z ⟨w.heap.size,i*k,Y⟩) (c+1-i) dc,U (Z ⟨vb,0,Y⟩) 1 1]).run P ((w.alloc (AI Aa T)).drew)=.ok (goInt (Nat.min 1 (c+1-i))) W2) /\
  (∀ty dc sc,(QE #[S,S] ty #[U (Z ⟨w.heap.size,(i+1)*k,Y⟩) (c-i) dc,U (Z ⟨g,i*k,Y⟩) (c-i) sc]).run P W2.drew=.ok (goInt (Nat.min (c-i) (c-i))) W3) /\
  ∃kX:Array Value,W3.heap[w.heap.size]?=Z (AI kX T (0,0))/\kX.size=G*k/\kX.toList.take ((c+1)*k)=cur.toList.take (i*k)++vs++(cur.toList.take (c*k)).drop (i*k)/\w.grownBy W3 Y:=by
 have mA:g<w.heap.size:=(Ib.1 hg).1;have hvw:vb<w.heap.size:=(Ib.1 hv).1;have m1:(i+1)*k=i*k+k:=Nat.succ_mul i k;have m2:(c+1)*k=c*k+k:=Nat.succ_mul c k;have m3:i*k<=c*k:=OU k (by omega);have m4:(c+1)*k<=G*k:=OU k rA;have m5:(c-i)*k=c*k-i*k:=Nat.sub_mul c i k;obtain⟨W1,gA⟩:∃W1,W1=(w.alloc (AI Aa T)).drew:=⟨_,rfl⟩;rw[<- gA];have bf:W1.heap[w.heap.size]?=Z (AI Aa T (0,0)):=by rw[gA];exact Ie w _
 have uP:∀q,q<w.heap.size->W1.heap[q]?=w.heap[q]?:=λq hq=>by rw[gA];exact Below.heap_alloc w _ q hq
 have Tu:W1.heap[vb]?=Z (AI vs.toArray T (0,0)):=by rw[uP vb hvw];exact hv
 obtain⟨C1,RU⟩:∃C1:Array Value,C1=(Aa.toList.take (i*k)++vs++Aa.toList.drop (i*k+vs.length)).toArray:=⟨_,rfl⟩;obtain⟨W2,eW⟩:∃W2,W2=W1.setRow w.heap.size C1:=⟨_,rfl⟩;have iQ:W2.drew.heap[w.heap.size]?=Z (AI C1 T (0,0)):=by rw[eW];exact setRow_heap W1 w.heap.size Aa C1 T (0,0) bf
 have ky:∀q,q<w.heap.size->W2.drew.heap[q]?=w.heap[q]?:=λq hq=>by
  have:=setRow_other W1 w.heap.size q C1 (by omega);rw[<- eW] at this;exact this.trans (uP q hq)
 have gi:C1.size=G*k:=by
  rw[RU];simp only[OZ,Ij,IA,Jl,Jh,Am,Tw];omega
 have Nr:((cur.toList.take (c*k)).drop (i*k)).length=(c-i)*k:=by
  simp only[Jl,IA,Jh];omega
 have hX1:∀v∈(cur.toList.take (c*k)).drop (i*k),v.oneCell'=true:=λv hv=>GF v (List.mem_of_mem_drop hv);have hXs:=Hj (w:=W2.drew) (i:=i*k) (n:=c*k) ((ky g mA).trans hg);generalize hX:(cur.toList.take (c*k)).drop (i*k)=X at *;obtain⟨C2,Tv⟩:∃C2:Array Value,C2=(C1.toList.take ((i+1)*k)++X++C1.toList.drop ((i+1)*k+X.length)).toArray:=⟨_,rfl⟩;obtain⟨W3,lR⟩:∃W3,W3=W2.drew.setRow w.heap.size C2:=⟨_,rfl⟩;refine⟨W2,W3,λty dc=>?_,λty dc sc=>?_,C2,by rw[lR];exact setRow_heap W2.drew w.heap.size C1 C2 T (0,0) iQ,?_,?_,⟨by rw[lR,eW,gA];rfl,by rw[lR,eW,gA];rfl,by rw[lR,eW,gA];rfl,by rw[lR,eW,gA];simp[World.setRow],λq hq _=>by rw[lR,setRow_other W2.drew w.heap.size q C2 (by omega),ky q hq]⟩⟩
 .rw[eW,RU]
  exact j1 W1 S S ty T w.heap.size (i*k) (c+1-i) dc ⟨vb,0,Y⟩ 1 1 k Aa T vs hu bb bf (by rw[Am,show Nat.min 1 (c+1-i)=1 by simp only[Nat.min_def];split<;>omega,Nat.one_mul]) (λj v hj=>by rw[Addr.add_lit,af Tu];simpa using hj) (by rw[Am,Tw];omega) Hl
 .rw[lR,Tv]
  exact j1 W2.drew S S ty T w.heap.size ((i+1)*k) (c-i) dc ⟨g,i*k,Y⟩ (c-i) sc k C1 T X hu bb iQ (by rw[Nr];congr 1;simp only[Nat.min_def];split<;>omega) hXs (by rw[Nr,gi];omega) hX1
 .rw[Tv];simp only[OZ,Ij,IA,Jl,Jh,Nr,gi];omega
 .have e1:C1.toList.take ((i+1)*k)=cur.toList.take (i*k)++vs:=by
   rw[RU,hRt];exact List.take_left' (by simp only[Ij,IA,Jh,cJ,Am];omega)
  rw[Tv,e1];exact List.take_left' (by simp only[Ij,IA,Jh,cJ,Am,Nr];omega)
end
end Go.Proofs.YtfidjlcdlakceaaGreatDoor
namespace Go.Proofs
open Go.Shelf
def Tryz.xC:On:=⟨fun|125=>159|128=>215|129=>216|n=>n,fun|46=>192|3=>3|51=>260|53=>262|4=>4|5=>5|9=>9|n=>n,fun|n=>n⟩
theorem Tryz.Ns:Go.Proofs.Lays.n125 be Tryz.xC:={
 mixed:=by kernel_rfl
 f125:=Tryz.func159.trans (congrArg Z (by kernel_rfl))
 f128:=Tryz.func215.trans (congrArg Z (by kernel_rfl))
 f129:=Tryz.func216.trans (congrArg Z (by kernel_rfl))
 t3:=Iz
 a3:=JX
 z3:=JI
 v3:=JN
 t4:=Jg
 a4:=Oq
 z4:=Od
 v4:=JO
 t5:=Jm
 a5:=Qj
 z5:=O3
 v5:=Ot
 t9:=Iv
 a9:=J9
 z9:=JT
 v9:=JZ
 t46:=Oz
 a46:=Qr
 z46:=Qb
 v46:=OF
 t51:=OA
 a51:=Qs
 z51:=Qc
 v51:=OG
 t53:=Tryz.underlying262
 a53:=Tryz.isAgg262
 z53:=Tryz.sizeOf262
 v53:=Tryz.zeroValue262 }
theorem Tryz.bits_Len(x:Int)(w:World)(h0:0<=x)(h1:x<=18446744073709551615) :
 Calls be 159 #[O .u64 x] w λe w'=>e=sh (O J (Lib.bitLen x.toNat))/\w'=w:=Any.bits_Len Tryz.Ns x w h0 h1
def Tryz.xD:On:=⟨fun|219=>170|217=>233|225=>234|224=>235|267=>236|266=>261|314=>262|n=>n,fun|9=>9|3=>3|4=>4|5=>5|46=>192|146=>294|51=>260|n=>n,fun|1=>0|n=>n⟩
theorem Tryz.Nt:Go.Proofs.Lays.n219 be Tryz.xD:={
 mixed:=by kernel_rfl
 f217:=Tryz.func233.trans (congrArg Z (by kernel_rfl))
 f219:=Tryz.func170.trans (congrArg Z (by kernel_rfl))
 f224:=Tryz.func235.trans (congrArg Z (by kernel_rfl))
 f225:=Tryz.func234.trans (congrArg Z (by kernel_rfl))
 f266:=Tryz.func261.trans (congrArg Z (by kernel_rfl))
 f267:=Tryz.func236.trans (congrArg Z (by kernel_rfl))
 f314:=Tryz.func262.trans (congrArg Z (by kernel_rfl))
 t3:=Iz
 a3:=JX
 z3:=JI
 v3:=JN
 t4:=Jg
 a4:=Oq
 z4:=Od
 v4:=JO
 t5:=Jm
 a5:=Qj
 z5:=O3
 v5:=Ot
 t9:=Iv
 a9:=J9
 z9:=JT
 v9:=JZ
 t46:=Oz
 a46:=Qr
 z46:=Qb
 v46:=OF
 t51:=OA
 a51:=Qs
 z51:=Qc
 v51:=OG
 t146:=Uf
 a146:=Tryz.isAgg294
 z146:=Tryz.sizeOf294
 v146:=Tryz.zeroValue294
 g1:=by kernel_rfl }
open Go.RowKit Go.Lib in
theorem Tryz.stringslite_Index_one(s:ByteArray)(c:UInt8)(w:World) :
 Calls be 170 #[I s,I ⟨#[c]⟩] w λe w'=>e=sh (O J (JE s.data.toList c))/\w'=w:=Any.stringslite_Index_one Tryz.Nt s c w
def Tryz.xE:On:=⟨fun|138=>67|195=>120|218=>121|143=>122|219=>170|217=>233|225=>234|224=>235|267=>236|266=>261|314=>262|n=>n,fun|9=>9|3=>3|4=>4|5=>5|0=>0|46=>192|146=>294|51=>260|n=>n,fun|1=>0|n=>n⟩
theorem Tryz.Nu:Go.Proofs.Lays.n138 be Tryz.xE:={
 mixed:=by kernel_rfl
 f138:=Tryz.func67.trans (congrArg Z (by kernel_rfl))
 f143:=Tryz.func122.trans (congrArg Z (by kernel_rfl))
 f195:=Tryz.func120.trans (congrArg Z (by kernel_rfl))
 f217:=Tryz.func233.trans (congrArg Z (by kernel_rfl))
 f218:=Tryz.func121.trans (congrArg Z (by kernel_rfl))
 f219:=Tryz.func170.trans (congrArg Z (by kernel_rfl))
 f224:=Tryz.func235.trans (congrArg Z (by kernel_rfl))
 f225:=Tryz.func234.trans (congrArg Z (by kernel_rfl))
 f266:=Tryz.func261.trans (congrArg Z (by kernel_rfl))
 f267:=Tryz.func236.trans (congrArg Z (by kernel_rfl))
 f314:=Tryz.func262.trans (congrArg Z (by kernel_rfl))
 t0:=J3
 a0:=O4
 z0:=OL
 v0:=Oe
 t3:=Iz
 a3:=JX
 z3:=JI
 v3:=JN
 t4:=Jg
 a4:=Oq
 z4:=Od
 v4:=JO
 t5:=Jm
 a5:=Qj
 z5:=O3
 v5:=Ot
 t9:=Iv
 a9:=J9
 z9:=JT
 v9:=JZ
 t46:=Oz
 a46:=Qr
 z46:=Qb
 v46:=OF
 t51:=OA
 a51:=Qs
 z51:=Qc
 v51:=OG
 t146:=Uf
 a146:=Tryz.isAgg294
 z146:=Tryz.sizeOf294
 v146:=Tryz.zeroValue294
 g1:=by kernel_rfl }
open Go.RowKit Go.Lib in
theorem Tryz.strings_Count_one(s:ByteArray)(c:UInt8)(w:World) :
 Calls be 67 #[I s,I ⟨#[c]⟩] w λe w'=>e=sh (O J (Lib.countByte s.data.toList c))/\w'=w:=Any.strings_Count_one Tryz.Nu s c w
end Go.Proofs
namespace Go.Proofs.YtfidjlcdlakceaaGreatDoor
open Go.RowKit
theorem mT(ss:List ByteArray)(b cap:Nat)(w:World)(hb:∀j,j<ss.length->w.cell? ⟨b,j,Y⟩=Z (I (ss.getD j If)))(hs:∀j,(ss.getD j If).size<=Ii)(hn:ss.length<=1000) :
 aT 43 #[U (Z ⟨b,0,Y⟩) ss.length cap] w λe w'=>e=sh (AT (ss.all aA))/\w'=w:=by
 have HB:Hid _:=hb;have HS:Hid _:=hs;have H0:Hid ((∀j,j<ss.length->aA (ss.getD j If)=true)->ss.all aA=true):=λh=>by
  rw[J2];intro x hx;obtain⟨j,hj,rfl⟩:=Jp hx;have:=h j hj;simpa[Io,Ic hj] using this
 have H1:Hid (∀j,j<ss.length->aA (ss.getD j If)=false->ss.all aA=false):=λj hj h=>by
  rw[List.all_eq_false];refine⟨ss[j],IQ hj,?_⟩;rw[show ss.getD j If=ss[j] by simp[Io,Ic hj]] at h;simp[h]
 clear hb hs;generalize ss.all aA=res at *;generalize hN:ss.length=n at *;clear hN;go_enter Tryz.func43,Tryz.ntmps43;go_wp2_with fail;go_loop [7] (λi=>∃k:Nat,k<=n/\i=O J k/\Hid (∀j,j<k->aA (ss.getD j If)=true)) (λi=>n-(intOf i).toNat)
 case atStart=>exact⟨0,IF _,rfl,λj h=>absurd h (IP _)⟩
 case round=>
  obtain⟨k,hk,rfl,hz⟩:=hrel;by_cases aB:k<n
  .have hc:=HB.out k aB
   have tT:=HS.out k;have HZ:Hid (aA (ss.getD k If)=true->∀j,j<k+1->aA (ss.getD j If)=true):=λh j hj=>by
    rcases II.1 hj with h2|rfl
    .exact hz.out j h2
    .exact h
   have HF:Hid (aA (ss.getD k If)=false->res=false):=λh=>H1.out k aB h;generalize ss.getD k If=s at *;rcases hl:aA s with _|_
   .have HR:Hid _:=HF.out hl
    go_wp2_with (go_at_call 65;refine(aW _ _ tT).mono ?_;rintro e w' ⟨rfl,rfl⟩;rw[hl]);go_ret;exact⟨az HR.out.symm,rfl⟩
   .go_wp2_with (go_at_call 65;refine(aW _ _ tT).mono ?_;rintro e w' ⟨rfl,rfl⟩;rw[hl])
    go_round
    case rel=>exact⟨k+1,by omega,by go_num,HZ.out hl⟩
    case measure=>simp[intOf];omega
  .have HR:Hid _:=H0.out λj hj=>hz.out j (by omega)
   go_wp2_with fail;go_ret;exact⟨az HR.out.symm,rfl⟩
def eZ(t:ByteArray):Bool:=decide (t=If)||aA t
theorem pV(ss:List ByteArray)(b cap:Nat)(w:World)(hb:∀j,j<ss.length->w.cell? ⟨b,j,Y⟩=Z (I (ss.getD j If)))(hs:∀j,(ss.getD j If).size<=Ii)(hn:ss.length<=1000) :
 aT 59 #[U (Z ⟨b,0,Y⟩) ss.length cap] w λe w'=>e=sh (AT (ss.all eZ))/\w'=w:=by
 have HB:Hid _:=hb;have HS:Hid _:=hs;have H0:Hid ((∀j,j<ss.length->eZ (ss.getD j If)=true)->ss.all eZ=true):=λh=>by
  rw[J2];intro x hx;obtain⟨j,hj,rfl⟩:=Jp hx;have:=h j hj;simpa[Io,Ic hj] using this
 have H1:Hid (∀j,j<ss.length->eZ (ss.getD j If)=false->ss.all eZ=false):=λj hj h=>by
  rw[List.all_eq_false];refine⟨ss[j],IQ hj,?_⟩;rw[show ss.getD j If=ss[j] by simp[Io,Ic hj]] at h;simp[h]
 clear hb hs;generalize ss.all eZ=res at *;generalize hN:ss.length=n at *;clear hN;go_enter Tryz.func59,Tryz.ntmps59;go_wp2_with fail;go_loop [7] (λi=>∃k:Nat,k<=n/\i=O J k/\Hid (∀j,j<k->eZ (ss.getD j If)=true)) (λi=>n-(intOf i).toNat)
 case atStart=>exact⟨0,IF _,rfl,λj h=>absurd h (IP _)⟩
 case round=>
  obtain⟨k,hk,rfl,hz⟩:=hrel;by_cases aB:k<n
  .have hc:=HB.out k aB
   have tT:=HS.out k;have HZ:Hid (eZ (ss.getD k If)=true->∀j,j<k+1->eZ (ss.getD j If)=true):=λh j hj=>by
    rcases II.1 hj with h2|rfl
    .exact hz.out j h2
    .exact h
   have HF:Hid (eZ (ss.getD k If)=false->res=false):=λh=>H1.out k aB h;generalize ss.getD k If=s at *;by_cases hse:s=If
   .subst hse
    have fm:Hid _:=HZ.out (by simp[eZ]);clear HZ HF;go_wp2_with fail;go_round
    case rel=>exact⟨k+1,by omega,by go_num,fm.out⟩
    case measure=>simp[intOf];omega
   .have HE:Hid (eZ s=aA s):=(show eZ s=aA s by simp[eZ,hse])
    obtain⟨h1,h2⟩:=eJ hse;have h3:¬ s.toList=[]:=λe=>h2 (by rw[e,Jb];rfl);have h4:(s.toList==[])=false:=by simpa using h3
    clear hse;rcases hl:aA s with _|_
    .have HR:Hid _:=HF.out (by rw[HE.out,hl])
     go_wp2_with (go_at_call 65;refine(aW _ _ tT).mono ?_;rintro e w' ⟨rfl,rfl⟩;rw[hl]);go_ret;exact⟨az HR.out.symm,rfl⟩
    .have fm:Hid _:=HZ.out (by rw[HE.out,hl])
     clear HZ HF;go_wp2_with (go_at_call 65;refine(aW _ _ tT).mono ?_;rintro e w' ⟨rfl,rfl⟩;rw[hl]);go_round
     case rel=>exact⟨k+1,by omega,by go_num,fm.out⟩
     case measure=>simp[intOf];omega
  .have HR:Hid _:=H0.out λj hj=>hz.out j (by omega)
   go_wp2_with fail;go_ret;exact⟨az HR.out.symm,rfl⟩
theorem Ho(t:ByteArray)(W:World)(g:Nat)(hs:t.size<=Ii)(hg:W.heap[g]?=Z (AI #[I t] 9 (0,0))) :
 aT 59 #[U (Z ⟨g,0,Y⟩) 1 1] W λe w'=>e=sh (AT (eZ t))/\w'=W:=by
 have h:=pV [t] g 1 W (λj hj=>by
  rw[af hg]
  have:j=0:=by simp at hj;omega
  subst this;rfl) (λj=>by
  match j with
  |0=>exact hs
  |_+1=>simp[Io]) (by simp)
 simpa using h
theorem DV(W:World)(c:Value):(W.alloc (AI #[c] 9)).heap[W.heap.size]?=Z (AI #[c] 9 (0,0)):=by
 have h:=Ie W (AI #[c] 9);simpa using h
def gH:List UInt8->List (List UInt8)
 |[]=>[[]]
 |c::r=>if c=46 then[]::gH r else match gH r with
  |[]=>[[c]]
  |x::xs=>(c::x)::xs
def jn:List (List UInt8)->List UInt8
 |[]=>[]
 |[x]=>x
 |x::y::r=>x++46::jn (y::r)
theorem An:∀l,gH l≠[]
 |[]=>by simp[gH]
 |c::r=>by
  unfold gH;split
  .simp
  .split<;>simp
theorem wg(r:List UInt8):gH (46::r)=[]::gH r:=by rw[gH,if_pos rfl]
theorem nK{c:UInt8}(h:c≠46){r x:List UInt8}{xs:List (List UInt8)}(hr:gH r=x::xs):gH (c::r)=(c::x)::xs:=by
 rw[gH,if_neg h,hr]
theorem rB:∀(a b:List UInt8),46 ∉ a->gH (a++46::b)=a::gH b
 |[],b,_=>wg b
 |c::a,b,h=>by
  have h1:c≠46:=λe=>h (by rw[e];exact JJ);have h2:46 ∉ a:=λe=>h (Oh _ e);rw[OM];exact nK h1 (rB a b h2)
theorem kY:∀(a:List UInt8),46 ∉ a->gH a=[a]
 |[],_=>rfl
 |c::a,h=>by
  have h1:c≠46:=λe=>h (by rw[e];exact JJ);have h2:46 ∉ a:=λe=>h (Oh _ e);exact nK h1 (kY a h2)
theorem wi:∀(l:List UInt8),(gH l).length=l.count 46+1
 |[]=>rfl
 |c::r=>by
  have ih:=wi r;by_cases h:c=46
  .subst h
   rw[wg,I5,ih,List.count_cons_self]
  .obtain⟨x,xs,hr⟩:=List.exists_cons_of_ne_nil (An r)
   rw[nK h hr,I5,List.count_cons_of_ne h];rw[hr,I5] at ih;exact ih
theorem Nv(c:UInt8)(x:List UInt8)(xs:List (List UInt8)):jn ((c::x)::xs)=c::jn (x::xs):=by
 cases xs<;>rfl
theorem Hp:∀(l:List UInt8),jn (gH l)=l
 |[]=>rfl
 |c::r=>by
  have ih:=Hp r;obtain⟨y,ys,hr⟩:=List.exists_cons_of_ne_nil (An r);by_cases h:c=46
  .subst h
   rw[wg,hr];rw[hr] at ih;show[]++46::jn (y::ys)=_;rw[ih];rfl
  .rw[nK h hr,Nv,<- hr,ih]
theorem Hq:∀(xs:List (List UInt8)),xs≠[]->(∀x∈xs,46 ∉ x)->gH (jn xs)=xs
 |[],h,_=>absurd rfl h
 |[x],_,h=>kY x (h x JJ)
 |x::y::r,_,h=>by
  show gH (x++46::jn (y::r))=_;rw[rB _ _ (h x JJ),Hq (y::r) (by simp) (λz hz=>h z (Oh _ hz))]
theorem wj:∀{l:List UInt8},JE l 46 = -1->46 ∉ l
 |[],_=>by simp
 |c::r,h=>by
  unfold JE at h;split at h
  .omega
  .rename_i hc
   split at h
   .rename_i h2
    intro hm;rcases Jr.1 hm with e|e
    .subst e;simp at hc
    .exact wj (by simpa using h2) e
   .have:=Lib.indexByte_ge r 46;omega
theorem rC:∀{l:List UInt8} {i:Nat},JE l 46=(i:Int)->i<l.length/\l=l.take i++46::l.drop (i+1)/\46 ∉ l.take i
 |[],i,h=>by unfold JE at h;omega
 |c::r,i,h=>by
  unfold JE at h;split at h
  .rename_i hc
   have:i=0:=by omega
   subst this
   have:c=46:=by simpa using hc
   subst this;simp
  .rename_i hc
   split at h
   .omega
   .rename_i h2
    have hg:=Lib.indexByte_ge r 46
    obtain⟨j,rfl⟩:∃j,i=j+1:=⟨i-1,by have:JE r 46 ≠ -1:=by simpa using h2
                                    omega⟩
    obtain⟨h3,h4,h5⟩:=rC (l:=r) (i:=j) (by omega);refine⟨by simpa using h3,?_,?_⟩
    .simp only[QY,List.drop_succ_cons,OM]
     rw[<- h4]
    .simp only[QY]
     intro hm;rcases Jr.1 hm with e|e
     .subst e;simp at hc
     .exact h5 e
def mk(l:List UInt8):ByteArray:=⟨l.toArray⟩
theorem mk_data(s:ByteArray):mk s.data.toList=s:=by cases s;simp[mk]
theorem nL(l:List UInt8):(mk l).data.toList=l:=by simp[mk]
theorem gB(l:List UInt8):(mk l).size=l.length:=by simp[mk,JP]
def ju(l:List UInt8):Bool:=aA (mk l)
theorem DW{l:List UInt8}(h:ju l=true):46 ∉ l:=λhm=>by
 unfold ju aA at h;simp only[IJ,J2,nL] at h;have:=h.2 46 hm
 revert this;decide
theorem DX{l:List UInt8}(h:ju l=true):1<=l.length/\l.length<=30:=by
 unfold ju aA at h;simp only[IJ,decide_eq_true_eq,gB] at h;exact h.1
def bQ(s:ByteArray):Int:=
 if s.size=0 then 0 else if(gH s.data.toList).all ju=false then 1 else if 8<(gH s.data.toList).length\/120<s.size then 2 else 0
theorem Ht{B:Nat}{w w1:World}(h:Below B w w1)(m:Nat):Below B w (w1.drewN m):=⟨h.os,h.tape,h.output,h.size,h.block⟩
theorem Hu(s:ByteArray)(i:Nat):s.extract 0 i=mk (s.data.toList.take i):=by
 rw[<- mk_data (s.extract 0 i),Lib.extract_from_zero]
theorem rY(s:ByteArray)(i:Nat):s.extract i s.size=mk (s.data.toList.drop i):=by
 rw[<- mk_data (s.extract i s.size),Lib.extract_to_end]
theorem DY(s:ByteArray)(w:World)(h:JE s.data.toList 46 = -1) :
 Calls be 169 #[I s,I ⟨#[46]⟩] w λe w'=>e=sh (Il #[I s,I ⟨#[]⟩,AT false])/\w'=w:=by
 go_enter Tryz.func169,Tryz.ntmps169;go_wp2_with (go_at_call 170;refine(Tryz.stringslite_Index_one s 46 _).mono ?_;rintro e w' ⟨rfl,rfl⟩;rw[h]);go_ret3
 exact⟨rfl,rfl⟩
theorem DZ(s:ByteArray)(i:Nat)(w:World)(h:JE s.data.toList 46=(i:Int))(hs:s.size<=Ii) :
 Calls be 169 #[I s,I ⟨#[46]⟩] w λe w'=>e=sh (Il #[I (s.extract 0 i),I (s.extract (i+1) s.size),AT true])/\∃n,w'=w.drewN n:=by
 have hi:i<s.size:=by have:=(rC h).1;simpa using this
 unfold Ii at hs;have h0:((i:Int)).toNat=i:=by omega
 have h1:IntKind.i64.wrap ((i:Int)+1)=((i+1:Nat):Int):=by rw[IntKind.wrap_i64];omega
 have h2:(((i+1:Nat):Int)).toNat=i+1:=by omega
 have h3:((s.size:Int)).toNat=s.size:=by omega
 go_enter Tryz.func169,Tryz.ntmps169;go_wp2_with (go_at_call 170;refine(Tryz.stringslite_Index_one s 46 _).mono ?_;rintro e w' ⟨rfl,rfl⟩;rw[h]);go_quiet (fail)
 go_wp2_with fail;go_ret3
 exact⟨rfl,⟨_,rfl⟩⟩
theorem Hv(s:ByteArray)(w:World)(h:JE s.data.toList 46 = -1) :
 Calls be 119 #[I s,I ⟨#[46]⟩] w λe w'=>e=sh (Il #[I s,I ⟨#[]⟩,AT false])/\Below w.heap.size w w':=by
 go_enter Tryz.func119,Tryz.ntmps119;go_wp2_with (go_at_call 169;refine(DY s _ h).mono ?_;rintro e w' ⟨rfl,rfl⟩);go_ret3
 exact⟨rfl,Below.refl _ _⟩
theorem Hw(s:ByteArray)(i:Nat)(w:World)(h:JE s.data.toList 46=(i:Int))(hs:s.size<=Ii) :
 Calls be 119 #[I s,I ⟨#[46]⟩] w λe w'=>e=sh (Il #[I (s.extract 0 i),I (s.extract (i+1) s.size),AT true])/\Below w.heap.size w w':=by
 go_enter Tryz.func119,Tryz.ntmps119;go_wp2_with (go_at_call 169;refine(DZ s i _ h hs).mono ?_;rintro e w' ⟨rfl,n,rfl⟩);go_ret3
 exact⟨rfl,Ht (Below.refl _ _) _⟩
theorem j2(s:ByteArray)(w:World)(hs:s.size<=Ii) :
 Calls be 64 #[I s] w λe w'=>e=sh (AT (!aA s))/\w'=w:=by
 go_enter Tryz.func64,Tryz.ntmps64;go_wp2_with (go_at_call 65;refine(aW _ _ hs).mono ?_;rintro e w' ⟨rfl,rfl⟩);go_ret;exact⟨rfl,rfl⟩
def Nw:Value->Nat
 | I r=>r.size
 |_=>0
def tOf:Value->Nat
 | AT true=>1
 |_=>0
theorem Tx(r:ByteArray):Nw (I ⟨#[]⟩)+tOf (AT false)<Nw (I r)+tOf (AT true):=by
 show 0+0<r.size+1;omega
theorem wk(s:ByteArray)(w:World)(hs:s.size<=Ii) :
 Calls be 66 #[I s,.func (.func 64) #[] #[]] w λe w'=>e=sh (AT (!(gH s.data.toList).all ju))/\Below w.heap.size w w':=by
 have H0:Hid ((gH s.data.toList).all ju=(gH s.data.toList).all ju):=rfl;have HS:Hid (∀r:ByteArray,r=s->r.size<=Ii):=λr h=>by rw[h];exact hs
 have HS0:=HS.out s rfl;generalize iS:(gH s.data.toList).all ju=res at *;have H1:Hid (res=(gH s.data.toList).all ju):=iS.symm;clear iS H0 HS hs;go_enter Tryz.func66,Tryz.ntmps66;go_wp2_with fail;go_loopw [0,5] (λnm mo wr=>∃r:ByteArray,nm=I r/\r.size<=Ii/\((mo=AT true/\Hid (res=(gH r.data.toList).all ju))\/(mo=AT false/\Hid (res=true)))/\Below w.heap.size w wr) (λnm mo _=>Nw nm+tOf mo)
 case atStart=>exact⟨s,rfl,HS0,.inl ⟨rfl,H1⟩,Below.refl _ _⟩
 case round=>
  obtain⟨r,rfl,hr,D0,aL⟩:=hrel;have HB:Hid (Below w.heap.size w wr):=aL;clear aL;rcases D0 with⟨rfl,iS⟩|⟨rfl,iS⟩
  .have kZ:=Lib.indexByte_ge r.data.toList 46
   by_cases hi:JE r.data.toList 46 = -1
   .have hL:res=aA r:=by rw[iS.out,kY _ (wj hi)];simp[ju,mk_data]
    have HC:Hid (∀W,Calls be 119 #[I r,I ⟨#[46]⟩] W λe w'=>e=sh (Il #[I r,I ⟨#[]⟩,AT false])/\Below W.heap.size W w'):=λW=>Hv r W hi;clear hi kZ iS;rcases hb:aA r with _|_
    .rw[hb] at hL
     have HL:Hid (res=false):=hL;clear hL;go_wp2_with (first|(go_at_call 119;refine(HC.out _).mono ?_;rintro e w1 ⟨rfl,an⟩)|(go_at_call 64;refine(j2 r _ hr).mono ?_;rintro e w2 ⟨rfl,rfl⟩;rw[hb]));go_ret;exact⟨az (by rw[HL.out];rfl),HB.out.trans (an.mono HB.out.size)⟩
    .rw[hb] at hL
     have HL:Hid (res=true):=hL;clear hL;go_wp2_with (first|(go_at_call 119;refine(HC.out _).mono ?_;rintro e w1 ⟨rfl,an⟩)|(go_at_call 64;refine(j2 r _ hr).mono ?_;rintro e w2 ⟨rfl,rfl⟩;rw[hb]));exact⟨⟨⟨#[]⟩,rfl,by decide,.inr ⟨rfl,HL⟩,HB.out.trans (an.mono HB.out.size)⟩,Tx r⟩
   .obtain⟨i,Ea⟩:∃i:Nat,JE r.data.toList 46=(i:Int):=⟨(JE r.data.toList 46).toNat,by omega⟩
    obtain⟨h1,h2,h3⟩:=rC Ea;have aB:i<r.size:=by simpa using h1
    have hL:res=(aA (r.extract 0 i)&&(gH (r.extract (i+1) r.size).data.toList).all ju):=by
     rw[iS.out,Hu,rY,nL]
     conv=>lhs;rw[h2]
     rw[rB _ _ h3,List.all_cons];rfl
    have cP:(r.extract 0 i).size<=Ii:=by rw[Hu,gB,IA];simp;unfold Ii at *;omega
    have jD:(r.extract (i+1) r.size).size<=Ii:=by rw[rY,gB,Jl];simp;unfold Ii at *;omega
    have mB:(r.extract (i+1) r.size).size<r.size:=by rw[rY,gB,Jl];simp;omega
    have HC:Hid (∀W,Calls be 119 #[I r,I ⟨#[46]⟩] W λe w'=>e=sh (Il #[I (r.extract 0 i),I (r.extract (i+1) r.size),AT true])/\Below W.heap.size W w'):=λW=>Hw r i W Ea hr;clear hi Ea kZ iS h1 h2 h3;generalize r.extract 0 i=la at *;generalize r.extract (i+1) r.size=re at *;rcases hb:aA la with _|_
    .rw[hb] at hL
     have HL:Hid (res=false):=hL;clear hL;go_wp2_with (first|(go_at_call 119;refine(HC.out _).mono ?_;rintro e w1 ⟨rfl,an⟩)|(go_at_call 64;refine(j2 la _ cP).mono ?_;rintro e w2 ⟨rfl,rfl⟩;rw[hb]));go_ret;exact⟨az (by rw[HL.out];rfl),HB.out.trans (an.mono HB.out.size)⟩
    .rw[hb,Bool.true_and] at hL
     have HL:Hid (res=(gH re.data.toList).all ju):=hL;clear hL;go_wp2_with (first|(go_at_call 119;refine(HC.out _).mono ?_;rintro e w1 ⟨rfl,an⟩)|(go_at_call 64;refine(j2 la _ cP).mono ?_;rintro e w2 ⟨rfl,rfl⟩;rw[hb]));exact⟨⟨re,rfl,jD,.inl ⟨rfl,HL⟩,HB.out.trans (an.mono HB.out.size)⟩,by simp[Nw,tOf];omega⟩
  .go_wp2_with fail
   go_ret;exact⟨az (by rw[iS.out];rfl),HB.out⟩
end Go.Proofs.YtfidjlcdlakceaaGreatDoor
namespace Go.Proofs
open Go.Shelf
def Tryz.pW:On:=⟨fun|156=>62|165=>116|166=>117|169=>75|240=>167|241=>168|276=>231|277=>232|n=>n,fun|31=>111|9=>9|3=>3|4=>4|0=>0|20=>20|72=>129|76=>177|70=>126|37=>127|75=>176|127=>186|164=>274|5=>5|80=>132|n=>n,fun|n=>n⟩
theorem Tryz.Nx:Go.Proofs.Lays.n156 be Tryz.pW:={
 mixed:=by kernel_rfl
 f156:=Tryz.func62.trans (congrArg Z (by kernel_rfl))
 f165:=Tryz.func116.trans (congrArg Z (by kernel_rfl))
 f166:=Tryz.func117.trans (congrArg Z (by kernel_rfl))
 f169:=Tryz.func75.trans (congrArg Z (by kernel_rfl))
 f240:=Tryz.func167.trans (congrArg Z (by kernel_rfl))
 f241:=Tryz.func168.trans (congrArg Z (by kernel_rfl))
 f276:=Tryz.func231.trans (congrArg Z (by kernel_rfl))
 f277:=Tryz.func232.trans (congrArg Z (by kernel_rfl))
 t0:=J3
 a0:=O4
 z0:=OL
 v0:=Oe
 t3:=Iz
 a3:=JX
 z3:=JI
 v3:=JN
 t4:=Jg
 a4:=Oq
 z4:=Od
 v4:=JO
 t9:=Iv
 a9:=J9
 z9:=JT
 v9:=JZ
 t20:=Tryz.underlying20
 a20:=Tryz.isAgg20
 z20:=Tryz.sizeOf20
 v20:=Tryz.zeroValue20
 t31:=Jn
 a31:=QF
 z31:=Qw
 v31:=O0
 t37:=Tryz.underlying127
 a37:=Tryz.isAgg127
 z37:=Tryz.sizeOf127
 v37:=Tryz.zeroValue127
 t70:=Tryz.underlying126
 a70:=Tryz.isAgg126
 z70:=Tryz.sizeOf126
 v70:=Tryz.zeroValue126
 t72:=Tryz.underlying129
 a72:=Tryz.isAgg129
 z72:=Tryz.sizeOf129
 v72:=Tryz.zeroValue129
 t75:=Tryz.underlying176
 a75:=Tryz.isAgg176
 z75:=Tryz.sizeOf176
 v75:=Tryz.zeroValue176
 t76:=Tryz.underlying177
 a76:=Tryz.isAgg177
 z76:=Tryz.sizeOf177
 v76:=Tryz.zeroValue177
 t127:=Tryz.underlying186
 a127:=Tryz.isAgg186
 z127:=Tryz.sizeOf186
 v127:=Tryz.zeroValue186
 t164:=Tryz.underlying274
 a164:=Tryz.isAgg274
 z164:=Tryz.sizeOf274
 v164:=Tryz.zeroValue274 }
theorem Tryz.nM:Builder.Extra be Tryz.pW:={
 sizeBuilder:=by kernel_rfl
 liesBuilder:=by kernel_rfl
 t5:=Jm
 a5:=Qj
 z5:=O3
 v5:=Ot
 infoByte:=by kernel_rfl
 cellsByte:=by kernel_rfl
 sizeByte:=by kernel_rfl
 neB5:=by decide }
open Go.RowKit in
theorem Tryz.strings_Join(bk o c:Nat)(xs:List ByteArray)(sep:ByteArray)(w:World)(Ty:∀(j:Nat) x,xs[j]?=Z x->w.cell? ⟨bk,o+j,Y⟩=Z (I x))(uh:bk<w.heap.size)(hN:xs.length<=140737488355328)(Hx:xs.length<=c)(hlen:(Lib.join (xs.map (·.data.toList)) sep.data.toList).length<=140737488355328) :
 Calls be 62 #[U (Z ⟨bk,o,Y⟩) xs.length c,I sep] w λe w'=>e=sh (I ⟨(Lib.join (xs.map (·.data.toList)) sep.data.toList).toArray⟩)/\Below w.heap.size w w':=Any.strings_Join Tryz.Nx Tryz.nM bk o c xs sep w Ty uh hN Hx hlen
def Tryz.xF:On:=⟨fun|146=>57|221=>111|268=>165|138=>67|143=>122|195=>120|197=>230|218=>121|219=>170|260=>260|217=>233|225=>234|224=>235|267=>236|266=>261|314=>262|n=>n,fun|9=>9|31=>111|3=>3|4=>4|0=>0|105=>272|21=>21|5=>5|46=>192|119=>315|139=>318|138=>317|146=>294|51=>260|n=>n,fun|1=>0|3=>1|4=>2|n=>n⟩
theorem Tryz.Ny:Go.Proofs.Lays.n146 be Tryz.xF:={
 mixed:=by kernel_rfl
 f138:=Tryz.func67.trans (congrArg Z (by kernel_rfl))
 f143:=Tryz.func122.trans (congrArg Z (by kernel_rfl))
 f146:=Tryz.func57.trans (congrArg Z (by kernel_rfl))
 f195:=Tryz.func120.trans (congrArg Z (by kernel_rfl))
 f197:=Tryz.func230.trans (congrArg Z (by kernel_rfl))
 f217:=Tryz.func233.trans (congrArg Z (by kernel_rfl))
 f218:=Tryz.func121.trans (congrArg Z (by kernel_rfl))
 f219:=Tryz.func170.trans (congrArg Z (by kernel_rfl))
 f221:=Tryz.func111.trans (congrArg Z (by kernel_rfl))
 f224:=Tryz.func235.trans (congrArg Z (by kernel_rfl))
 f225:=Tryz.func234.trans (congrArg Z (by kernel_rfl))
 f260:=Tryz.func260.trans (congrArg Z (by kernel_rfl))
 f266:=Tryz.func261.trans (congrArg Z (by kernel_rfl))
 f267:=Tryz.func236.trans (congrArg Z (by kernel_rfl))
 f268:=Tryz.func165.trans (congrArg Z (by kernel_rfl))
 f314:=Tryz.func262.trans (congrArg Z (by kernel_rfl))
 t0:=J3
 a0:=O4
 z0:=OL
 v0:=Oe
 t3:=Iz
 a3:=JX
 z3:=JI
 v3:=JN
 t4:=Jg
 a4:=Oq
 z4:=Od
 v4:=JO
 t5:=Jm
 a5:=Qj
 z5:=O3
 v5:=Ot
 t9:=Iv
 a9:=J9
 z9:=JT
 v9:=JZ
 t21:=Tryz.underlying21
 a21:=Tryz.isAgg21
 z21:=Tryz.sizeOf21
 v21:=Tryz.zeroValue21
 t31:=Jn
 a31:=QF
 z31:=Qw
 v31:=O0
 t46:=Oz
 a46:=Qr
 z46:=Qb
 v46:=OF
 t51:=OA
 a51:=Qs
 z51:=Qc
 v51:=OG
 t105:=Tryz.underlying272
 a105:=Tryz.isAgg272
 z105:=Tryz.sizeOf272
 v105:=Tryz.zeroValue272
 t119:=Tryz.underlying315
 a119:=Tryz.isAgg315
 z119:=Tryz.sizeOf315
 t138:=Tryz.underlying317
 a138:=Tryz.isAgg317
 z138:=Tryz.sizeOf317
 v138:=Tryz.zeroValue317
 t139:=Tryz.underlying318
 a139:=Tryz.isAgg318
 z139:=Tryz.sizeOf318
 v139:=Tryz.zeroValue318
 t146:=Uf
 a146:=Tryz.isAgg294
 z146:=Tryz.sizeOf294
 v146:=Tryz.zeroValue294
 g1:=by kernel_rfl
 g3:=by kernel_rfl
 g4:=by kernel_rfl }
open Go.RowKit Go.Lib in
theorem Tryz.strings_Split(s sep:ByteArray)(m:Int)(w:World)(hs:s.size<4294967281)(hm:w.cell? ⟨0,0,Y⟩=Z (O J m))(h1:1<=sep.size) :
 Calls be 57 #[I s,I sep] w λe w'=>
  e=sh (U (Z ⟨w.heap.size,0,Y⟩) (Lib.countB s sep+1) (Lib.countB s sep+1))/\w'=w.alloc (AI ((Lib.splitB sep 0 (Lib.countB s sep) s).map I).toArray 9):=Any.strings_Split Tryz.Ny (by kernel_rfl) s sep m w hs hm h1
def Tryz.xG:On:=⟨fun|110=>115|109=>166|n=>n,fun|31=>111|9=>9|4=>4|3=>3|0=>0|n=>n,fun|n=>n⟩
theorem Tryz.Nz:Go.Proofs.Lays.n110 be Tryz.xG:={
 mixed:=by kernel_rfl
 f109:=Tryz.func166.trans (congrArg Z (by kernel_rfl))
 f110:=Tryz.func115.trans (congrArg Z (by kernel_rfl))
 t0:=J3
 a0:=O4
 z0:=OL
 v0:=Oe
 t3:=Iz
 a3:=JX
 z3:=JI
 v3:=JN
 t4:=Jg
 a4:=Oq
 z4:=Od
 v4:=JO
 t9:=Iv
 a9:=J9
 z9:=JT
 v9:=JZ
 t31:=Jn
 a31:=QF
 z31:=Qw
 v31:=O0 }
open Go.Lib in
theorem Tryz.slices_Contains_string(b off n c:Nat)(zs:List ByteArray)(x:ByteArray)(w:World)(hz:n<=zs.length)(ui:n<=9223372036854775807)(hc:∀j,j<zs.length->w.cell? ⟨b,off+j,Y⟩=Z (I (zs.getD j If))) :
 Calls be 115 #[U (Z ⟨b,off,Y⟩) n c,I x] w λe w'=>e=sh (AT (Lib.containsS (zs.take n) x))/\w'=w:=Any.slices_Contains_string Tryz.Nz b off n c zs x w hz ui hc
end Go.Proofs
namespace Go.Proofs.YtfidjlcdlakceaaGreatDoor
open Go.RowKit Go.Shelf Go.Lib
theorem rZ:∀(k:Nat) (l:List UInt8),l.count 46<=k->Lib.splitK [46] 0 k l=gH l
 |0,l,h=>by
  have:46 ∉ l:=λhm=>by have:=List.count_pos_iff.2 hm;omega
  rw[kY l this];rfl
 |k+1,l,h=>by
  have kZ:=Lib.indexByte_ge l 46;unfold Lib.splitK;rw[Lib.index_one];by_cases hi:JE l 46 = -1
  .rw[if_pos (by rw[hi];rfl),kY l (wj hi)]
  .obtain⟨i,Ea⟩:∃i:Nat,JE l 46=(i:Int):=⟨(JE l 46).toNat,by omega⟩
   obtain⟨h1,h2,h3⟩:=rC Ea;rw[if_neg (by rw[Ea];simp),Ea];have e:((i:Int)).toNat=i:=by omega
   rw[e];have hc:(l.drop (i+1)).count 46<=k:=by
    have h4:=congrArg (List.count 46) h2;rw[List.count_append,List.count_cons_self] at h4;omega
   show l.take (i+0)::Lib.splitK [46] 0 k (l.drop (i+1))=gH l;rw[rZ k _ hc,Nat.add_zero]
   conv=>rhs;rw[h2]
   rw[rB _ _ h3]
theorem Ao(s:ByteArray):Lib.splitB ⟨#[46]⟩ 0 (Lib.countB s ⟨#[46]⟩) s=(gH s.data.toList).map mk:=by
 have h:=Lib.splitB_data ⟨#[46]⟩ 0 (Lib.countB s ⟨#[46]⟩) s;have hc:Lib.countB s ⟨#[46]⟩=s.data.toList.count 46:=Lib.count_one 46 s.data.toList;rw[show(O5 #[46]).data.toList=[46] from rfl,rZ _ _ (by rw[hc];exact By _)] at h;rw[<- h,List.map_map];have e:(mk∘λx:ByteArray=>x.data.toList)=id:=by funext x;exact mk_data x
 rw[e,List.map_id]
def ML(w:World):Prop:=0<w.heap.size/\∃m,w.cell? ⟨0,0,Y⟩=Z (O J m)
theorem ML.below{w w':World}(h:ML w)(hb:RowKit.Below w.heap.size w w'):ML w':=by
 obtain⟨h1,m,h2⟩:=h;exact⟨Nat.lt_of_lt_of_le h1 hb.size,m,(hb.cell (p:=⟨0,0,Y⟩) h1).trans h2⟩
theorem uQ(s:ByteArray)(w:World)(hm:ML w)(hs:s.size<=1000) :
 Calls be 57 #[I s,I ⟨#[46]⟩] w λe w'=>e=sh (U (Z ⟨w.heap.size,0,Y⟩) (gH s.data.toList).length (gH s.data.toList).length)/\w'=w.alloc (AI (((gH s.data.toList).map mk).map I).toArray 9):=by
 obtain⟨_,m,h2⟩:=hm;have h:=Tryz.strings_Split s ⟨#[46]⟩ m w (by omega) h2 (by decide);rw[Ao] at h;have hc:Lib.countB s ⟨#[46]⟩+1=(gH s.data.toList).length:=by
  rw[wi];show Lib.count s.data.toList [46]+1=_;rw[Lib.count_one]
 rw[hc] at h;exact h
end Go.Proofs.YtfidjlcdlakceaaGreatDoor
namespace Go.Proofs
open Go.Shelf
def Tryz.wm:On:=⟨fun|146=>57|221=>111|268=>165|138=>67|143=>122|195=>120|197=>230|218=>121|219=>170|260=>260|217=>233|225=>234|224=>235|267=>236|266=>261|314=>262|n=>n,fun|9=>9|31=>111|3=>3|4=>4|0=>0|105=>272|21=>21|5=>5|46=>192|119=>315|139=>318|138=>317|146=>294|51=>260|n=>n,fun|1=>0|3=>1|4=>2|n=>n⟩
theorem Tryz.Hy:Go.Proofs.LaysM.n146 be Tryz.wm:={
 mixed:=by kernel_rfl
 f138:=Tryz.func67.trans (congrArg Z (by kernel_rfl))
 f143:=Tryz.func122.trans (congrArg Z (by kernel_rfl))
 f146:=Tryz.func57.trans (congrArg Z (by kernel_rfl))
 f195:=Tryz.func120.trans (congrArg Z (by kernel_rfl))
 f197:=Tryz.func230.trans (congrArg Z (by kernel_rfl))
 f217:=Tryz.func233.trans (congrArg Z (by kernel_rfl))
 f218:=Tryz.func121.trans (congrArg Z (by kernel_rfl))
 f219:=Tryz.func170.trans (congrArg Z (by kernel_rfl))
 f221:=Tryz.func111.trans (congrArg Z (by kernel_rfl))
 f224:=Tryz.func235.trans (congrArg Z (by kernel_rfl))
 f225:=Tryz.func234.trans (congrArg Z (by kernel_rfl))
 f260:=Tryz.func260.trans (congrArg Z (by kernel_rfl))
 f266:=Tryz.func261.trans (congrArg Z (by kernel_rfl))
 f267:=Tryz.func236.trans (congrArg Z (by kernel_rfl))
 f268:=Tryz.func165.trans (congrArg Z (by kernel_rfl))
 f314:=Tryz.func262.trans (congrArg Z (by kernel_rfl))
 t0:=J3
 a0:=O4
 z0:=OL
 v0:=Oe
 t3:=Iz
 a3:=JX
 z3:=JI
 v3:=JN
 t4:=Jg
 a4:=Oq
 z4:=Od
 v4:=JO
 t5:=Jm
 a5:=Qj
 z5:=O3
 v5:=Ot
 t9:=Iv
 a9:=J9
 z9:=JT
 v9:=JZ
 t21:=Tryz.underlying21
 a21:=Tryz.isAgg21
 z21:=Tryz.sizeOf21
 v21:=Tryz.zeroValue21
 t31:=Jn
 a31:=QF
 z31:=Qw
 v31:=O0
 t46:=Oz
 a46:=Qr
 z46:=Qb
 v46:=OF
 t51:=OA
 a51:=Qs
 z51:=Qc
 v51:=OG
 t105:=Tryz.underlying272
 a105:=Tryz.isAgg272
 z105:=Tryz.sizeOf272
 v105:=Tryz.zeroValue272
 t119:=Tryz.underlying315
 a119:=Tryz.isAgg315
 z119:=Tryz.sizeOf315
 t138:=Tryz.underlying317
 a138:=Tryz.isAgg317
 z138:=Tryz.sizeOf317
 v138:=Tryz.zeroValue317
 t139:=Tryz.underlying318
 a139:=Tryz.isAgg318
 z139:=Tryz.sizeOf318
 v139:=Tryz.zeroValue318
 t146:=Uf
 a146:=Tryz.isAgg294
 z146:=Tryz.sizeOf294
 v146:=Tryz.zeroValue294
 g1:=by kernel_rfl
 g3:=by kernel_rfl
 g4:=by kernel_rfl
 i0:=by kernel_rfl
 i3:=by kernel_rfl
 i4:=by kernel_rfl
 i5:=by kernel_rfl
 i9:=by kernel_rfl
 i21:=by kernel_rfl
 i31:=by kernel_rfl
 i46:=by kernel_rfl
 i51:=by kernel_rfl
 i105:=by kernel_rfl
 i138:=by kernel_rfl
 i139:=by kernel_rfl
 i146:=by kernel_rfl
 m1:=by kernel_rfl
 s1_3:=λw h=>Go.Proofs.cell_of_shapedOpen_int (zero:=#[O J 0]) (t:=3) h (of_decide_eq_true (by kernel_rfl)) (by kernel_rfl) rfl (by kernel_rfl) (by kernel_rfl) Iz
 m3:=by kernel_rfl
 m4:=by kernel_rfl }
end Go.Proofs
namespace Go.Proofs.YtfidjlcdlakceaaGreatDoor
open Go.ChangeShapes Go.WideShapes Go.ChangeAt Go.RowKit
theorem XI{W:World}(h:W.ShapedOpen be):ML W:=by
 obtain⟨m,hm⟩:=Tryz.Hy.s1_3 W h;have MS:W.cell? ⟨0,0,Y⟩=Z (O J m):=hm;exact⟨World.block_lt_of_cell? W ⟨0,0,Y⟩ MS,m,MS⟩
theorem nJ{H:Type}{enc:I8×Value->H}{a:Assume}{C:Checked}{os:Os}{f:FuncId}{fn:Func}{s:ChangeSpec}{conds:List PathCond}{apart fresh handsOn again:Bool}{X:World->Array Value->Prop}(own:ownKnob C.prog.godebug=Y)(started:os.Started)(Tz:C.prog.inits.idxOf? f=Y)(hfn:C.prog.funcs[f]?=Z fn)(witness:∃(w:World) (tape:Tape) (i:Input),w.os=os/\(w.forCall tape i).Shaped C.prog/\i.vars=[]/\Input.okWide C.prog (w.forCall tape i) .any w.heap.size f i /\ ((s.pre enc C.prog fn conds apart (w.forCall tape i).memory i.args/\X (w.forCall tape i).memory i.args)/\sizedMet enc C.prog fn (OpenSpec.ofChange s) apart (w.forCall tape i).memory i.args)/\a.holds C.prog (lone (Frame.enter C.prog f i.args .normal) [] (w.forCall tape i)))(Hz:∀(W:World) (base:Nat) (args:Array Value) (ds gs:List (DataW H)) (before:List MemPlace),W.ShapedOpen C.prog -> (∀(j:Nat) t v,fn.params[j]?=Z t->args[j]?=Z v->Value.okWide C.prog W .any base t v) ->
   DataW.Whole enc C.prog fn.params.toList s.vars apart W args.toList ds gs before ->
   Calls C.prog f args W λe W'=>∃v,e=sh v/\s.post enc C.prog fn apart fresh handsOn again W args v W') :
 ReturnsInHanded a C os f .any (λw args=>(s.pre enc C.prog fn conds apart w args/\X w args)/\sizedMet enc C.prog fn (OpenSpec.ofChange s) apart w args) (s.post enc C.prog fn apart fresh handsOn again):=by
 refine returnsInHanded_of_calls own started Tz witness ?_;intro w tape i _ rV _ mU aeq _;obtain⟨_,_,_,fn',aer,_,_,_,_,DQ⟩:=mU;have e:fn'=fn:=Option.some.inj (aer.symm.trans hfn);subst e;obtain⟨⟨⟨ds,gs,before,hw,_⟩,_⟩,_⟩:=aeq;refine(Hz (w.forCall tape i) w.heap.size i.args ds gs before rV DQ (DataW.Whole.of_heap (w':=w.forCall tape i) (by rfl) hw)).mono λe W' ⟨v,he,hp⟩=>?_;subst he;exact ChangeSpec.post_blind hp
end Go.Proofs.YtfidjlcdlakceaaGreatDoor
