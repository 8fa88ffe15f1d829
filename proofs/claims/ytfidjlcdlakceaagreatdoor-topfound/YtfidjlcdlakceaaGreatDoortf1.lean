import Derived.Test.YtfidjlcdlakceaaGreatDoorProg
import Derived.WalkSpells
import Derived.WalkLawsBesides
import Derived.Lib.AppendZerosOnto
import Derived.Lib.Overlaps
import Derived.Lib.QuietBelow
import Derived.Shelf.Strings.OnBuilder
import Derived.Shelf.Small.Strs
import Derived.Shelf.Strconv.Clone
import Derived.Shelf.Strings.Shaped
import Derived.Shelf.Strings.SplitShaped
import Derived.Shelf.Unicode.DecodeSlow
import Derived.Shelf.SlSortCmp.NoneTotal
set_option maxHeartbeats 1600000
set_option maxRecDepth 100000
open Go.Proofs.Tryz renaming prog→be,underlying3→IG,isAgg3→J0,sizeOf3→JN,zeroValue3→JR,underlying4→Jq,isAgg4→Ou,sizeOf4→Og,zeroValue4→JS,underlying5→Js,isAgg5→Qm,sizeOf5→O5,zeroValue5→Ov,underlying9→IE,isAgg9→Ob,sizeOf9→JX,zeroValue9→J3,underlying192→Oz,isAgg192→Qy,sizeOf192→Qf,zeroValue192→OG,underlying260→OA,isAgg260→Qz,sizeOf260→Qg,zeroValue260→OH,underlying294→Uy
open Go.Ending renaming returned→sh
open Go.Value renaming bool→AI,int→O,string→I,slice→U,tuple→Il,func→IZ,agg→Im,pointer→If
open List renaming getElem_mem→IV,length_drop→Jr,length_take→Iu,mem_of_mem_drop→Ue,size_toArray→Oa,length_append→Ii,append_assoc→I1,take_left'→Qs,all_eq_true→J5,getElem_of_mem→Jw,getD→Io,getElem?_eq_getElem→Ic,mem_cons_self→JO,mem_cons_of_mem→Oj,cons_append→OQ,length_cons→IY,exists_cons_of_ne_nil→Uh,mem_cons→Jd,take_succ_cons→On
open Go.IntKind renaming i64→J
open Bool renaming eq_iff_iff→OM,and_eq_true→IJ
open Go renaming maxLen→Ij,callFunc→Ot,TypeId→Jc,heap_alloc_new→Ie,redrawn→IA,bodyPost→Jk
open Nat renaming zero_le→II,le_refl→By,mul_le_mul_right→OY,not_lt_zero→Ji,lt_succ_iff_lt_or_eq→Jj
open Option renaming none→Y,some→Z
open Go.Op renaming bytesLess→Jf
open UInt8 renaming lt_iff_toNat_lt→No
open Go.Lib renaming compareBytes→JD,toList_data→Jv,indexByte→JG
open Go.Obj renaming cells→AT
open Go.Builtin renaming copy_→QP
open Go.RowKit.Below renaming refl→Ib
open Array renaming length_toList→IQ,getElem?_eq_some_iff→Ia
open ByteArray renaming empty→Ih,size→JJ
namespace Go.Proofs.YtfidjlcdlakceaaGreatDoor
open Go.RowKit
abbrev aP(f:Nat)(a:Array Value)(w:World)(p:Ending->World->Prop):Prop:=Calls be f a w p
abbrev nZ(f:Nat)(a:Array Value)(w:World)(v:Value):Prop:=Calls be f a w λe w'=>e=sh v/\Below w.heap.size w w'
def within(n a b:Int):Bool:=decide (a<=n)&&decide (n<=b)
def L1(n:Int):Bool:=(decide (97<=n)&&decide (n<=122))||(decide (48<=n)&&decide (n<=57))||decide (n=45)||decide (n=95)
def aN(s:ByteArray):Bool:=decide (1<=s.size)&&decide (s.size<=30)&&s.data.toList.all (λc=>L1 c.toNat)
theorem aD{a b:Bool}(h:a=b):Ending.returned (AI a)=sh (AI b):=by rw[h]
theorem aj{k:IntKind}{a b:Int}(h:a=b):Ending.returned (O k a)=sh (O k b):=by rw[h]
theorem F9(s:ByteArray)(k:Nat)(h:k<s.size):s.data.toList.take (k+1)=s.data.toList.take k++[s[k]]:=by
 rw[List.take_succ_eq_append_getElem (by simpa using h)];rfl
theorem Mo(s:ByteArray)(k:Nat)(h:s.size<=k):s.data.toList.take k=s.data.toList:=
 List.take_of_length_le (by simpa using h)
theorem Ga(s:ByteArray)(k:Nat)(h:k<s.size)(hk:(s.data.toList.take k).all (λc=>L1 c.toNat)=true)(hb:L1 (s[k].toNat:Int)=true) : (s.data.toList.take (k+1)).all (λc=>L1 c.toNat)=true:=by
 rw[F9 s k h,List.all_append,hk];simp[hb]
theorem Mp(s:ByteArray)(k:Nat)(h:k<s.size)(hb:L1 (s[k].toNat:Int)=false):aN s=false:=by
 have:s.data.toList.all (λc=>L1 c.toNat)=false:=by
  rw[List.all_eq_false];refine⟨s[k],?_,by simp[hb]⟩;exact IV (l:=s.data.toList) (n:=k) (by simpa using h)
 simp[aN,this]
theorem bD(n a b:Int)(w:World) :
 Calls be 70 #[O J n,O J a,O J b] w λe w'=>e=sh (AI (within n a b))/\w'=w:=by
 go_enter Tryz.func70,Tryz.ntmps70;go_wp2;all_goals
  go_ret;exact⟨aD (by unfold within;rw[OM];simp;try omega),rfl⟩
theorem ea(n:Int)(w:World) :
 Calls be 44 #[O J n] w λe w'=>e=sh (AI (within n 0 4294967295))/\w'=w:=by
 go_enter Tryz.func44,Tryz.ntmps44;go_wp2_with (go_at_call 70;refine(bD _ _ _ _).mono ?_;rintro e w' ⟨rfl,rfl⟩);go_ret;exact⟨rfl,rfl⟩
theorem nM(n:Int)(w:World) :
 Calls be 118 #[O .u8 n] w λe w'=>e=sh (AI (L1 n))/\w'=w:=by
 go_enter Tryz.func118,Tryz.ntmps118;go_wp2;all_goals
  go_ret;exact⟨aD (by unfold L1;rw[OM];simp;try omega),rfl⟩
theorem bc(s:ByteArray)(w:World)(hs:s.size<=Ij) :
 Calls be 65 #[I s] w λe w'=>e=sh (AI (aN s))/\w'=w:=by
 unfold Ij at hs;by_cases hz:within (s.size:Int) 1 30=true
 .have We:1<=s.size/\s.size<=30:=by simp[within] at hz;omega
  go_enter Tryz.func65,Tryz.ntmps65;go_wp2_with (go_at_call 70;refine(bD _ _ _ _).mono ?_;rintro e w' ⟨rfl,rfl⟩;rw[hz]);go_loop [10] (λi=>∃k:Nat,k<=s.size/\i=O J k/\(s.data.toList.take k).all (λc=>L1 c.toNat)=true) (λi=>s.size-(intOf i).toNat)
  case atStart=>exact⟨0,II _,rfl,rfl⟩
  case round=>
   obtain⟨k,hk,rfl,iC⟩:=hrel;have HA:Hid _:=iC;clear iC;by_cases aL:k<s.size
   .by_cases hb:L1 (s[k].toNat:Int)=true
    .go_wp2_with (go_at_call 118;refine(nM _ _).mono ?_;rintro e w' ⟨rfl,rfl⟩;rw[hb])
     go_round
     case rel=>exact⟨k+1,by omega,by go_num,Ga s k aL HA.out hb⟩
     case measure=>simp[intOf];omega
    .have zT:L1 (s[k].toNat:Int)=false:=by simpa using hb
     go_wp2_with (go_at_call 118;refine(nM _ _).mono ?_;rintro e w' ⟨rfl,rfl⟩;rw[zT]);go_ret;exact⟨aD (Mp s k aL zT).symm,rfl⟩
   .go_wp2
    go_ret;have h2:=HA.out;rw[Mo s k (by omega)] at h2;exact⟨aD (by simp[aN,h2,We.1,We.2]),rfl⟩
 .have We:within (s.size:Int) 1 30=false:=by simpa using hz
  go_enter Tryz.func65,Tryz.ntmps65;go_wp2_with (go_at_call 70;refine(bD _ _ _ _).mono ?_;rintro e w' ⟨rfl,rfl⟩;rw[We]);go_ret;refine⟨aD ?_,rfl⟩;symm;simp only[within,Bool.and_eq_false_iff,decide_eq_false_iff_not] at We;simp only[aN,Bool.and_eq_false_iff,decide_eq_false_iff_not];rcases We with h|h
  .exact .inl (.inl (by omega))
  .exact .inl (.inr (by omega))
theorem cH{W w1:World}(hb:Below W.heap.size W w1):(∀b o,b<W.heap.size->w1.cell? ⟨b,o,Y⟩=W.cell? ⟨b,o,Y⟩)/\(∀b o,b<W.heap.size->w1.frozen? ⟨b,o,Y⟩=W.frozen? ⟨b,o,Y⟩):=
 ⟨λb o h=>hb.cell (p:=⟨b,o,Y⟩) h,λb o h=>hb.frozen (p:=⟨b,o,Y⟩) h⟩
def less(a b:ByteArray):Bool:=Jf a.toList b.toList
theorem wX:∀a:List UInt8,Jf a a=false
 |[]=>rfl
 |x::r=>by simp[Jf,wX r]
theorem tp:∀a b:List UInt8,(!(Jf a b))=(Jf b a||b==a)
 |[],[]=>rfl
 |[],_::_=>rfl
 |_::_,[]=>rfl
 |x::r,y::t=>by
  have:=tp r t;by_cases h1:x<y
  .have h2:¬ y<x:=by rw[No] at *;omega
   have h3:¬ y=x:=by rintro rfl;rw[No] at *;omega
   simp[Jf,h1,h2,h3]
  .by_cases h2:y<x
   .have h3:¬ y=x:=by rintro rfl;rw[No] at *;omega
    have h4:¬ x=y:=λh=>h3 h.symm;simp[Jf,h1,h2,h4]
   .have h3:y=x:=by
     apply UInt8.toNat_inj.1;rw[No] at *;omega
    subst h3;simp[Jf];simpa using this
def bz(a b:ByteArray):Int:=JD a.data.toList b.data.toList
theorem wj(a b:ByteArray)(w:World):(Ot 229 #[I a,I b]).run be w=.ok (.value (O J (bz a b))) w:=by
 rw[run_callFunc_extern Tryz.func229 (by kernel_rfl) (by kernel_rfl) (by kernel_rfl) (e:=Extern.BytealgCompare.compare) (by kernel_rfl),Lib.run_compareString];rfl
theorem fb(a b:ByteArray)(w:World) :
 Calls be 110 #[I a,I b] w λe w'=>e=sh (O J (bz a b))/\w'=w:=by
 have hc:=wj;go_enter Tryz.func110,Tryz.ntmps110;go_wp2;go_ret;exact⟨rfl,rfl⟩
theorem Wf:∀a b:List UInt8,JD a b<0↔Jf a b=true
 |[],[]=>by simp[JD,Jf]
 |[],_::_=>by simp[JD,Jf]
 |_::_,[]=>by simp[JD,Jf]
 |x::r,y::t=>by
  have ih:=Wf r t;by_cases h1:x<y
  .simp[JD,Jf,h1]
  .by_cases h2:y<x
   .have h3:¬ x=y:=by rintro rfl;exact h1 h2
    simp[JD,Jf,h1,h2,h3]
   .have h3:x=y:=by
     apply UInt8.toNat_inj.1;rw[No] at *;omega
    subst h3;simpa[JD,Jf] using ih
theorem Wg:∀a b:List UInt8,JD a b=0↔a=b
 |[],[]=>by simp[JD]
 |[],_::_=>by simp[JD]
 |_::_,[]=>by simp[JD]
 |x::r,y::t=>by
  have ih:=Wg r t;by_cases h1:x<y
  .have h3:¬ x=y:=by rintro rfl;rw[No] at *;omega
   simp[JD,h1,h3]
  .by_cases h2:y<x
   .have h3:¬ x=y:=by rintro rfl;exact h1 h2
    simp[JD,h1,h2,h3]
   .have h3:x=y:=by
     apply UInt8.toNat_inj.1;rw[No] at *;omega
    subst h3;simpa[JD] using ih
theorem zU:∀a b c:List UInt8,Jf a b=true->Jf b c=true->Jf a c=true
 |[],[],_,h,_=>by simp[Jf] at h
 |[],_::_,[],_,h=>by simp[Jf] at h
 |[],_::_,_::_,_,_=>by simp[Jf]
 |_::_,[],_,h,_=>by simp[Jf] at h
 |_::_,_::_,[],_,h=>by simp[Jf] at h
 |x::r,y::t,z::u,h1,h2=>by
  have ih:=zU r t u;simp only[Jf,Bool.or_eq_true,IJ,decide_eq_true_eq,beq_iff_eq] at h1 h2 ⊢;rcases h1 with h1|⟨rfl,h1⟩
  .rcases h2 with h2|⟨rfl,h2⟩
   .left;rw[No] at *;omega
   .left;exact h1
  .rcases h2 with h2|⟨rfl,h2⟩
   .left;exact h2
   .right;exact⟨rfl,ih h1 h2⟩
theorem jX{a b:ByteArray}(h:a.data.toList=b.data.toList):a=b:=by
 obtain⟨⟨la⟩⟩:=a;obtain⟨⟨lb⟩⟩:=b;simp at h;subst h;rfl
theorem fu(a b:ByteArray):bz a b<0↔less a b=true:=by
 unfold bz less;rw[Jv,Jv];exact Wf _ _
theorem cU(a b:ByteArray):bz a b=0↔a=b:=by
 unfold bz;rw[Wg];exact⟨jX,λh=>by rw[h]⟩
theorem fN{a b c:ByteArray}(h1:less a b=true)(h2:less b c=true):less a c=true:=zU _ _ _ h1 h2
theorem lY(a:ByteArray):less a a=false:=wX _
theorem CF(a b:ByteArray):less a b=true\/a=b\/less b a=true:=by
 have h:=tp a.toList b.toList;unfold less;cases h1:Jf a.toList b.toList
 .rw[h1] at h
  cases h2:Jf b.toList a.toList
  .rw[h2] at h
   right;left
   have:b.toList=a.toList:=by simpa using h.symm
   rw[Jv,Jv] at this;exact(jX this).symm
  .right;right;rfl
 .left;rfl
theorem tq{a b:ByteArray}(h1:less a b=true):less b a=false:=by
 cases h:less b a
 .rfl
 .have:=fN h1 h;rw[lY] at this;cases this
theorem mV(a b:ByteArray):0<bz a b↔less b a=true:=by
 have h1:=fu a b;have h2:=cU a b;rcases CF a b with h|rfl|h
 .have:=h1.2 h
  rw[tq h];simp;omega
 .rw[lY];have:=h2.2 rfl;simp;omega
 .rw[h]
  have h3:¬ bz a b<0:=λhh=>by rw[h1,tq h] at hh;cases hh
  have h4:¬ bz a b=0:=λhh=>by rw[h2] at hh;subst hh;rw[lY] at h;cases h
  simp;omega
theorem kQ{P:Program}(w:World)(dT sT ty elem:Jc)(g o XC ags:Nat)(a:Addr)(XD agt k:Nat)(cur:Array Value)(t:Jc)(cs:List Value)(hu:P.underlying dT=Z (.slice elem))(hs:(P.info? elem).map (·.size)=Z k)(hg:w.heap[g]?=Z (AT cur t (0,0)))(hn:cs.length=Nat.min XD XC*k)(agu:∀j v,cs[j]?=Z v->w.cell? (a.add j)=Z v)(agv:o+cs.length<=cur.size)(h1:∀v∈cs,v.oneCell'=true) : (QP #[dT,sT] ty #[U (Z ⟨g,o,Y⟩) XC ags,U (Z a) XD agt]).run P w =
   .ok (goInt (Nat.min XD XC)) (w.setRow g (cur.toList.take o++cs++cur.toList.drop (o+cs.length)).toArray):=by
 have hl:=run_loadCells_list (P:=P) w a cs agu;have tr:=run_storeCells_at P g o t cs 0 cur w hg (by simpa using agv) h1;cases hq:P.info? elem with
 |none=>simp[hq] at hs
 |some i=>
  have hi:i.size=k:=by simpa[hq] using hs
  simp[QP,run_underlying hu,Builtin.lenOf,Builtin.firstCells,sizeOf,typeInfo,hq,hi,<- hn,hl,tr]
theorem cY{P:Program}{ops:Array Oper}{o:Oper}{a:Act}{w:World}{K:Act->World->Prop}{Q:Exit->Act->World->Prop}{E:Prop}(hg:o.guard=Y)(d x:Operand)(dT sT:Jc)(hop:o.op=Op.call { callee:=Callee.builtin Builtin.copy,args:=#[d,x],argTypes:=#[dT,sT] })
 (v u:Value) (hd:a.eval d=v) (hx:a.eval x=u) {v':Value} {w':World} (hr:(QP #[dT,sT] o.type #[v,u]).run P w=.ok v' w') (hK:K (a.put o.dst v') w') :
 if Region.wanted o (yielded ops a.tmps)=true then Oper.wp P o a w K Q else E:=by
 have hw:Region.wanted o (yielded ops a.tmps)=true:=by simp[Region.wanted,hg]
 rw[if_pos hw];unfold Oper.wp;simp[execOp,hop,resolve,invoke,builtin,hd,hx,hr,Result.andThen];exact hK
theorem af{w:World}{g:Nat}{cur:Array Value}{t:Jc}{fr:Nat×Nat}(hg:w.heap[g]?=Z (AT cur t fr))(o:Nat):w.cell? ⟨g,o,Y⟩=cur[o]?:=by
 simp[World.cell?,hg]
theorem hY{a b:ByteArray}(h:a≠b):(a.toList==b.toList)=false/\¬ a.toList=b.toList:=by
 have h2:¬ a.toList=b.toList:=λe=>h (jX (by rw[Jv,Jv] at e;exact e));exact⟨by simpa using h2,h2⟩
theorem bJ{W:World}{cs:Array Value}{t:Jc}{g k:Nat}(hg:g=W.heap.size):(W.alloc (AT cs t)).cell? ⟨g,k,Y⟩=cs[k]?:=by subst hg;simp
theorem mW{w w':World}(h:w.grownBy w' Y)(row:Option Nat):w.grownBy w' row:=⟨h.os,h.tape,h.output,h.size,λk hk _=>h.block k hk (by simp)⟩
theorem cR(w:World)(A:Array Value)(T:Jc):∃W,W=w.alloc (AT A T)/\Below w.heap.size w W/\W.heap.size=w.heap.size+1/\W.heap[w.heap.size]?=Z (AT A T (0,0)):=⟨_,rfl,(Ib _ _).alloc (By _) _,by simp,Ie w _⟩
theorem bK{P:Program}{ops:Array Oper}{C:World->Prop}{R:Act->World->Prop}{w:World}{a:Act}(h:∀d os,Hid (Below w.heap.size w (Go.Sort.grow (IA w d) os))->R a (Go.Sort.grow (IA w d) os)):wpQuiet P ops C (λa=>∀w',(∃p:Regrown,w'=Go.Sort.grow (IA w p.d) p.os)->R a w') [] a:=wpQuiet_nil (λ_ ⟨p,e⟩=>e▸h p.d p.os (below_regrown w p.d p.os))
section
variable {P:Program} {S T:TypeId} {k:Nat}
theorem Mq{w:World}{g i n:Nat}{cur:Array Value}(hg:w.heap[g]?=Z (AT cur T (0,0))):∀j v,((cur.toList.take n).drop i)[j]?=Z v->w.cell? ((⟨g,i,Y⟩:Addr).add j)=Z v:=λj v hj=>by
 rw[show w.cell? ((⟨g,i,Y⟩:Addr).add j)=cur[i+j]? by rw[Addr.add_lit];exact af hg _];rw[List.getElem?_drop,List.getElem?_take] at hj;split at hj
 .simpa using hj
 .cases hj
theorem oQ(hu:P.underlying S=Z (.slice T))(bA:(P.info? T).map (·.size)=Z k){g n c i vb:Nat}{cur:Array Value}{vs:List Value}{w:World}(hg:w.heap[g]?=Z (AT cur T (0,0)))(cM:cur.size=c*k)(hi:i<n)(cV:n+1<=c)(qa:vb≠g)(hv:w.heap[vb]?=Z (AT vs.toArray T (0,0)))(oN:vs.length=k)(kR:∀v∈cur.toList.take (n*k),v.oneCell'=true)(lZ:∀v∈vs,v.oneCell'=true) :
 ∃W1 W2,(∀ty dc sc,(QP #[S,S] ty #[U (Z ⟨g,(i+1)*k,Y⟩) (n-i) dc,U (Z ⟨g,i*k,Y⟩) (n+1-i) sc]).run P w.drew=.ok (goInt (Nat.min (n+1-i) (n-i))) W1) /\
  (∀ty dc,(QP #[S,S] ty #[U (Z ⟨g,i*k,Y⟩) (n+1-i) dc,U (Z ⟨vb,0,Y⟩) 1 1]).run P W1=.ok (goInt (Nat.min 1 (n+1-i))) W2) /\
  ∃dF:Array Value,W2.heap[g]?=Z (AT dF T (0,0))/\dF.size=c*k/\dF.toList.take ((n+1)*k)=cur.toList.take (i*k)++vs++(cur.toList.take (n*k)).drop (i*k)/\w.grownBy W2 (Z g):=by
 have m1:(i+1)*k=i*k+k:=Nat.succ_mul i k;have m2:(n+1)*k=n*k+k:=Nat.succ_mul n k;have m3:i*k<=n*k:=OY k (by omega);have m4:(n+1)*k<=c*k:=OY k cV;have m5:(n-i)*k=n*k-i*k:=Nat.sub_mul n i k;have SV:((cur.toList.take (n*k)).drop (i*k)).length=(n-i)*k:=by
  simp only[Jr,Iu,IQ];omega
 have hX1:∀v∈(cur.toList.take (n*k)).drop (i*k),v.oneCell'=true:=λv hv=>kR v (Ue hv);have hXs:=Mq (w:=w.drew) (i:=i*k) (n:=n*k) hg;generalize hX:(cur.toList.take (n*k)).drop (i*k)=X at *;obtain⟨C1,Wi⟩:∃C1:Array Value,C1=(cur.toList.take ((i+1)*k)++X++cur.toList.drop ((i+1)*k+X.length)).toArray:=⟨_,rfl⟩;obtain⟨W1,e9⟩:∃W1,W1=w.drew.setRow g C1:=⟨_,rfl⟩;have bb:W1.heap[g]?=Z (AT C1 T (0,0)):=by rw[e9];exact setRow_heap w.drew g cur C1 T (0,0) hg
 have wY:∀q,q≠g->W1.heap[q]?=w.heap[q]?:=λq hq=>by rw[e9,setRow_other w.drew g q C1 hq];rfl
 have Wj:W1.heap[vb]?=Z (AT vs.toArray T (0,0)):=by rw[wY vb qa];exact hv
 have gI:C1.size=c*k:=by
  rw[Wi];simp only[Oa,Ii,Iu,Jr,IQ,SV,cM];omega
 obtain⟨C2,XE⟩:∃C2:Array Value,C2=(C1.toList.take (i*k)++vs++C1.toList.drop (i*k+vs.length)).toArray:=⟨_,rfl⟩;obtain⟨W2,eX⟩:∃W2,W2=W1.setRow g C2:=⟨_,rfl⟩;refine⟨W1,W2,λty dc sc=>?_,λty dc=>?_,C2,by rw[eX];exact setRow_heap W1 g C1 C2 T (0,0) bb,?_,?_,⟨by rw[eX,e9];rfl,by rw[eX,e9];rfl,by rw[eX,e9];rfl,by rw[eX,e9];simp[World.setRow],λq _ hq=>?_⟩⟩
 .rw[e9,Wi]
  exact kQ w.drew S S ty T g ((i+1)*k) (n-i) dc ⟨g,i*k,Y⟩ (n+1-i) sc k cur T X hu bA hg (by rw[SV];congr 1;simp only[Nat.min_def];split<;>omega) hXs (by rw[SV,cM];omega) hX1
 .rw[eX,XE]
  exact kQ W1 S S ty T g (i*k) (n+1-i) dc ⟨vb,0,Y⟩ 1 1 k C1 T vs hu bA bb (by rw[oN,show Nat.min 1 (n+1-i)=1 by simp only[Nat.min_def];split<;>omega,Nat.one_mul]) (λj v hj=>by rw[Addr.add_lit,af Wj];simpa using hj) (by rw[oN,gI];omega) lZ
 .rw[XE];simp only[Oa,Ii,Iu,Jr,IQ,oN,gI];omega
 .have e1:C1.toList.take (i*k)=cur.toList.take (i*k):=by
   rw[Wi];simp only[I1];rw[List.take_append_of_le_length (by simp only[Iu,IQ,cM];omega),List.take_take];congr 1;omega
  have e2:C1.toList.drop (i*k+vs.length)=X++cur.toList.drop ((i+1)*k+X.length):=by
   rw[Wi];simp only[I1];rw[List.drop_append_of_le_length (by simp only[Iu,IQ,cM];omega),List.drop_of_length_le (by simp only[Iu,IQ,cM];omega),List.nil_append]
  rw[XE,e1,e2];simp only[I1];rw[<- I1 vs,<- I1 (List.take (i*k) cur.toList)];exact Qs (by simp only[Ii,Iu,IQ,cM,oN,SV];omega)
 .have hq':q≠g:=λe=>hq (by rw[e])
  rw[eX,setRow_other W1 g q C2 hq',wY q hq']
theorem oR(hu:P.underlying S=Z (.slice T))(bA:(P.info? T).map (·.size)=Z k){g c i vb G:Nat}{cur lE:Array Value}{vs:List Value}{w:World}(hg:w.heap[g]?=Z (AT cur T (0,0)))(cM:cur.size=c*k)(hi:i<c)(hv:w.heap[vb]?=Z (AT vs.toArray T (0,0)))(oN:vs.length=k)(kR:∀v∈cur.toList.take (c*k),v.oneCell'=true)(lZ:∀v∈vs,v.oneCell'=true)(kT:c+1<=G)(Cs:lE.size=G*k)(Gb:lE.toList.take (i*k)=cur.toList.take (i*k)) :
 ∃W2 W3,(∀ty dc,(QP #[S,S] ty #[U (Z ⟨w.heap.size,i*k,Y⟩) (c+1-i) dc,U (Z ⟨vb,0,Y⟩) 1 1]).run P ((w.alloc (AT lE T)).drew)=.ok (goInt (Nat.min 1 (c+1-i))) W2) /\
  (∀ty dc sc,(QP #[S,S] ty #[U (Z ⟨w.heap.size,(i+1)*k,Y⟩) (c-i) dc,U (Z ⟨g,i*k,Y⟩) (c-i) sc]).run P W2.drew=.ok (goInt (Nat.min (c-i) (c-i))) W3) /\
  ∃dF:Array Value,W3.heap[w.heap.size]?=Z (AT dF T (0,0))/\dF.size=G*k/\dF.toList.take ((c+1)*k)=cur.toList.take (i*k)++vs++(cur.toList.take (c*k)).drop (i*k)/\w.grownBy W3 Y:=by
 have nN:g<w.heap.size:=(Ia.1 hg).1;have hvw:vb<w.heap.size:=(Ia.1 hv).1;have m1:(i+1)*k=i*k+k:=Nat.succ_mul i k;have m2:(c+1)*k=c*k+k:=Nat.succ_mul c k;have m3:i*k<=c*k:=OY k (by omega);have m4:(c+1)*k<=G*k:=OY k kT;have m5:(c-i)*k=c*k-i*k:=Nat.sub_mul c i k;obtain⟨W1,e9⟩:∃W1,W1=(w.alloc (AT lE T)).drew:=⟨_,rfl⟩;rw[<- e9];have bb:W1.heap[w.heap.size]?=Z (AT lE T (0,0)):=by rw[e9];exact Ie w _
 have wY:∀q,q<w.heap.size->W1.heap[q]?=w.heap[q]?:=λq hq=>by rw[e9];exact Below.heap_alloc w _ q hq
 have Wj:W1.heap[vb]?=Z (AT vs.toArray T (0,0)):=by rw[wY vb hvw];exact hv
 obtain⟨C1,Wi⟩:∃C1:Array Value,C1=(lE.toList.take (i*k)++vs++lE.toList.drop (i*k+vs.length)).toArray:=⟨_,rfl⟩;obtain⟨W2,eX⟩:∃W2,W2=W1.setRow w.heap.size C1:=⟨_,rfl⟩;have iL:W2.drew.heap[w.heap.size]?=Z (AT C1 T (0,0)):=by rw[eX];exact setRow_heap W1 w.heap.size lE C1 T (0,0) bb
 have ly:∀q,q<w.heap.size->W2.drew.heap[q]?=w.heap[q]?:=λq hq=>by
  have:=setRow_other W1 w.heap.size q C1 (by omega);rw[<- eX] at this;exact this.trans (wY q hq)
 have gI:C1.size=G*k:=by
  rw[Wi];simp only[Oa,Ii,Iu,Jr,IQ,oN,Cs];omega
 have SV:((cur.toList.take (c*k)).drop (i*k)).length=(c-i)*k:=by
  simp only[Jr,Iu,IQ];omega
 have hX1:∀v∈(cur.toList.take (c*k)).drop (i*k),v.oneCell'=true:=λv hv=>kR v (Ue hv);have hXs:=Mq (w:=W2.drew) (i:=i*k) (n:=c*k) ((ly g nN).trans hg);generalize hX:(cur.toList.take (c*k)).drop (i*k)=X at *;obtain⟨C2,XE⟩:∃C2:Array Value,C2=(C1.toList.take ((i+1)*k)++X++C1.toList.drop ((i+1)*k+X.length)).toArray:=⟨_,rfl⟩;obtain⟨W3,kL⟩:∃W3,W3=W2.drew.setRow w.heap.size C2:=⟨_,rfl⟩;refine⟨W2,W3,λty dc=>?_,λty dc sc=>?_,C2,by rw[kL];exact setRow_heap W2.drew w.heap.size C1 C2 T (0,0) iL,?_,?_,⟨by rw[kL,eX,e9];rfl,by rw[kL,eX,e9];rfl,by rw[kL,eX,e9];rfl,by rw[kL,eX,e9];simp[World.setRow],λq hq _=>by rw[kL,setRow_other W2.drew w.heap.size q C2 (by omega),ly q hq]⟩⟩
 .rw[eX,Wi]
  exact kQ W1 S S ty T w.heap.size (i*k) (c+1-i) dc ⟨vb,0,Y⟩ 1 1 k lE T vs hu bA bb (by rw[oN,show Nat.min 1 (c+1-i)=1 by simp only[Nat.min_def];split<;>omega,Nat.one_mul]) (λj v hj=>by rw[Addr.add_lit,af Wj];simpa using hj) (by rw[oN,Cs];omega) lZ
 .rw[kL,XE]
  exact kQ W2.drew S S ty T w.heap.size ((i+1)*k) (c-i) dc ⟨g,i*k,Y⟩ (c-i) sc k C1 T X hu bA iL (by rw[SV];congr 1;simp only[Nat.min_def];split<;>omega) hXs (by rw[SV,gI];omega) hX1
 .rw[XE];simp only[Oa,Ii,Iu,Jr,IQ,SV,gI];omega
 .have e1:C1.toList.take ((i+1)*k)=cur.toList.take (i*k)++vs:=by
   rw[Wi,Gb];exact Qs (by simp only[Ii,Iu,IQ,cM,oN];omega)
  rw[XE,e1];exact Qs (by simp only[Ii,Iu,IQ,cM,oN,SV];omega)
end
end Go.Proofs.YtfidjlcdlakceaaGreatDoor
namespace Go.Proofs
open Go.Shelf
def Tryz.zV:Go.Shelf.Ren:=⟨fun|125=>159|128=>215|129=>216|n=>n,fun|46=>192|3=>3|51=>260|53=>262|4=>4|5=>5|9=>9|n=>n,fun|n=>n⟩
theorem Tryz.SX:Go.Proofs.Lays.n125 be Tryz.zV:={
 mixed:=by kernel_rfl
 f125:=Tryz.func159.trans (congrArg Z (by kernel_rfl))
 f128:=Tryz.func215.trans (congrArg Z (by kernel_rfl))
 f129:=Tryz.func216.trans (congrArg Z (by kernel_rfl))
 t3:=IG
 a3:=J0
 z3:=JN
 v3:=JR
 t4:=Jq
 a4:=Ou
 z4:=Og
 v4:=JS
 t5:=Js
 a5:=Qm
 z5:=O5
 v5:=Ov
 t9:=IE
 a9:=Ob
 z9:=JX
 v9:=J3
 t46:=Oz
 a46:=Qy
 z46:=Qf
 v46:=OG
 t51:=OA
 a51:=Qz
 z51:=Qg
 v51:=OH
 t53:=Tryz.underlying262
 a53:=Tryz.isAgg262
 z53:=Tryz.sizeOf262
 v53:=Tryz.zeroValue262 }
theorem Tryz.bits_Len(x:Int)(w:World)(h0:0<=x)(h1:x<=18446744073709551615) :
 Calls be 159 #[O .u64 x] w λe w'=>e=sh (O J (Lib.bitLen x.toNat))/\w'=w:=Any.bits_Len Tryz.SX x w h0 h1
def Tryz.zW:Go.Shelf.Ren:=⟨fun|219=>170|217=>233|225=>234|224=>235|267=>236|266=>261|314=>262|n=>n,fun|9=>9|3=>3|4=>4|5=>5|46=>192|146=>294|51=>260|n=>n,fun|1=>0|n=>n⟩
theorem Tryz.SY:Go.Proofs.Lays.n219 be Tryz.zW:={
 mixed:=by kernel_rfl
 f217:=Tryz.func233.trans (congrArg Z (by kernel_rfl))
 f219:=Tryz.func170.trans (congrArg Z (by kernel_rfl))
 f224:=Tryz.func235.trans (congrArg Z (by kernel_rfl))
 f225:=Tryz.func234.trans (congrArg Z (by kernel_rfl))
 f266:=Tryz.func261.trans (congrArg Z (by kernel_rfl))
 f267:=Tryz.func236.trans (congrArg Z (by kernel_rfl))
 f314:=Tryz.func262.trans (congrArg Z (by kernel_rfl))
 t3:=IG
 a3:=J0
 z3:=JN
 v3:=JR
 t4:=Jq
 a4:=Ou
 z4:=Og
 v4:=JS
 t5:=Js
 a5:=Qm
 z5:=O5
 v5:=Ov
 t9:=IE
 a9:=Ob
 z9:=JX
 v9:=J3
 t46:=Oz
 a46:=Qy
 z46:=Qf
 v46:=OG
 t51:=OA
 a51:=Qz
 z51:=Qg
 v51:=OH
 t146:=Uy
 a146:=Tryz.isAgg294
 z146:=Tryz.sizeOf294
 v146:=Tryz.zeroValue294
 g1:=by kernel_rfl }
open Go.RowKit Go.Lib in
theorem Tryz.stringslite_Index_one(s:ByteArray)(c:UInt8)(w:World) :
 Calls be 170 #[I s,I ⟨#[c]⟩] w λe w'=>e=sh (O J (JG s.data.toList c))/\w'=w:=Any.stringslite_Index_one Tryz.SY s c w
def Tryz.zX:Go.Shelf.Ren:=⟨fun|138=>67|195=>120|218=>121|143=>122|219=>170|217=>233|225=>234|224=>235|267=>236|266=>261|314=>262|n=>n,fun|9=>9|3=>3|4=>4|5=>5|0=>0|46=>192|146=>294|51=>260|n=>n,fun|1=>0|n=>n⟩
theorem Tryz.SZ:Go.Proofs.Lays.n138 be Tryz.zX:={
 mixed:=by kernel_rfl
 f138:=Tryz.func67.trans (congrArg Z (by kernel_rfl))
 f143:=Tryz.func122.trans (congrArg Z (by kernel_rfl))
 f195:=Tryz.func120.trans (congrArg Z (by kernel_rfl))
 f217:=Tryz.func233.trans (congrArg Z (by kernel_rfl))
 f218:=Tryz.func121.trans (congrArg Z (by kernel_rfl))
 f219:=Tryz.func170.trans (congrArg Z (by kernel_rfl))
 f224:=Tryz.func235.trans (congrArg Z (by kernel_rfl))
 f225:=Tryz.func234.trans (congrArg Z (by kernel_rfl))
 f266:=Tryz.func261.trans (congrArg Z (by kernel_rfl))
 f267:=Tryz.func236.trans (congrArg Z (by kernel_rfl))
 f314:=Tryz.func262.trans (congrArg Z (by kernel_rfl))
 t0:=Tryz.underlying0
 a0:=Tryz.isAgg0
 z0:=Tryz.sizeOf0
 v0:=Tryz.zeroValue0
 t3:=IG
 a3:=J0
 z3:=JN
 v3:=JR
 t4:=Jq
 a4:=Ou
 z4:=Og
 v4:=JS
 t5:=Js
 a5:=Qm
 z5:=O5
 v5:=Ov
 t9:=IE
 a9:=Ob
 z9:=JX
 v9:=J3
 t46:=Oz
 a46:=Qy
 z46:=Qf
 v46:=OG
 t51:=OA
 a51:=Qz
 z51:=Qg
 v51:=OH
 t146:=Uy
 a146:=Tryz.isAgg294
 z146:=Tryz.sizeOf294
 v146:=Tryz.zeroValue294
 g1:=by kernel_rfl }
open Go.RowKit Go.Lib in
theorem Tryz.strings_Count_one(s:ByteArray)(c:UInt8)(w:World) :
 Calls be 67 #[I s,I ⟨#[c]⟩] w λe w'=>e=sh (O J (Lib.countByte s.data.toList c))/\w'=w:=Any.strings_Count_one Tryz.SZ s c w
end Go.Proofs
namespace Go.Proofs.YtfidjlcdlakceaaGreatDoor
open Go.RowKit
theorem n9(ss:List ByteArray)(b cap:Nat)(w:World)(hb:∀j,j<ss.length->w.cell? ⟨b,j,Y⟩=Z (I (ss.getD j Ih)))(hs:∀j,(ss.getD j Ih).size<=Ij)(hn:ss.length<=1000) :
 aP 43 #[U (Z ⟨b,0,Y⟩) ss.length cap] w λe w'=>e=sh (AI (ss.all aN))/\w'=w:=by
 have HB:Hid _:=hb;have HS:Hid _:=hs;have H0:Hid ((∀j,j<ss.length->aN (ss.getD j Ih)=true)->ss.all aN=true):=λh=>by
  rw[J5];intro x hx;obtain⟨j,hj,rfl⟩:=Jw hx;have:=h j hj;simpa[Io,Ic hj] using this
 have H1:Hid (∀j,j<ss.length->aN (ss.getD j Ih)=false->ss.all aN=false):=λj hj h=>by
  rw[List.all_eq_false];refine⟨ss[j],IV hj,?_⟩;rw[show ss.getD j Ih=ss[j] by simp[Io,Ic hj]] at h;simp[h]
 clear hb hs;generalize ss.all aN=res at *;generalize hN:ss.length=n at *;clear hN;go_enter Tryz.func43,Tryz.ntmps43;go_wp2_with fail;go_loop [7] (λi=>∃k:Nat,k<=n/\i=O J k/\Hid (∀j,j<k->aN (ss.getD j Ih)=true)) (λi=>n-(intOf i).toNat)
 case atStart=>exact⟨0,II _,rfl,λj h=>absurd h (Ji _)⟩
 case round=>
  obtain⟨k,hk,rfl,hz⟩:=hrel;by_cases aL:k<n
  .have hc:=HB.out k aL
   have Ta:=HS.out k;have HZ:Hid (aN (ss.getD k Ih)=true->∀j,j<k+1->aN (ss.getD j Ih)=true):=λh j hj=>by
    rcases Jj.1 hj with h2|rfl
    .exact hz.out j h2
    .exact h
   have HF:Hid (aN (ss.getD k Ih)=false->res=false):=λh=>H1.out k aL h;generalize ss.getD k Ih=s at *;rcases hl:aN s with _|_
   .have HR:Hid _:=HF.out hl
    go_wp2_with (go_at_call 65;refine(bc _ _ Ta).mono ?_;rintro e w' ⟨rfl,rfl⟩;rw[hl]);go_ret;exact⟨aD HR.out.symm,rfl⟩
   .go_wp2_with (go_at_call 65;refine(bc _ _ Ta).mono ?_;rintro e w' ⟨rfl,rfl⟩;rw[hl])
    go_round
    case rel=>exact⟨k+1,by omega,by go_num,HZ.out hl⟩
    case measure=>simp[intOf];omega
  .have HR:Hid _:=H0.out λj hj=>hz.out j (by omega)
   go_wp2_with fail;go_ret;exact⟨aD HR.out.symm,rfl⟩
def fF(t:ByteArray):Bool:=decide (t=Ih)||aN t
theorem rz(ss:List ByteArray)(b cap:Nat)(w:World)(hb:∀j,j<ss.length->w.cell? ⟨b,j,Y⟩=Z (I (ss.getD j Ih)))(hs:∀j,(ss.getD j Ih).size<=Ij)(hn:ss.length<=1000) :
 aP 59 #[U (Z ⟨b,0,Y⟩) ss.length cap] w λe w'=>e=sh (AI (ss.all fF))/\w'=w:=by
 have HB:Hid _:=hb;have HS:Hid _:=hs;have H0:Hid ((∀j,j<ss.length->fF (ss.getD j Ih)=true)->ss.all fF=true):=λh=>by
  rw[J5];intro x hx;obtain⟨j,hj,rfl⟩:=Jw hx;have:=h j hj;simpa[Io,Ic hj] using this
 have H1:Hid (∀j,j<ss.length->fF (ss.getD j Ih)=false->ss.all fF=false):=λj hj h=>by
  rw[List.all_eq_false];refine⟨ss[j],IV hj,?_⟩;rw[show ss.getD j Ih=ss[j] by simp[Io,Ic hj]] at h;simp[h]
 clear hb hs;generalize ss.all fF=res at *;generalize hN:ss.length=n at *;clear hN;go_enter Tryz.func59,Tryz.ntmps59;go_wp2_with fail;go_loop [7] (λi=>∃k:Nat,k<=n/\i=O J k/\Hid (∀j,j<k->fF (ss.getD j Ih)=true)) (λi=>n-(intOf i).toNat)
 case atStart=>exact⟨0,II _,rfl,λj h=>absurd h (Ji _)⟩
 case round=>
  obtain⟨k,hk,rfl,hz⟩:=hrel;by_cases aL:k<n
  .have hc:=HB.out k aL
   have Ta:=HS.out k;have HZ:Hid (fF (ss.getD k Ih)=true->∀j,j<k+1->fF (ss.getD j Ih)=true):=λh j hj=>by
    rcases Jj.1 hj with h2|rfl
    .exact hz.out j h2
    .exact h
   have HF:Hid (fF (ss.getD k Ih)=false->res=false):=λh=>H1.out k aL h;generalize ss.getD k Ih=s at *;by_cases hse:s=Ih
   .subst hse
    have iS:Hid _:=HZ.out (by simp[fF]);clear HZ HF;go_wp2_with fail;go_round
    case rel=>exact⟨k+1,by omega,by go_num,iS.out⟩
    case measure=>simp[intOf];omega
   .have HE:Hid (fF s=aN s):=(show fF s=aN s by simp[fF,hse])
    obtain⟨h1,h2⟩:=hY hse;have h3:¬ s.toList=[]:=λe=>h2 (by rw[e,Jv];rfl);have h4:(s.toList==[])=false:=by simpa using h3
    clear hse;rcases hl:aN s with _|_
    .have HR:Hid _:=HF.out (by rw[HE.out,hl])
     go_wp2_with (go_at_call 65;refine(bc _ _ Ta).mono ?_;rintro e w' ⟨rfl,rfl⟩;rw[hl]);go_ret;exact⟨aD HR.out.symm,rfl⟩
    .have iS:Hid _:=HZ.out (by rw[HE.out,hl])
     clear HZ HF;go_wp2_with (go_at_call 65;refine(bc _ _ Ta).mono ?_;rintro e w' ⟨rfl,rfl⟩;rw[hl]);go_round
     case rel=>exact⟨k+1,by omega,by go_num,iS.out⟩
     case measure=>simp[intOf];omega
  .have HR:Hid _:=H0.out λj hj=>hz.out j (by omega)
   go_wp2_with fail;go_ret;exact⟨aD HR.out.symm,rfl⟩
theorem Mr(t:ByteArray)(W:World)(g:Nat)(hs:t.size<=Ij)(hg:W.heap[g]?=Z (AT #[I t] 9 (0,0))) :
 aP 59 #[U (Z ⟨g,0,Y⟩) 1 1] W λe w'=>e=sh (AI (fF t))/\w'=W:=by
 have h:=rz [t] g 1 W (λj hj=>by
  rw[af hg]
  have:j=0:=by simp at hj;omega
  subst this;rfl) (λj=>by
  match j with
  |0=>exact hs
  |_+1=>simp[Io]) (by simp)
 simpa using h
theorem Gc(W:World)(c:Value):(W.alloc (AT #[c] 9)).heap[W.heap.size]?=Z (AT #[c] 9 (0,0)):=by
 have h:=Ie W (AT #[c] 9);simpa using h
def gN:List UInt8->List (List UInt8)
 |[]=>[[]]
 |c::r=>if c=46 then[]::gN r else match gN r with
  |[]=>[[c]]
  |x::xs=>(c::x)::xs
def jn:List (List UInt8)->List UInt8
 |[]=>[]
 |[x]=>x
 |x::y::r=>x++46::jn (y::r)
theorem ye:∀l,gN l≠[]
 |[]=>by simp[gN]
 |c::r=>by
  unfold gN;split
  .simp
  .split<;>simp
theorem sK(r:List UInt8):gN (46::r)=[]::gN r:=by rw[gN,if_pos rfl]
theorem ma{c:UInt8}(h:c≠46){r x:List UInt8}{xs:List (List UInt8)}(hr:gN r=x::xs):gN (c::r)=(c::x)::xs:=by
 rw[gN,if_neg h,hr]
theorem sL:∀(a b:List UInt8),46 ∉ a->gN (a++46::b)=a::gN b
 |[],b,_=>sK b
 |c::a,b,h=>by
  have h1:c≠46:=λe=>h (by rw[e];exact JO);have h2:46 ∉ a:=λe=>h (Oj _ e);rw[OQ];exact ma h1 (sL a b h2)
theorem mf:∀(a:List UInt8),46 ∉ a->gN a=[a]
 |[],_=>rfl
 |c::a,h=>by
  have h1:c≠46:=λe=>h (by rw[e];exact JO);have h2:46 ∉ a:=λe=>h (Oj _ e);exact ma h1 (mf a h2)
theorem yf:∀(l:List UInt8),(gN l).length=l.count 46+1
 |[]=>rfl
 |c::r=>by
  have ih:=yf r;by_cases h:c=46
  .subst h
   rw[sK,IY,ih,List.count_cons_self]
  .obtain⟨x,xs,hr⟩:=Uh (ye r)
   rw[ma h hr,IY,List.count_cons_of_ne h];rw[hr,IY] at ih;exact ih
theorem Tb(c:UInt8)(x:List UInt8)(xs:List (List UInt8)):jn ((c::x)::xs)=c::jn (x::xs):=by
 cases xs<;>rfl
theorem Mt:∀(l:List UInt8),jn (gN l)=l
 |[]=>rfl
 |c::r=>by
  have ih:=Mt r;obtain⟨y,ys,hr⟩:=Uh (ye r);by_cases h:c=46
  .subst h
   rw[sK,hr];rw[hr] at ih;show[]++46::jn (y::ys)=_;rw[ih];rfl
  .rw[ma h hr,Tb,<- hr,ih]
theorem Mu:∀(xs:List (List UInt8)),xs≠[]->(∀x∈xs,46 ∉ x)->gN (jn xs)=xs
 |[],h,_=>absurd rfl h
 |[x],_,h=>mf x (h x JO)
 |x::y::r,_,h=>by
  show gN (x++46::jn (y::r))=_;rw[sL _ _ (h x JO),Mu (y::r) (by simp) (λz hz=>h z (Oj _ hz))]
theorem yg:∀{l:List UInt8},JG l 46 = -1->46 ∉ l
 |[],_=>by simp
 |c::r,h=>by
  unfold JG at h;split at h
  .omega
  .rename_i hc
   split at h
   .rename_i h2
    intro hm;rcases Jd.1 hm with e|e
    .subst e;simp at hc
    .exact yg (by simpa using h2) e
   .have:=Lib.indexByte_ge r 46;omega
theorem sM:∀{l:List UInt8} {i:Nat},JG l 46=(i:Int)->i<l.length/\l=l.take i++46::l.drop (i+1)/\46 ∉ l.take i
 |[],i,h=>by unfold JG at h;omega
 |c::r,i,h=>by
  unfold JG at h;split at h
  .rename_i hc
   have:i=0:=by omega
   subst this
   have:c=46:=by simpa using hc
   subst this;simp
  .rename_i hc
   split at h
   .omega
   .rename_i h2
    have hg:=Lib.indexByte_ge r 46
    obtain⟨j,rfl⟩:∃j,i=j+1:=⟨i-1,by have:JG r 46 ≠ -1:=by simpa using h2
                                    omega⟩
    obtain⟨h3,h4,h5⟩:=sM (l:=r) (i:=j) (by omega);refine⟨by simpa using h3,?_,?_⟩
    .simp only[On,List.drop_succ_cons,OQ]
     rw[<- h4]
    .simp only[On]
     intro hm;rcases Jd.1 hm with e|e
     .subst e;simp at hc
     .exact h5 e
def mk(l:List UInt8):ByteArray:=⟨l.toArray⟩
theorem mk_data(s:ByteArray):mk s.data.toList=s:=by cases s;simp[mk]
theorem jQ(l:List UInt8):(mk l).data.toList=l:=by simp[mk]
theorem gZ(l:List UInt8):(mk l).size=l.length:=by simp[mk,JJ]
def jY(l:List UInt8):Bool:=aN (mk l)
theorem Gd{l:List UInt8}(h:jY l=true):46 ∉ l:=λhm=>by
 unfold jY aN at h;simp only[IJ,J5,jQ] at h;have:=h.2 46 hm
 revert this;decide
theorem Ge{l:List UInt8}(h:jY l=true):1<=l.length/\l.length<=30:=by
 unfold jY aN at h;simp only[IJ,decide_eq_true_eq,gZ] at h;exact h.1
def bT(s:ByteArray):Int:=
 if s.size=0 then 0 else if(gN s.data.toList).all jY=false then 1 else if 8<(gN s.data.toList).length\/120<s.size then 2 else 0
theorem Mv{B:Nat}{w w1:World}(h:Below B w w1)(m:Nat):Below B w (w1.drewN m):=⟨h.os,h.tape,h.output,h.size,h.block⟩
theorem Mw(s:ByteArray)(i:Nat):s.extract 0 i=mk (s.data.toList.take i):=by
 rw[<- mk_data (s.extract 0 i),Lib.extract_from_zero]
theorem tt(s:ByteArray)(i:Nat):s.extract i s.size=mk (s.data.toList.drop i):=by
 rw[<- mk_data (s.extract i s.size),Lib.extract_to_end]
theorem Gf(s:ByteArray)(w:World)(h:JG s.data.toList 46 = -1) :
 Calls be 169 #[I s,I ⟨#[46]⟩] w λe w'=>e=sh (Il #[I s,I ⟨#[]⟩,AI false])/\w'=w:=by
 go_enter Tryz.func169,Tryz.ntmps169;go_wp2_with (go_at_call 170;refine(Tryz.stringslite_Index_one s 46 _).mono ?_;rintro e w' ⟨rfl,rfl⟩;rw[h]);go_ret3
 exact⟨rfl,rfl⟩
theorem Gg(s:ByteArray)(i:Nat)(w:World)(h:JG s.data.toList 46=(i:Int))(hs:s.size<=Ij) :
 Calls be 169 #[I s,I ⟨#[46]⟩] w λe w'=>e=sh (Il #[I (s.extract 0 i),I (s.extract (i+1) s.size),AI true])/\∃n,w'=w.drewN n:=by
 have hi:i<s.size:=by have:=(sM h).1;simpa using this
 unfold Ij at hs;have h0:((i:Int)).toNat=i:=by omega
 have h1:IntKind.i64.wrap ((i:Int)+1)=((i+1:Nat):Int):=by rw[IntKind.wrap_i64];omega
 have h2:(((i+1:Nat):Int)).toNat=i+1:=by omega
 have h3:((s.size:Int)).toNat=s.size:=by omega
 go_enter Tryz.func169,Tryz.ntmps169;go_wp2_with (go_at_call 170;refine(Tryz.stringslite_Index_one s 46 _).mono ?_;rintro e w' ⟨rfl,rfl⟩;rw[h]);go_quiet (fail)
 go_wp2_with fail;go_ret3
 exact⟨rfl,⟨_,rfl⟩⟩
theorem Mx(s:ByteArray)(w:World)(h:JG s.data.toList 46 = -1) :
 Calls be 119 #[I s,I ⟨#[46]⟩] w λe w'=>e=sh (Il #[I s,I ⟨#[]⟩,AI false])/\Below w.heap.size w w':=by
 go_enter Tryz.func119,Tryz.ntmps119;go_wp2_with (go_at_call 169;refine(Gf s _ h).mono ?_;rintro e w' ⟨rfl,rfl⟩);go_ret3
 exact⟨rfl,Ib _ _⟩
theorem My(s:ByteArray)(i:Nat)(w:World)(h:JG s.data.toList 46=(i:Int))(hs:s.size<=Ij) :
 Calls be 119 #[I s,I ⟨#[46]⟩] w λe w'=>e=sh (Il #[I (s.extract 0 i),I (s.extract (i+1) s.size),AI true])/\Below w.heap.size w w':=by
 go_enter Tryz.func119,Tryz.ntmps119;go_wp2_with (go_at_call 169;refine(Gg s i _ h hs).mono ?_;rintro e w' ⟨rfl,n,rfl⟩);go_ret3
 exact⟨rfl,Mv (Ib _ _) _⟩
theorem kU(s:ByteArray)(w:World)(hs:s.size<=Ij) :
 Calls be 64 #[I s] w λe w'=>e=sh (AI (!aN s))/\w'=w:=by
 go_enter Tryz.func64,Tryz.ntmps64;go_wp2_with (go_at_call 65;refine(bc _ _ hs).mono ?_;rintro e w' ⟨rfl,rfl⟩);go_ret;exact⟨rfl,rfl⟩
def Tc:Value->Nat
 | I r=>r.size
 |_=>0
def tOf:Value->Nat
 | AI true=>1
 |_=>0
theorem XF(r:ByteArray):Tc (I ⟨#[]⟩)+tOf (AI false)<Tc (I r)+tOf (AI true):=by
 show 0+0<r.size+1;omega
theorem yh(s:ByteArray)(w:World)(hs:s.size<=Ij) :
 Calls be 66 #[I s,IZ (.func 64) #[] #[]] w λe w'=>e=sh (AI (!(gN s.data.toList).all jY))/\Below w.heap.size w w':=by
 have H0:Hid ((gN s.data.toList).all jY=(gN s.data.toList).all jY):=rfl;have HS:Hid (∀r:ByteArray,r=s->r.size<=Ij):=λr h=>by rw[h];exact hs
 have Wl:=HS.out s rfl;generalize lF:(gN s.data.toList).all jY=res at *;have H1:Hid (res=(gN s.data.toList).all jY):=lF.symm;clear lF H0 HS hs;go_enter Tryz.func66,Tryz.ntmps66;go_wp2_with fail;go_loopw [0,5] (λnm mo wr=>∃r:ByteArray,nm=I r/\r.size<=Ij/\((mo=AI true/\Hid (res=(gN r.data.toList).all jY))\/(mo=AI false/\Hid (res=true)))/\Below w.heap.size w wr) (λnm mo _=>Tc nm+tOf mo)
 case atStart=>exact⟨s,rfl,Wl,.inl ⟨rfl,H1⟩,Ib _ _⟩
 case round=>
  obtain⟨r,rfl,hr,Gh,aU⟩:=hrel;have HB:Hid (Below w.heap.size w wr):=aU;clear aU;rcases Gh with⟨rfl,lF⟩|⟨rfl,lF⟩
  .have j6:=Lib.indexByte_ge r.data.toList 46
   by_cases hi:JG r.data.toList 46 = -1
   .have hL:res=aN r:=by rw[lF.out,mf _ (yg hi)];simp[jY,mk_data]
    have HC:Hid (∀W,Calls be 119 #[I r,I ⟨#[46]⟩] W λe w'=>e=sh (Il #[I r,I ⟨#[]⟩,AI false])/\Below W.heap.size W w'):=λW=>Mx r W hi;clear hi j6 lF;rcases hb:aN r with _|_
    .rw[hb] at hL
     have HL:Hid (res=false):=hL;clear hL;go_wp2_with (first|(go_at_call 119;refine(HC.out _).mono ?_;rintro e w1 ⟨rfl,al⟩)|(go_at_call 64;refine(kU r _ hr).mono ?_;rintro e w2 ⟨rfl,rfl⟩;rw[hb]));go_ret;exact⟨aD (by rw[HL.out];rfl),HB.out.trans (al.mono HB.out.size)⟩
    .rw[hb] at hL
     have HL:Hid (res=true):=hL;clear hL;go_wp2_with (first|(go_at_call 119;refine(HC.out _).mono ?_;rintro e w1 ⟨rfl,al⟩)|(go_at_call 64;refine(kU r _ hr).mono ?_;rintro e w2 ⟨rfl,rfl⟩;rw[hb]));exact⟨⟨⟨#[]⟩,rfl,by decide,.inr ⟨rfl,HL⟩,HB.out.trans (al.mono HB.out.size)⟩,XF r⟩
   .obtain⟨i,Gi⟩:∃i:Nat,JG r.data.toList 46=(i:Int):=⟨(JG r.data.toList 46).toNat,by omega⟩
    obtain⟨h1,h2,h3⟩:=sM Gi;have aL:i<r.size:=by simpa using h1
    have hL:res=(aN (r.extract 0 i)&&(gN (r.extract (i+1) r.size).data.toList).all jY):=by
     rw[lF.out,Mw,tt,jQ]
     conv=>lhs;rw[h2]
     rw[sL _ _ h3,List.all_cons];rfl
    have cS:(r.extract 0 i).size<=Ij:=by rw[Mw,gZ,Iu];simp;unfold Ij at *;omega
    have iX:(r.extract (i+1) r.size).size<=Ij:=by rw[tt,gZ,Jr];simp;unfold Ij at *;omega
    have lN:(r.extract (i+1) r.size).size<r.size:=by rw[tt,gZ,Jr];simp;omega
    have HC:Hid (∀W,Calls be 119 #[I r,I ⟨#[46]⟩] W λe w'=>e=sh (Il #[I (r.extract 0 i),I (r.extract (i+1) r.size),AI true])/\Below W.heap.size W w'):=λW=>My r i W Gi hr;clear hi Gi j6 lF h1 h2 h3;generalize r.extract 0 i=la at *;generalize r.extract (i+1) r.size=re at *;rcases hb:aN la with _|_
    .rw[hb] at hL
     have HL:Hid (res=false):=hL;clear hL;go_wp2_with (first|(go_at_call 119;refine(HC.out _).mono ?_;rintro e w1 ⟨rfl,al⟩)|(go_at_call 64;refine(kU la _ cS).mono ?_;rintro e w2 ⟨rfl,rfl⟩;rw[hb]));go_ret;exact⟨aD (by rw[HL.out];rfl),HB.out.trans (al.mono HB.out.size)⟩
    .rw[hb,Bool.true_and] at hL
     have HL:Hid (res=(gN re.data.toList).all jY):=hL;clear hL;go_wp2_with (first|(go_at_call 119;refine(HC.out _).mono ?_;rintro e w1 ⟨rfl,al⟩)|(go_at_call 64;refine(kU la _ cS).mono ?_;rintro e w2 ⟨rfl,rfl⟩;rw[hb]));exact⟨⟨re,rfl,iX,.inl ⟨rfl,HL⟩,HB.out.trans (al.mono HB.out.size)⟩,by simp[Tc,tOf];omega⟩
  .go_wp2_with fail
   go_ret;exact⟨aD (by rw[lF.out];rfl),HB.out⟩
theorem iY{s:ByteArray}(h:s.size≠0):(s.toList==[])=false/\¬ s.toList=[]:=by
 have h3:¬ s.toList=[]:=λe=>h (by
  rw[Jv] at e
  have:s.data.toList.length=0:=by rw[e];rfl
  simpa using this)
 exact⟨by simpa using h3,h3⟩
theorem cO{s:ByteArray}(h:s.size=0):s=⟨#[]⟩:=by
 cases s with
 |mk a=>simp[JJ] at h;subst h;rfl
theorem iM(s:ByteArray)(w:World)(hs:s.size<=Ij) :
 Calls be 25 #[I s] w λe w'=>e=sh (O J (bT s))/\Below w.heap.size w w':=by
 by_cases h0:s.size=0
 .have e0:bT s=0:=by unfold bT;rw[if_pos h0]
  rw[e0];have:=cO h0;subst this;clear e0 h0 hs;go_enter Tryz.func25,Tryz.ntmps25;go_wp2_with fail;go_ret;exact⟨rfl,Ib _ _⟩
 .obtain⟨n1,n2⟩:=iY h0
  have HL:Hid (∀W,Calls be 66 #[I s,IZ (.func 64) #[] #[]] W λe w'=>e=sh (AI (!(gN s.data.toList).all jY))/\Below W.heap.size W w'):=λW=>yh s W hs;have HE:Hid (bT s=if(gN s.data.toList).all jY=false then 1 else if 8<(gN s.data.toList).length\/120<s.size then 2 else 0):=(show bT s=_ by unfold bT;rw[if_neg h0]);have hlen:=yf s.data.toList;unfold Ij at hs;clear h0;generalize bT s=r at *;cases iC:(gN s.data.toList).all jY with
  |false=>
   have HR:Hid (r=1):=(show r=1 by rw[HE.out,if_pos iC]);rw[iC] at HL;clear HE;go_enter Tryz.func25,Tryz.ntmps25;go_wp2_with (go_at_call 66;refine(HL.out _).mono ?_;rintro e w1 ⟨rfl,al⟩);go_ret;exact⟨aj HR.out.symm,al⟩
  |true=>
   rw[iC] at HL;have iN:Hid (r=if 8<s.data.toList.count 46+1\/120<s.size then 2 else 0):=(show r=_ by rw[HE.out,iC,hlen];rfl);have Sf:s.data.toList.count 46<=s.size:=by have:=List.count_le_length (a:=(46:UInt8)) (l:=s.data.toList);simpa using this
   clear HE hlen iC;have Wm:Hid (∀W,Calls be 67 #[I s,I ⟨#[46]⟩] W λe w'=>e=sh (O J ((s.data.toList.count 46:Nat):Int))/\w'=W):=λW=>Tryz.strings_Count_one s 46 W;generalize s.data.toList.count 46=cn at *;by_cases h1:8<=cn
   .have HR:Hid (r=2):=(show r=2 by rw[iN.out,if_pos (.inl (by omega))])
    clear iN;have h2:decide (8<=(cn:Int))=true:=by simp;omega
    go_enter Tryz.func25,Tryz.ntmps25;go_wp2_with (first|(go_at_call 66;refine(HL.out _).mono ?_;rintro e w1 ⟨rfl,al⟩)|(go_at_call 67;refine(Wm.out _).mono ?_;rintro e w2 ⟨rfl,rfl⟩));go_ret;exact⟨aj HR.out.symm,al⟩
   .have h2:decide (8<=(cn:Int))=false:=by simp;omega
    by_cases h3:120<s.size
    .have HR:Hid (r=2):=(show r=2 by rw[iN.out,if_pos (.inr h3)])
     clear iN;have h4:decide (120<(s.size:Int))=true:=by simp;omega
     go_enter Tryz.func25,Tryz.ntmps25;go_wp2_with (first|(go_at_call 66;refine(HL.out _).mono ?_;rintro e w1 ⟨rfl,al⟩)|(go_at_call 67;refine(Wm.out _).mono ?_;rintro e w2 ⟨rfl,rfl⟩));go_ret;exact⟨aj HR.out.symm,al⟩
    .have HR:Hid (r=0):=(show r=0 by rw[iN.out,if_neg (by omega)])
     clear iN;have h4:decide (120<(s.size:Int))=false:=by simp;omega
     go_enter Tryz.func25,Tryz.ntmps25;go_wp2_with (first|(go_at_call 66;refine(HL.out _).mono ?_;rintro e w1 ⟨rfl,al⟩)|(go_at_call 67;refine(Wm.out _).mono ?_;rintro e w2 ⟨rfl,rfl⟩));go_ret;exact⟨aj HR.out.symm,al⟩
theorem cy(e:Int)(w:World) :
 Calls be 69 #[AI true,O J e] w λx w'=>x=sh (Il #[])/\w'=w:=by
 go_enter Tryz.func69,Tryz.ntmps69;go_wp2_with fail;simp[Jk,results,Tryz.results69]
theorem dd(e:Int)(w:World) :
 Calls be 69 #[AI false,O J e] w λx w'=>x=.panicked [{ v:=.iface 120 (Im #[O J e]),recovered:=false }]/\w'=w:=by
 go_enter Tryz.func69,Tryz.ntmps69;go_wp2_with fail;exact⟨rfl,rfl,rfl⟩
theorem zY(g:Nat)(x e:Int)(Wn:List PanicEntry)(w:World)(hg:g<w.heap.size)(hc:w.cell? ⟨g,0,Y⟩=Z (O J x))(hz:w.frozen? ⟨g,0,Y⟩=false) :
 CallsD be 68 #[If (Z ⟨g,0,Y⟩)] (.panicking ({ v:=.iface 120 (Im #[O J e]),recovered:=false } :: Wn)) w λr u' w'=>
  r=sh (Il #[])/\u'=.panicking ({ v:=.iface 120 (Im #[O J e]),recovered:=true } :: Wn)/\w'.cell? ⟨g,0,Y⟩=Z (O J e)/\Below g w w':=by
 have e0:g≠w.heap.size:=by omega
 have hta:∀W:World,Sem.run be (Instr.typeAssert (.iface 120 (Im #[O J e])) 20 120 true) W=.ok (Il #[Im #[O J e],AI true]) W:=λ_=>by kernel_rfl
 have gI:(w.setCell ⟨g,0,Y⟩ (O J 1)).cell? ⟨g,0,Y⟩=Z (O J 1):=by simp[go_sem,hc]
 have iZ:((w.setCell ⟨g,0,Y⟩ (O J 1)).setCell ⟨g,0,Y⟩ (O J e)).cell? ⟨g,0,Y⟩=Z (O J e):=by simp[go_sem,hc]
 have HE:Hid (∀o,(((w.setCell ⟨g,0,Y⟩ (O J 1)).setCell ⟨g,0,Y⟩ (O J e)).alloc o).cell? ⟨g,0,Y⟩=Z (O J e)):=λo=>by
  rw[World.cell?_alloc_past (w:=(w.setCell ⟨g,0,Y⟩ (O J 1)).setCell ⟨g,0,Y⟩ (O J e)) o g 0 (by simpa using hg)];exact iZ
 have HB:Hid (∀o,Below g w (((w.setCell ⟨g,0,Y⟩ (O J 1)).setCell ⟨g,0,Y⟩ (O J e)).alloc o)):=λo=>
  (((Ib g w).setCell (p:=⟨g,0,Y⟩) (By _) _).setCell (p:=⟨g,0,Y⟩) (By _) _).alloc (by simp;omega) _
 clear gI iZ;refine callsD_of_wpS Tryz.func68 rfl λc₀ cs hu=>?_;apply wpS_seq;apply wpS_region;simp[wpOpsS,go_sem,recoverD,hu,Tryz.ntmps68,Exit.thenS,Array.replicate];refine wpS_of_wp ?_;go_wp2_with fail;have h1:=HE.out (AT #[O J e] 120);have h2:=HB.out (AT #[O J e] 120);cases c₀
 simp[bodyPostS,results,Tryz.results68];exact⟨h1,h2⟩
theorem CG(p:Addr)(w:World) :
 CallsD be 68 #[If (Z p)] .returning w λe u' w'=>e=sh (Il #[])/\u'=.returning/\w'=w:=by
 refine callsD_of_wpS Tryz.func68 rfl λc₀ cs hu=>?_;apply wpS_seq;apply wpS_region;simp[wpOpsS,go_sem,recoverD,hu,Tryz.ntmps68,Exit.thenS,Array.replicate];refine wpS_of_wp ?_;go_wp2_with fail;cases c₀
 simp_all [bodyPostS,results,Tryz.results68]
theorem kV(f:Nat)(sd:Array Value)(w:World)(R:World->Prop)(ef:∀args W,(Ot f args).run be W=.ok (.enter f args) W)(hw:Calls be f sd (w.alloc (AT #[O J 0] 34)) λr w'=>r=sh (Il #[])/\R w'/\w'.cell? ⟨w.heap.size,0,Y⟩=Z (O J 0)/\w'.frozen? ⟨w.heap.size,0,Y⟩=false/\w.heap.size<w'.heap.size) :
 Calls be 26 #[IZ (.func f) #[] sd] w λr w'=>r=sh (O J 0)/\∃w1,R w1/\w.heap.size<w1.heap.size/\w'=w1.setCell ⟨w.heap.size,0,Y⟩ (O J 0):=by
 have hmf:∀(fn:Fn) (first cap:Array Value) (w:World),(Instr.makeFunc fn first cap).run be w=.ok (IZ fn first cap) w:=λ_ _ _ _=>rfl;have HW:Hid (Calls be f sd (w.alloc (AT #[O J 0] 34)) λr w'=>r=sh (Il #[])/\Hid (R w')/\w'.cell? ⟨w.heap.size,0,Y⟩=Z (O J 0)/\w'.frozen? ⟨w.heap.size,0,Y⟩=false/\w.heap.size<w'.heap.size):=hw;clear hw;go_enter_defers Tryz.func26,Tryz.ntmps26
 go_wp2_with fail;refine HW.out.mono ?_;rintro e w1 ⟨rfl,HR,h1,h2,h3⟩;go_wp2_with fail;refine leaves_cons (f:=68) (args:=#[If (Z ⟨w.heap.size,0,Y⟩)]) (by simp) (by simp[go_sem]) ?_;refine(CG ⟨w.heap.size,0,Y⟩ _).mono ?_;rintro e u' gO ⟨rfl,rfl,rfl⟩;simp[Leaves,settle,results,Tryz.results26,go_sem,h1];exact⟨w1,HR.out,h3,rfl⟩
theorem tu(f:Nat)(sd:Array Value)(e:Int)(w:World)(R:World->Prop)(ef:∀args W,(Ot f args).run be W=.ok (.enter f args) W)(hw:Calls be f sd (w.alloc (AT #[O J 0] 34)) λr w'=>r=.panicked [{ v:=.iface 120 (Im #[O J e]),recovered:=false }]/\R w'/\w'.cell? ⟨w.heap.size,0,Y⟩=Z (O J 0)/\w'.frozen? ⟨w.heap.size,0,Y⟩=false/\w.heap.size<w'.heap.size) :
 Calls be 26 #[IZ (.func f) #[] sd] w λr w'=>r=sh (O J e)/\∃w1,R w1/\w.heap.size<w1.heap.size/\Below w.heap.size w1 w':=by
 have hmf:∀(fn:Fn) (first cap:Array Value) (w:World),(Instr.makeFunc fn first cap).run be w=.ok (IZ fn first cap) w:=λ_ _ _ _=>rfl;have HW:Hid (Calls be f sd (w.alloc (AT #[O J 0] 34)) λr w'=>r=.panicked [{ v:=.iface 120 (Im #[O J e]),recovered:=false }]/\Hid (R w')/\w'.cell? ⟨w.heap.size,0,Y⟩=Z (O J 0)/\w'.frozen? ⟨w.heap.size,0,Y⟩=false/\w.heap.size<w'.heap.size):=hw;clear hw;go_enter_defers Tryz.func26,Tryz.ntmps26
 go_wp2_with fail;refine HW.out.mono ?_;rintro r w1 ⟨rfl,HR,h1,h2,h3⟩;refine leaves_cons (f:=68) (args:=#[If (Z ⟨w.heap.size,0,Y⟩)]) (by simp) (by simp[go_sem]) ?_;refine(zY w.heap.size 0 e [] w1 h3 h1 h2).mono ?_;rintro r u' gO ⟨rfl,rfl,h4,h5⟩;simp[Leaves,settle,results,Tryz.results26,go_sem,h4];exact⟨w1,HR.out,h3,h5⟩
theorem oS(s:ByteArray)(w:World)(hs:s.size<=Ij)(h:bT s=0) :
 Calls be 71 #[I s] w λr w'=>r=sh (Il #[])/\Below w.heap.size w w':=by
 have HC:Hid (Calls be 25 #[I s] w λe w'=>e=sh (O J 0)/\Below w.heap.size w w'):=(show Calls _ _ _ _ _ by have h2:=iM s w hs;rwa [h] at h2);go_enter Tryz.func71,Tryz.ntmps71;go_wp2_with fail;refine HC.out.mono ?_;rintro e w1 ⟨rfl,al⟩;go_wp2_with (go_at_call 69;refine(cy _ _).mono ?_;rintro e w2 ⟨rfl,rfl⟩);simp[Jk,results,Tryz.results71];exact al
theorem mX(n:Int)(w:World) :
 Calls be 72 #[O J n] w λe w'=>e=sh (AI (decide (n=1)||decide (n=16)||decide (n=33)))/\w'=w:=by
 go_enter Tryz.func72,Tryz.ntmps72;go_wp2;all_goals
  go_ret;exact⟨aD (by rw[OM];simp;try omega),rfl⟩
theorem rA(id code an:Int)(aB cut:Bool)(name:ByteArray)(w:World)(h1:within id 0 65535=true)(h2:within code 0 15=true)(hs:name.size<=Ij)(hn:bT name=0)(ht:(decide (an=1)||decide (an=16)||decide (an=33))=true) :
 Calls be 28 #[Im #[O J id,AI aB,AI cut,O J code,I name,O J an,U Y 0 0]] w λr w'=>r=sh (Il #[])/\Below w.heap.size w w':=by
 go_enter Tryz.func28,Tryz.ntmps28;go_wp2_with fail;refine(bD _ _ _ _).mono ?_;rintro e w' ⟨rfl,rfl⟩;rw[h1];go_wp2_with fail;refine(bD _ _ _ _).mono ?_;rintro e w' ⟨rfl,rfl⟩;rw[h2];go_wp2_with fail;refine(cy _ _).mono ?_;rintro e w' ⟨rfl,rfl⟩;go_wp2_with fail;refine(cy _ _).mono ?_;rintro e w' ⟨rfl,rfl⟩;go_wp2_with fail;refine(oS name _ hs hn).mono ?_;rintro e w1 ⟨rfl,al⟩;have hg:w1.heap[w.heap.size]?=Z (AT #[O J id,AI aB,AI cut,O J code,I name,O J an,U Y 0 0] 43 (0,0)):=(al.block _ (by simp)).trans (Ie w _);have f5:w1.cell? ⟨w.heap.size,5,Y⟩=Z (O J an):=af hg 5;have f6:w1.cell? ⟨w.heap.size,6,Y⟩=Z (U Y 0 0):=af hg 6;have aR:Hid (Below w.heap.size w w1):=((Ib _ _).alloc (By _) _).trans (al.mono (by simp));clear al hg;go_wp2_with fail;refine(mX _ _).mono ?_;rintro e w' ⟨rfl,rfl⟩;rw[ht];go_wp2_with fail;refine(cy _ _).mono ?_;rintro e w' ⟨rfl,rfl⟩;go_wp2_with fail;go_loopw [30] (λi wr=>i=O J 0/\Hid (Below w.heap.size w wr)) (λ_ _=>0)
 case atStart=>exact⟨rfl,aR⟩
 case round=>
  obtain⟨rfl,yi⟩:=hrel;go_wp2_with fail;simp[Jk,results,Tryz.results28];exact yi.out
end Go.Proofs.YtfidjlcdlakceaaGreatDoor
