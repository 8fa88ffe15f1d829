import Derived.Test.YtipbebleapjcjaaGreatDoorProg
import Derived.WalkSpells
import Derived.WalkLawsBesides
import Derived.Lib.AppendZerosOnto
import Derived.Lib.Overlaps
import Derived.Lib.QuietBelow
import Derived.Lib.ItoaNum
import Derived.Shelf.Strings.OnBuilder
import Derived.Shelf.Small.Strs
import Derived.Shelf.Strconv.Clone
import Derived.Shelf.Strings.Shaped
import Derived.Shelf.Strings.SplitShaped
import Derived.Shelf.Unicode.DecodeSlow
import Derived.Shelf.Slices.Turned
import Derived.Shelf.SlicesE.DeleteFunc
import Derived.Shelf.SlSortCmp.NoneTotal
import Derived.Deep.RegionHeld3
import Derived.Lib.SmallJoins
import Derived.Laws.AppendOwnNone
import Derived.Deep.AppendLies
set_option maxHeartbeats 6400000
set_option maxRecDepth 100000
open Array renaming getElem?_eq_some_iff->Ig,length_toList->Jp
open Bool renaming and_eq_true->IP,eq_iff_iff->JH
open ByteArray renaming empty->Ie,getElem_eq_getElem_data->UF,mk->J9,size->JN
open Go renaming MemPlace->Qn,Regrown->Q2,TypeId->Ji,bodyPost->JM,callFunc->Q6,cell_regrown->Im,heap_alloc_new->Ii,info_parts->Jc,maxLen->Il,plainElem->JK,redrawn->IG,rounds_succ->JF,run_underlying->Qo,step_append_lies->Qm,wpList_append_own->IY,wp_loop_rounds->J2,wp_region_quiet_below->IX
open Go.Addr renaming add_lit->I4
open Go.Builtin renaming append_->Ur,copy_->QK
open Go.DataW renaming trod->Qi,trod_int->J3,trod_string->OA,trod_struct->Qb
open Go.Deep renaming add_add->Us,choose_lt->QY,open_slice->QI
open Go.Ending renaming returned->Ia
open Go.IntKind renaming i64->J,wrap_i64->IW
open Go.Lib renaming alloc_old->Jj,bitLen->Qy,bytesWorld->O6,compareBytes->JG,indexByte->JP,run_convert_string_bytes->QR,run_eql_slice_nil->JB,strCells->Ou,toList_data->IZ
open Go.Maps renaming has->OG,size->Ol
open Go.Obj renaming cells->Ib
open Go.Op renaming bytesLess->IT
open Go.Proofs.Tryz renaming func165->Qz,isAgg0->Qe,isAgg107->QN,isAgg137->QB,isAgg256->QC,isAgg3->No,isAgg4->OE,isAgg5->Qw,isAgg9->Oj,ntmps165->Qg,prog->AT,sizeOf0->OZ,sizeOf107->QD,sizeOf137->Qp,sizeOf256->Qq,sizeOf3->JY,sizeOf4->Oo,sizeOf5->Qd,sizeOf9->J8,underlying0->Oe,underlying107->IS,underlying137->OK,underlying139->Oa,underlying164->JQ,underlying22->OW,underlying226->UA,underlying24->Oz,underlying256->OL,underlying3->IH,underlying313->Uy,underlying325->QH,underlying4->Jo,underlying5->JA,underlying9->IF,zeroValue0->Oq,zeroValue107->Qa,zeroValue137->OU,zeroValue256->OV,zeroValue3->J0,zeroValue4->J1,zeroValue5->OF,zeroValue9->Ob
open Go.RowKit.Below renaming heap_alloc->Iv,heap_setCell->IC,refl->If
open Go.Shelf renaming Ren->OD
open Go.Sort renaming grow->Is
open Go.Value renaming agg->Iu,bool->Ic,func->JD,int->O,pointer->Ik,slice->sh,string->I,tuple->Ir,ownBlock->Jb
open Go.Value.slice renaming injEq->IM
open Go.WideShapes renaming add_plain->Qf
open Go.World renaming block_lt_of_cell?->II,cell?_alloc_past->Oc,cell?_spot->Ua,cells?_some->QX,frozen?->Ij,new_ne->Jn,ownsRow->Oy,ownsRow_made->Qv,ownsRow_nil->Jz
open Go.World.ownsRow renaming cellAt->ON,lt->I3,stored->M2
open List renaming all_eq_false->QU,all_eq_true->Od,append_assoc->Jh,append_nil->QM,cons_append->Jt,drop_of_length_le->Ql,eq_nil_of_length_eq_zero->I5,getD->Ip,getD_cons_succ->JC,getD_cons_zero->Jf,getElem?_append_left->Js,getElem?_append_right->JS,getElem?_eq_getElem->Ih,getElem?_eq_none->IK,getElem?_eq_some_iff->I7,getElem?_take_of_lt->IQ,getElem_mem->IU,getElem_of_mem->I2,length_append->Iq,length_cons->Je,length_drop->I9,length_map->I8,length_nil->OH,length_take->IA,map_append->OI,map_cons->J4,map_nil->Og,mem_cons->Jx,mem_cons_of_mem->Jv,mem_cons_self->Jg,mem_flatMap->O0,mem_map->Ot,mem_range->Qr,pairwise_cons->JO,range->J5,size_toArray->O9,take_append_drop->O3,take_length->JU,take_of_length_le->IJ,take_succ_cons->Ud,take_succ_eq_append_getElem->Iz
open List.cons renaming injEq->Ov
open Nat renaming le_of_not_lt->Qk,le_refl->By,le_trans->IB,lt_of_lt_of_le->Ix,lt_or_eq_of_le->Uw,lt_succ_iff_lt_or_eq->IL,mul_le_mul_right->JW,not_lt_zero->IV,pow_le_pow_right->Q9,zero_add->I6,zero_le->Iw
open Option renaming none->U,some->AI,isNone_none->Qs,isNone_some->Qt
open Option.some renaming inj->Jq,injEq->Jd
open UInt8 renaming lt_iff_toNat_lt->Oi
open Go.Proofs.Tryz
namespace Go.Proofs.YtipbebleapjcjaaGreatDoor
open Go.RowKit
abbrev ni(f:Nat)(a:Array Value)(w:World)(p:Ending->World->Prop):Prop:=Calls AT f a w p
abbrev rI(f:Nat)(a:Array Value)(w:World)(v:Value):Prop:=Calls AT f a w λe w'=>e=Ia v/\Below w.heap.size w w'
abbrev RgC(f:Nat)(a:Array Value)(w:World)(v:Value):Prop:=∀d os,Calls AT f a (Is (IG w d) os) λe DQ=>e=Ia v/\∃p:Q2,DQ=Is (IG w p.d) p.os
theorem GA{f:Nat}{a:Array Value}{v:Value}(h:∀W,rI f a W v)(w:World):RgC f a w v:=λ_ _=>Calls.regrown_of (h _)
def within(n a b:Int):Bool:=decide (a<=n)&&decide (n<=b)
def Rv(n:Int):Bool:=(decide (97<=n)&&decide (n<=122))||(decide (48<=n)&&decide (n<=57))||decide (n=45)||decide (n=95)
def mT(s:ByteArray):Bool:=decide (1<=s.size)&&decide (s.size<=30)&&s.data.toList.all (λc=>Rv c.toNat)
theorem mW{a b:Bool}(h:a=b):Ia (Ic a)=Ia (Ic b):=by rw[h]
theorem mN{k:IntKind}{a b:Int}(h:a=b):Ia (O k a)=Ia (O k b):=by rw[h]
theorem WZ(s:ByteArray)(k:Nat)(h:k<s.size):s.data.toList.take (k+1)=s.data.toList.take k++[s[k]]:=by
 rw[Iz (by simpa using h)];rfl
theorem MB(s:ByteArray)(k:Nat)(h:s.size<=k):s.data.toList.take k=s.data.toList:=
 IJ (by simpa using h)
theorem Hi(s:ByteArray)(k:Nat)(h:k<s.size)(hk:(s.data.toList.take k).all (λc=>Rv c.toNat)=true)(hb:Rv (s[k].toNat:Int)=true) : (s.data.toList.take (k+1)).all (λc=>Rv c.toNat)=true:=by
 rw[WZ s k h,List.all_append,hk];simp[hb]
theorem MC(s:ByteArray)(k:Nat)(h:k<s.size)(hb:Rv (s[k].toNat:Int)=false):mT s=false:=by
 have:s.data.toList.all (λc=>Rv c.toNat)=false:=by
  rw[QU];refine⟨s[k],?_,by simp[hb]⟩;exact IU (l:=s.data.toList) (n:=k) (by simpa using h)
 simp[mT,this]
theorem oe(n a b:Int)(w:World) :
 Calls AT 89 #[O J n,O J a,O J b] w λe w'=>e=Ia (Ic (within n a b))/\w'=w:=by
 go_enter func89,ntmps89;go_wp2;all_goals
  go_ret;exact⟨mW (by unfold within;rw[JH];simp;try omega),rfl⟩
theorem nN(n a b:Int)(w:World) :
 Calls AT 37 #[O J n,O J a,O J b] w λe w'=>e=Ia (Ic (within n a b))/\w'=w:=by
 go_enter func37,ntmps37;go_wp2;all_goals
  go_ret;exact⟨mW (by unfold within;rw[JH];simp;try omega),rfl⟩
theorem qf(n:Int)(w:World) :
 Calls AT 51 #[O J n] w λe w'=>e=Ia (Ic (within n 0 4294967295))/\w'=w:=by
 go_enter func51,ntmps51;go_wp2_with (go_at_call 89;refine(oe _ _ _ _).mono ?_;rintro e w' ⟨rfl,rfl⟩);go_ret;exact⟨rfl,rfl⟩
theorem ot(n:Int)(w:World) :
 Calls AT 40 #[O J n] w λe w'=>e=Ia (Ic (within n 0 4294967295))/\w'=w:=by
 go_enter func40,ntmps40;go_wp2_with (go_at_call 37;refine(nN _ _ _ _).mono ?_;rintro e w' ⟨rfl,rfl⟩);go_ret;exact⟨rfl,rfl⟩
theorem Ag(n:Int)(w:World) :
 Calls AT 143 #[O .u8 n] w λe w'=>e=Ia (Ic (Rv n))/\w'=w:=by
 go_enter func143,ntmps143;go_wp2;all_goals
  go_ret;exact⟨mW (by unfold Rv;rw[JH];simp;try omega),rfl⟩
theorem nL(s:ByteArray)(w:World)(hs:s.size<=Il) :
 Calls AT 78 #[I s] w λe w'=>e=Ia (Ic (mT s))/\w'=w:=by
 unfold Il at hs;by_cases hz:within (s.size:Int) 1 30=true
 .have hz':1<=s.size/\s.size<=30:=by simp[within] at hz;omega
  go_enter func78,ntmps78;go_wp2_with (go_at_call 89;refine(oe _ _ _ _).mono ?_;rintro e w' ⟨rfl,rfl⟩;rw[hz]);go_loop [10] (λi=>∃k:Nat,k<=s.size/\i=O J k/\(s.data.toList.take k).all (λc=>Rv c.toNat)=true) (λi=>s.size-(intOf i).toNat)
  case atStart=>exact⟨0,Iw _,rfl,rfl⟩
  case round=>
   obtain⟨k,hk,rfl,qe⟩:=hrel;have HA:Hid _:=qe;clear qe;by_cases mS:k<s.size
   .by_cases hb:Rv (s[k].toNat:Int)=true
    .go_wp2_with (go_at_call 143;refine(Ag _ _).mono ?_;rintro e w' ⟨rfl,rfl⟩;rw[hb])
     go_round
     case rel=>exact⟨k+1,by omega,by go_num,Hi s k mS HA.out hb⟩
     case measure=>simp[intOf];omega
    .have hb':Rv (s[k].toNat:Int)=false:=by simpa using hb
     go_wp2_with (go_at_call 143;refine(Ag _ _).mono ?_;rintro e w' ⟨rfl,rfl⟩;rw[hb']);go_ret;exact⟨mW (MC s k mS hb').symm,rfl⟩
   .go_wp2
    go_ret;have h2:=HA.out;rw[MB s k (by omega)] at h2;exact⟨mW (by simp[mT,h2,hz'.1,hz'.2]),rfl⟩
 .have hz':within (s.size:Int) 1 30=false:=by simpa using hz
  go_enter func78,ntmps78;go_wp2_with (go_at_call 89;refine(oe _ _ _ _).mono ?_;rintro e w' ⟨rfl,rfl⟩;rw[hz']);go_ret;refine⟨mW ?_,rfl⟩;symm;simp only[within,Bool.and_eq_false_iff,decide_eq_false_iff_not] at hz';simp only[mT,Bool.and_eq_false_iff,decide_eq_false_iff_not];rcases hz' with h|h
  .exact .inl (.inl (by omega))
  .exact .inl (.inr (by omega))
theorem VC(n:Int):Rv n=true↔(97<=n/\n<=122)\/(48<=n/\n<=57)\/n=45\/n=95:=by
 unfold Rv;simp[or_assoc]
theorem agm(n:Int):Rv n=false↔¬ ((97<=n/\n<=122)\/(48<=n/\n<=57)\/n=45\/n=95):=by
 rw[<- VC];simp
theorem mV(s:ByteArray)(w:World)(hs:s.size<=Il) :
 Calls AT 11 #[I s] w λe w'=>e=Ia (Ic (mT s))/\w'=w:=by
 unfold Il at hs;go_enter func11,ntmps11;go_wp2;go_loop [3] (λi=>∃k:Nat,k<=s.size/\i=O J k/\(s.data.toList.take k).all (λc=>Rv c.toNat)=true) (λi=>s.size-(intOf i).toNat)
 case atStart=>exact⟨0,Iw _,rfl,rfl⟩
 case round=>
  obtain⟨k,hk,rfl,qe⟩:=hrel;have HA:Hid _:=qe;clear qe;by_cases mS:k<s.size
  .have aiH:=Hi s k mS HA.out
   have ab9:=MC s k mS;have H1:Hid _:=aiH;have H2:Hid _:=ab9;clear aiH ab9;go_wp2;all_goals first
    |(go_ret
      exact⟨mW (H2.out ((agm _).2 (by simp at *;omega))).symm,rfl⟩)
    |(refine⟨⟨k+1,by omega,by go_num,H1.out ((VC _).2 ?_)⟩,by simp[intOf];omega⟩
      simp at *;omega)
  .have h2:=HA.out
   rw[MB s k (by omega)] at h2;have H3:Hid _:=h2;clear h2;go_wp2;all_goals
    go_ret;refine⟨mW ?_,rfl⟩;unfold mT;rw[H3.out,JH];simp;try omega
theorem pd{W w1:World}(hb:Below W.heap.size W w1):(∀b o,b<W.heap.size->w1.cell? ⟨b,o,U⟩=W.cell? ⟨b,o,U⟩)/\(∀b o,b<W.heap.size->w1.frozen? ⟨b,o,U⟩=W.frozen? ⟨b,o,U⟩):=
 ⟨λb o h=>hb.cell (p:=⟨b,o,U⟩) h,λb o h=>hb.frozen (p:=⟨b,o,U⟩) h⟩
def less(a b:ByteArray):Bool:=IT a.toList b.toList
theorem Cq:∀a:List UInt8,IT a a=false
 |[]=>rfl
 |x::r=>by simp[IT,Cq r]
theorem uu:∀a b:List UInt8,(!(IT a b))=(IT b a||b==a)
 |[],[]=>rfl
 |[],_::_=>rfl
 |_::_,[]=>rfl
 |x::r,y::t=>by
  have:=uu r t;by_cases h1:x<y
  .have h2:¬ y<x:=by rw[Oi] at *;omega
   have h3:¬ y=x:=by rintro rfl;rw[Oi] at *;omega
   simp[IT,h1,h2,h3]
  .by_cases h2:y<x
   .have h3:¬ y=x:=by rintro rfl;rw[Oi] at *;omega
    have h4:¬ x=y:=λh=>h3 h.symm;simp[IT,h1,h2,h4]
   .have h3:y=x:=by
     apply UInt8.toNat_inj.1;rw[Oi] at *;omega
    subst h3;simp[IT];simpa using this
def oh(a b:ByteArray):Int:=JG a.data.toList b.data.toList
theorem GJ(a b:ByteArray)(w:World):(Q6 219 #[I a,I b]).run AT w=.ok (.value (O J (oh a b))) w:=by
 rw[run_callFunc_extern func219 (by kernel_rfl) (by kernel_rfl) (by kernel_rfl) (e:=Extern.BytealgCompare.compare) (by kernel_rfl),Lib.run_compareString];rfl
theorem sV(a b:ByteArray)(w:World) :
 Calls AT 104 #[I a,I b] w λe w'=>e=Ia (O J (oh a b))/\w'=w:=by
 have hc:=GJ;go_enter func104,ntmps104;go_wp2;go_ret;exact⟨rfl,rfl⟩
theorem aiI:∀a b:List UInt8,JG a b<0↔IT a b=true
 |[],[]=>by simp[JG,IT]
 |[],_::_=>by simp[JG,IT]
 |_::_,[]=>by simp[JG,IT]
 |x::r,y::t=>by
  have ih:=aiI r t;by_cases h1:x<y
  .simp[JG,IT,h1]
  .by_cases h2:y<x
   .have h3:¬ x=y:=by rintro rfl;exact h1 h2
    simp[JG,IT,h1,h2,h3]
   .have h3:x=y:=by
     apply UInt8.toNat_inj.1;rw[Oi] at *;omega
    subst h3;simpa[JG,IT] using ih
theorem aiJ:∀a b:List UInt8,JG a b=0↔a=b
 |[],[]=>by simp[JG]
 |[],_::_=>by simp[JG]
 |_::_,[]=>by simp[JG]
 |x::r,y::t=>by
  have ih:=aiJ r t;by_cases h1:x<y
  .have h3:¬ x=y:=by rintro rfl;rw[Oi] at *;omega
   simp[JG,h1,h3]
  .by_cases h2:y<x
   .have h3:¬ x=y:=by rintro rfl;exact h1 h2
    simp[JG,h1,h2,h3]
   .have h3:x=y:=by
     apply UInt8.toNat_inj.1;rw[Oi] at *;omega
    subst h3;simpa[JG] using ih
theorem MD:∀a b c:List UInt8,IT a b=true->IT b c=true->IT a c=true
 |[],[],_,h,_=>by simp[IT] at h
 |[],_::_,[],_,h=>by simp[IT] at h
 |[],_::_,_::_,_,_=>by simp[IT]
 |_::_,[],_,h,_=>by simp[IT] at h
 |_::_,_::_,[],_,h=>by simp[IT] at h
 |x::r,y::t,z::u,h1,h2=>by
  have ih:=MD r t u;simp only[IT,Bool.or_eq_true,IP,decide_eq_true_eq,beq_iff_eq] at h1 h2 ⊢;rcases h1 with h1|⟨rfl,h1⟩
  .rcases h2 with h2|⟨rfl,h2⟩
   .left;rw[Oi] at *;omega
   .left;exact h1
  .rcases h2 with h2|⟨rfl,h2⟩
   .left;exact h2
   .right;exact⟨rfl,ih h1 h2⟩
theorem pW{a b:ByteArray}(h:a.data.toList=b.data.toList):a=b:=by
 obtain⟨⟨la⟩⟩:=a;obtain⟨⟨lb⟩⟩:=b;simp at h;subst h;rfl
theorem pB(a b:ByteArray):oh a b<0↔less a b=true:=by
 unfold oh less;rw[IZ,IZ];exact aiI _ _
theorem oQ(a b:ByteArray):oh a b=0↔a=b:=by
 unfold oh;rw[aiJ];exact⟨pW,λh=>by rw[h]⟩
theorem sM{a b c:ByteArray}(h1:less a b=true)(h2:less b c=true):less a c=true:=MD _ _ _ h1 h2
theorem vX(a:ByteArray):less a a=false:=Cq _
theorem Rw(a b:ByteArray):less a b=true\/a=b\/less b a=true:=by
 have h:=uu a.toList b.toList;unfold less;cases h1:IT a.toList b.toList
 .rw[h1] at h
  cases h2:IT b.toList a.toList
  .rw[h2] at h
   right;left
   have:b.toList=a.toList:=by simpa using h.symm
   rw[IZ,IZ] at this;exact(pW this).symm
  .right;right;rfl
 .left;rfl
theorem xE{a b:ByteArray}(h1:less a b=true):less b a=false:=by
 cases h:less b a
 .rfl
 .have:=sM h1 h;rw[vX] at this;cases this
theorem Bn(a b:ByteArray):0<oh a b↔less b a=true:=by
 have h1:=pB a b;have h2:=oQ a b;rcases Rw a b with h|rfl|h
 .have:=h1.2 h
  rw[xE h];simp;omega
 .rw[vX];have:=h2.2 rfl;simp;omega
 .rw[h]
  have h3:¬ oh a b<0:=λhh=>by rw[h1,xE h] at hh;cases hh
  have h4:¬ oh a b=0:=λhh=>by rw[h2] at hh;subst hh;rw[vX] at h;cases h
  simp;omega
theorem xF{P:Program}(w:World)(dT sT ty elem:Ji)(g o aj6 atu:Nat)(a:Addr)(aj7 atv k:Nat)(cur:Array Value)(t:Ji)(cs:List Value)(hu:P.underlying dT=AI (.slice elem))(hs:(P.info? elem).map (·.size)=AI k)(hg:w.heap[g]?=AI (Ib cur t (0,0)))(hn:cs.length=Nat.min aj7 aj6*k)(atw:∀j v,cs[j]?=AI v->w.cell? (a.add j)=AI v)(atx:o+cs.length<=cur.size)(h1:∀v∈cs,v.oneCell'=true) : (QK #[dT,sT] ty #[sh (AI ⟨g,o,U⟩) aj6 atu,sh (AI a) aj7 atv]).run P w =
   .ok (goInt (Nat.min aj7 aj6)) (w.setRow g (cur.toList.take o++cs++cur.toList.drop (o+cs.length)).toArray):=by
 have hl:=run_loadCells_list (P:=P) w a cs atw;have GB:=run_storeCells_at P g o t cs 0 cur w hg (by simpa using atx) h1;cases hq:P.info? elem with
 |none=>simp[hq] at hs
 |some i=>
  have hi:i.size=k:=by simpa[hq] using hs
  simp[QK,Qo hu,Builtin.lenOf,Builtin.firstCells,sizeOf,typeInfo,hq,hi,<- hn,hl,GB]
theorem yw{P:Program}{ops:Array Oper}{o:Oper}{a:Act}{w:World}{K:Act->World->Prop}{Q:Exit->Act->World->Prop}{E:Prop}(hg:o.guard=U)(d x:Operand)(dT sT:Ji)(hop:o.op=Op.call { callee:=Callee.builtin Builtin.copy,args:=#[d,x],argTypes:=#[dT,sT] })
 (v u:Value) (hd:a.eval d=v) (hx:a.eval x=u) {v':Value} {w':World} (hr:(QK #[dT,sT] o.type #[v,u]).run P w=.ok v' w') (hK:K (a.put o.dst v') w') :
 if Region.wanted o (yielded ops a.tmps)=true then Oper.wp P o a w K Q else E:=by
 have hw:Region.wanted o (yielded ops a.tmps)=true:=by simp[Region.wanted,hg]
 rw[if_pos hw];unfold Oper.wp;simp[execOp,hop,resolve,invoke,builtin,hd,hx,hr,Result.andThen];exact hK
theorem fi{w:World}{g:Nat}{cur:Array Value}{t:Ji}{fr:Nat×Nat}(hg:w.heap[g]?=AI (Ib cur t fr))(o:Nat):w.cell? ⟨g,o,U⟩=cur[o]?:=by
 simp[World.cell?,hg]
theorem o0{a b:ByteArray}(h:a≠b):(a.toList==b.toList)=false/\¬ a.toList=b.toList:=by
 have h2:¬ a.toList=b.toList:=λe=>h (pW (by rw[IZ,IZ] at e;exact e));exact⟨by simpa using h2,h2⟩
theorem oY{W:World}{cs:Array Value}{t:Ji}{g k:Nat}(hg:g=W.heap.size):(W.alloc (Ib cs t)).cell? ⟨g,k,U⟩=cs[k]?:=by subst hg;simp
theorem W8{w w':World}(h:w.grownBy w' U)(row:Option Nat):w.grownBy w' row:=⟨h.os,h.tape,h.output,h.size,λk hk _=>h.block k hk (by simp)⟩
theorem pL(w:World)(A:Array Value)(T:Ji):∃W,W=w.alloc (Ib A T)/\Below w.heap.size w W/\W.heap.size=w.heap.size+1/\W.heap[w.heap.size]?=AI (Ib A T (0,0)):=⟨_,rfl,(If _ _).alloc (By _) _,by simp,Ii w _⟩
theorem oK{P:Program}{ops:Array Oper}{C:World->Prop}{R:Act->World->Prop}{w:World}{a:Act}(h:∀d os,Hid (Below w.heap.size w (Is (IG w d) os))->R a (Is (IG w d) os)):wpQuiet P ops C (λa=>∀w',(∃p:Q2,w'=Is (IG w p.d) p.os)->R a w') [] a:=wpQuiet_nil (λ_ ⟨p,e⟩=>e▸h p.d p.os (below_regrown w p.d p.os))
end Go.Proofs.YtipbebleapjcjaaGreatDoor
namespace Go.Proofs.YtipbebleapjcjaaGreatDoor
namespace RL
section
variable {α:Type}
structure Keyed(o:α->α->Int):Prop where
 refl:∀a,o a a=0
 gt:∀a b,0<o a b↔o b a<0
 trans:∀a b c,o a b<0->o b c<0->o a c<0
 left:∀a b c,o a b=0->o a c=o b c
 right:∀a b c,o a b=0->o c a=o c b
theorem Keyed.symm{o:α->α->Int}(h:Keyed o){a b:α}(e:o a b=0):o b a=0:=by
 have h1:=h.gt a b;have h2:=h.gt b a;rcases Int.lt_trichotomy (o b a) 0 with hl|he|hg
 .have:=h1.2 hl;omega
 .exact he
 .have:=h2.1 hg;omega
theorem Keyed.eqt{o:α->α->Int}(h:Keyed o){a b c:α}(e:o a b=0)(f:o b c=0):o a c=0:=by rw[h.left a b c e];exact f
variable (o:α→α→Int) (nw:α→α→Bool) (d:α)
abbrev pj(ms:List α):Prop:=ms.Pairwise λa b=>o a b<0
def np:List α->Bool
 |[]=>true
 |[_]=>true
 |a::b::r=>decide (o a b<0)&&np (b::r)
theorem xG(hk:Keyed o):∀ms:List α,np o ms=true->pj o ms
 |[],_=>.nil
 |[x],_=>by simp[pj]
 |a::b::r,h=>by
  rw[np,IP,decide_eq_true_eq] at h;have ih:=xG hk (b::r) h.2;refine JO.2 ⟨λc hc=>?_,ih⟩;rcases Jx.1 hc with rfl|hc
  .exact h.1
  .exact hk.trans _ _ _ h.1 (List.rel_of_pairwise_cons ih hc)
theorem sW:∀ms:List α,(∀j,j+1<ms.length->o (ms.getD j d) (ms.getD (j+1) d)<0)->np o ms=true
 |[],_=>rfl
 |[x],_=>rfl
 |a::b::r,h=>by
  rw[np,IP,decide_eq_true_eq];refine⟨by have:=h 0 (by simp);simpa using this,sW (b::r) λj hj=>?_⟩;have:=h (j+1) (by simpa using hj);simpa using this
theorem sX:∀ms:List α,np o ms=true->∀j,j+1<ms.length->o (ms.getD j d) (ms.getD (j+1) d)<0
 |[],_,j,hj=>by simp at hj
 |[x],_,j,hj=>by simp at hj
 |a::b::r,h,0,_=>by
  rw[np,IP,decide_eq_true_eq] at h;simpa using h.1
 |a::b::r,h,j+1,hj=>by
  rw[np,IP,decide_eq_true_eq] at h;have:=sX (b::r) h.2 j (by simpa using hj);simpa using this
theorem Ek{ms:List α}{i:Nat}(h:i<ms.length):ms.getD i d=ms[i]:=by simp[Ip,Ih h]
theorem KW{ms:List α}(h:pj o ms){i j:Nat}(yp:i<j)(hj:j<ms.length):o (ms.getD i d) (ms.getD j d)<0:=by
 rw[Ek d (show i<ms.length by omega),Ek d hj];exact List.pairwise_iff_getElem.1 h i j (by omega) hj yp
theorem ve(hk:Keyed o){ms:List α}(h:pj o ms)(t:α):∀i j,i<=j->j<ms.length->o (ms.getD j d) t<0->o (ms.getD i d) t<0:=by
 intro i j yp hj mS;rcases Uw yp with aj8|rfl
 .exact hk.trans _ _ _ (KW o d h aj8 hj) mS
 .exact mS
structure At(ms:List α)(t:α)(p:Nat)(f:Bool):Prop where
 le:p<=ms.length
 lo:∀j,j<p->o (ms.getD j d) t<0
 hi:∀j,p<=j->j<ms.length->0<=o (ms.getD j d) t
 is:f=true↔p<ms.length/\o (ms.getD p d) t=0
theorem KX(hk:Keyed o)(ms:List α)(hr:pj o ms)(t:α):∃p f,At o d ms t p f:=by
 induction ms with
 |nil=>exact⟨0,false,by simp,λj h=>by omega,λj h h2=>by simp at h2,by simp⟩
 |cons x r ih=>
  have hx:=JO.1 hr;by_cases mS:o x t<0
  .obtain⟨p,f,h⟩:=ih hx.2
   refine⟨p+1,f,by have:=h.le;simpa using this,λj hj=>?_,λj hj hl=>?_,by have:=h.is;simpa using this⟩
   .cases j with
    |zero=>simpa using mS
    |succ j=>have:=h.lo j (by omega);simpa using this
   .cases j with
    |zero=>omega
    |succ j=>have:=h.hi j (by omega) (by simpa using hl);simpa using this
  .refine⟨0,decide (o x t=0),by simp,λj hj=>by omega,λj _ hl=>?_,by simp⟩
   apply Int.not_lt.1;intro hq;have:=ve o d hk hr t 0 j (by omega) hl hq;simp at this;omega
theorem vY{ms:List α}{t:α}{p q:Nat}{f e:Bool}(h:At o d ms t p f)(k:At o d ms t q e):p=q/\f=e:=by
 have hpq:p=q:=by
  rcases Nat.lt_trichotomy p q with mS|rfl|mS
  .have h1:=k.lo p mS
   have h2:=h.hi p (By _) (by have:=k.le;omega);omega
  .rfl
  .have h1:=h.lo q mS
   have h2:=k.hi q (By _) (by have:=h.le;omega);omega
 subst hpq;refine⟨rfl,?_⟩;rw[JH,h.is,k.is]
theorem anU{ms:List α}(hk:Keyed o)(hr:pj o ms){t:α}{k:Nat}(hl:k<ms.length)(he:o (ms.getD k d) t=0):At o d ms t k true:=by
 refine⟨by omega,λj hj=>?_,λj hj VD=>?_,⟨λ_=>⟨hl,he⟩,λ_=>rfl⟩⟩
 .rw[<- hk.right _ _ (ms.getD j d) he]
  exact KW o d hr hj hl
 .rcases Uw hj with h|rfl
  .rw[<- hk.right _ _ (ms.getD j d) he]
   have:=(hk.gt (ms.getD j d) (ms.getD k d)).2 (KW o d hr h VD);omega
  .omega
def aj9:List α->α->List α
 |[],m=>[m]
 |x::r,m=>if o x m<0 then x::aj9 r m else if o x m=0 then(if nw m x=true then m::r else x::r) else m::x::r
def join(a b:List α):List α:=b.foldl (aj9 o nw) a
end
end RL
namespace Wh
open Go.RowKit
structure nZ where
 node:ByteArray
 x:Int
 y:Int
 z:Int
 h:Int
 s:Int
def dm:nZ:=⟨Ie,0,0,0,0,0⟩
def nZ.ok(m:nZ):Prop:=m.node.size<=Il
theorem Ah:dm.ok:=by simp[nZ.ok,dm]
abbrev As(w:World)(b o:Nat)(m:nZ):Prop:=w.cell? ⟨b,o,U⟩=AI (I m.node)/\w.cell? ⟨b,o+1,U⟩=AI (O J m.x)/\w.cell? ⟨b,o+2,U⟩=AI (O J m.y)/\w.cell? ⟨b,o+3,U⟩=AI (O J m.z)/\w.cell? ⟨b,o+4,U⟩=AI (O J m.h)/\w.cell? ⟨b,o+5,U⟩=AI (O J m.s)
theorem As.eq{w w':World}{b o:Nat}{m:nZ}(h:As w b o m)(e:∀o,w'.cell? ⟨b,o,U⟩=w.cell? ⟨b,o,U⟩):As w' b o m:=by
 obtain⟨c0,c1,c2,c3,c4,c5⟩:=h;exact⟨(e _).trans c0,(e _).trans c1,(e _).trans c2,(e _).trans c3,(e _).trans c4,(e _).trans c5⟩
def Row(w:World)(b off:Nat)(ms:List nZ):Prop:=∀j,j<ms.length->As w b (off+j*6) (ms.getD j dm)
def Sl(w:World)(v:Value)(ms:List nZ):Prop:=
 ∃(a:Option Addr) (cap:Nat),v=sh a ms.length cap/\(∀j,(ms.getD j dm).ok) /\
  (ms=[]\/∃b off,a=AI ⟨b,off,U⟩/\b<w.heap.size/\Row w b off ms)
def nZ.cs(m:nZ):List Value:=[I m.node,O J m.x,O J m.y,O J m.z,O J m.h,O J m.s]
def fl(ms:List nZ):List Value:=ms.flatMap nZ.cs
theorem oj(m:nZ):m.cs.length=6:=rfl
theorem oq(m:nZ)(r:List nZ):fl (m::r)=m.cs++fl r:=by simp[fl]
theorem pD:∀ms:List nZ,(fl ms).length=ms.length*6
 |[]=>rfl
 |m::r=>by rw[oq,Iq,pD r,oj,Je];omega
theorem pX(m:nZ):∀v∈m.cs,v.oneCell'=true:=by
 intro v hv;simp[nZ.cs] at hv;rcases hv with rfl|rfl|rfl|rfl|rfl|rfl<;>rfl
theorem tA(ms:List nZ):∀v∈fl ms,v.oneCell'=true:=by
 intro v hv;obtain⟨m,_,h⟩:=O0.1 hv;exact pX m v h
theorem rz(ms:List nZ)(j:Nat)(hj:j<ms.length)(t:Nat)(ht:t<6):(fl ms)[j*6+t]?=(ms.getD j dm).cs[t]?:=by
 induction ms generalizing j with
 |nil=>simp at hj
 |cons m r ih=>
  rw[oq];cases j with
  |zero=>rw[Js (by rw[oj];omega)];simp
  |succ j=>
   rw[JS (by rw[oj];omega),oj,show(j+1)*6+t-6=j*6+t by omega,ih j (by simpa using hj)];simp
abbrev Own(base:Nat)(w:World)(v:Value)(ms:List nZ):Prop:=w.ownsRow base 97 6 v ms.length (fl ms)
theorem Own.sl{base:Nat}{w:World}{v:Value}{ms:List nZ}(h:Own base w v ms)(hs:∀j,(ms.getD j dm).ok):Sl w v ms:=by
 rcases h.2 with⟨rfl,h0⟩|⟨g,c,cur,rfl,qa,hg,rF,qw,oH,nA⟩
 .exact⟨U,0,by rw[h0],hs,.inl (I5 h0)⟩
 .refine⟨_,c,rfl,hs,.inr ⟨g,0,rfl,(Ig.1 hg).1,λj hj=>?_⟩⟩
  have hc:∀t,t<6->w.cell? ⟨g,0+j*6+t,U⟩=(ms.getD j dm).cs[t]?:=λt ht=>by
   rw[fi hg,<- rz ms j hj t ht,<- nA,IQ (by omega)];simp
  exact⟨hc 0 (by omega),hc 1 (by omega),hc 2 (by omega),hc 3 (by omega),hc 4 (by omega),hc 5 (by omega)⟩
theorem Own.below{base:Nat}{w w':World}{v:Value}{ms:List nZ}(h:Own base w v ms)(hb:Below w.heap.size w w'):Own base w' v ms:=by
 rcases h.2 with⟨rfl,h0⟩|⟨g,c,cur,rfl,qa,hg,rF,qw,oH,nA⟩
 .exact⟨h.1,.inl ⟨rfl,h0⟩⟩
 .have mS:=(Ig.1 hg).1
  exact⟨h.1,.inr ⟨g,c,cur,rfl,qa,(hb.block g mS).trans hg,rF,qw,oH,nA⟩⟩
theorem Own.lt{base:Nat}{w:World}{v:Value}{ms:List nZ}(h:Own base w v ms)(k:Nat)(hk:v.ownBlock=AI k):base<=k/\k<w.heap.size:=I3 h k hk
theorem Sl.below{w w':World}{v:Value}{ms:List nZ}(h:Sl w v ms)(hb:Below w.heap.size w w'):Sl w' v ms:=by
 obtain⟨a,cap,rfl,hs,h⟩:=h;refine⟨a,cap,rfl,hs,?_⟩;rcases h with h|⟨b,off,rfl,mS,hr⟩
 .exact .inl h
 .refine .inr ⟨b,off,rfl,Ix mS hb.size,λj hj=>?_⟩
  exact(hr j hj).eq (λo=>(pd hb).1 b o mS)
theorem Row.later{w w':World}{b off:Nat}{ms:List nZ}(hr:Row w b off ms)(hb:Below w.heap.size w w')(mS:b<w.heap.size):Row w' b off ms:=λj hj=>(hr j hj).eq (λo=>(pd hb).1 b o mS)
theorem Own.mono{base base':Nat}{w:World}{v:Value}{ms:List nZ}(h:Own base w v ms)(hb:base'<=base):Own base' w v ms:=by
 rcases h.2 with⟨rfl,h0⟩|⟨g,c,cur,rfl,qa,hg,rF,qw,oH,nA⟩
 .exact⟨h.1,.inl ⟨rfl,h0⟩⟩
 .exact⟨h.1,.inr ⟨g,c,cur,rfl,IB hb qa,hg,rF,qw,oH,nA⟩⟩
theorem nh(base:Nat)(w:World):Own base w (sh U 0 0) []:=Jz w base 97 6
theorem rA{ms:List nZ}(h:∀j,(ms.getD j dm).ok):∀m∈ms,(m).ok:=by
 intro m hm;obtain⟨j,hj,rfl⟩:=I2 hm;have:=h j;simpa[Ip,Ih hj] using this
theorem oz{ms:List nZ}(h:∀m∈ms,(m).ok):∀j,(ms.getD j dm).ok:=by
 intro j;by_cases hj:j<ms.length
 .have:=h ms[j] (IU hj)
  simpa[Ip,Ih hj] using this
 .rw[Ip,IK (Qk hj)];exact Ah
end Wh
end Go.Proofs.YtipbebleapjcjaaGreatDoor
namespace Go.Proofs.YtipbebleapjcjaaGreatDoor
open Go.RowKit
section
variable {P:Program} {S T:TypeId} {k:Nat}
theorem aca{w:World}{g i n:Nat}{cur:Array Value}(hg:w.heap[g]?=AI (Ib cur T (0,0))):∀j v,((cur.toList.take n).drop i)[j]?=AI v->w.cell? ((⟨g,i,U⟩:Addr).add j)=AI v:=λj v hj=>by
 rw[show w.cell? ((⟨g,i,U⟩:Addr).add j)=cur[i+j]? by rw[I4];exact fi hg _];rw[List.getElem?_drop,List.getElem?_take] at hj;split at hj
 .simpa using hj
 .cases hj
theorem acb(hu:P.underlying S=AI (.slice T))(od:(P.info? T).map (·.size)=AI k){g n c i vb:Nat}{cur:Array Value}{vs:List Value}{w:World}(hg:w.heap[g]?=AI (Ib cur T (0,0)))(oH:cur.size=c*k)(hi:i<n)(uv:n+1<=c)(hvb:vb≠g)(hv:w.heap[vb]?=AI (Ib vs.toArray T (0,0)))(Hj:vs.length=k)(h1c:∀v∈cur.toList.take (n*k),v.oneCell'=true)(Rz:∀v∈vs,v.oneCell'=true) :
 ∃W1 W2,(∀ty dc sc,(QK #[S,S] ty #[sh (AI ⟨g,(i+1)*k,U⟩) (n-i) dc,sh (AI ⟨g,i*k,U⟩) (n+1-i) sc]).run P w.drew=.ok (goInt (Nat.min (n+1-i) (n-i))) W1) /\
  (∀ty dc,(QK #[S,S] ty #[sh (AI ⟨g,i*k,U⟩) (n+1-i) dc,sh (AI ⟨vb,0,U⟩) 1 1]).run P W1=.ok (goInt (Nat.min 1 (n+1-i))) W2) /\
  ∃xH:Array Value,W2.heap[g]?=AI (Ib xH T (0,0))/\xH.size=c*k/\xH.toList.take ((n+1)*k)=cur.toList.take (i*k)++vs++(cur.toList.take (n*k)).drop (i*k)/\w.grownBy W2 (AI g):=by
 have m1:(i+1)*k=i*k+k:=Nat.succ_mul i k;have m2:(n+1)*k=n*k+k:=Nat.succ_mul n k;have m3:i*k<=n*k:=JW k (by omega);have m4:(n+1)*k<=c*k:=JW k uv;have m5:(n-i)*k=n*k-i*k:=Nat.sub_mul n i k;have hXl:((cur.toList.take (n*k)).drop (i*k)).length=(n-i)*k:=by
  simp only[I9,IA,Jp];omega
 have hX1:∀v∈(cur.toList.take (n*k)).drop (i*k),v.oneCell'=true:=λv hv=>h1c v (List.mem_of_mem_drop hv);have hXs:=aca (w:=w.drew) (i:=i*k) (n:=n*k) hg;generalize hX:(cur.toList.take (n*k)).drop (i*k)=X at *;obtain⟨C1,hC1⟩:∃C1:Array Value,C1=(cur.toList.take ((i+1)*k)++X++cur.toList.drop ((i+1)*k+X.length)).toArray:=⟨_,rfl⟩;obtain⟨W1,uj⟩:∃W1,W1=w.drew.setRow g C1:=⟨_,rfl⟩;have ou:W1.heap[g]?=AI (Ib C1 T (0,0)):=by rw[uj];exact setRow_heap w.drew g cur C1 T (0,0) hg
 have Hk:∀q,q≠g->W1.heap[q]?=w.heap[q]?:=λq hq=>by rw[uj,setRow_other w.drew g q C1 hq];rfl
 have hv1:W1.heap[vb]?=AI (Ib vs.toArray T (0,0)):=by rw[Hk vb hvb];exact hv
 have sj:C1.size=c*k:=by
  rw[hC1];simp only[O9,Iq,IA,I9,Jp,hXl,oH];omega
 obtain⟨C2,hC2⟩:∃C2:Array Value,C2=(C1.toList.take (i*k)++vs++C1.toList.drop (i*k+vs.length)).toArray:=⟨_,rfl⟩;obtain⟨W2,sx⟩:∃W2,W2=W1.setRow g C2:=⟨_,rfl⟩;refine⟨W1,W2,λty dc sc=>?_,λty dc=>?_,C2,by rw[sx];exact setRow_heap W1 g C1 C2 T (0,0) ou,?_,?_,⟨by rw[sx,uj];rfl,by rw[sx,uj];rfl,by rw[sx,uj];rfl,by rw[sx,uj];simp[World.setRow],λq _ hq=>?_⟩⟩
 .rw[uj,hC1]
  exact xF w.drew S S ty T g ((i+1)*k) (n-i) dc ⟨g,i*k,U⟩ (n+1-i) sc k cur T X hu od hg (by rw[hXl];congr 1;simp only[Nat.min_def];split<;>omega) hXs (by rw[hXl,oH];omega) hX1
 .rw[sx,hC2]
  exact xF W1 S S ty T g (i*k) (n+1-i) dc ⟨vb,0,U⟩ 1 1 k C1 T vs hu od ou (by rw[Hj,show Nat.min 1 (n+1-i)=1 by simp only[Nat.min_def];split<;>omega,Nat.one_mul]) (λj v hj=>by rw[I4,fi hv1];simpa using hj) (by rw[Hj,sj];omega) Rz
 .rw[hC2];simp only[O9,Iq,IA,I9,Jp,Hj,sj];omega
 .have e1:C1.toList.take (i*k)=cur.toList.take (i*k):=by
   rw[hC1];simp only[Jh];rw[List.take_append_of_le_length (by simp only[IA,Jp,oH];omega),List.take_take];congr 1;omega
  have e2:C1.toList.drop (i*k+vs.length)=X++cur.toList.drop ((i+1)*k+X.length):=by
   rw[hC1];simp only[Jh];rw[List.drop_append_of_le_length (by simp only[IA,Jp,oH];omega),Ql (by simp only[IA,Jp,oH];omega),List.nil_append]
  rw[hC2,e1,e2];simp only[Jh];rw[<- Jh vs,<- Jh (List.take (i*k) cur.toList)];exact List.take_left' (by simp only[Iq,IA,Jp,oH,Hj,hXl];omega)
 .have hq':q≠g:=λe=>hq (by rw[e])
  rw[sx,setRow_other W1 g q C2 hq',Hk q hq']
theorem ace(hu:P.underlying S=AI (.slice T))(od:(P.info? T).map (·.size)=AI k){g c i vb G:Nat}{cur Rg:Array Value}{vs:List Value}{w:World}(hg:w.heap[g]?=AI (Ib cur T (0,0)))(oH:cur.size=c*k)(hi:i<c)(hv:w.heap[vb]?=AI (Ib vs.toArray T (0,0)))(Hj:vs.length=k)(h1c:∀v∈cur.toList.take (c*k),v.oneCell'=true)(Rz:∀v∈vs,v.oneCell'=true)(Ch:c+1<=G)(hRs:Rg.size=G*k)(hRt:Rg.toList.take (i*k)=cur.toList.take (i*k)) :
 ∃W2 W3,(∀ty dc,(QK #[S,S] ty #[sh (AI ⟨w.heap.size,i*k,U⟩) (c+1-i) dc,sh (AI ⟨vb,0,U⟩) 1 1]).run P ((w.alloc (Ib Rg T)).drew)=.ok (goInt (Nat.min 1 (c+1-i))) W2) /\
  (∀ty dc sc,(QK #[S,S] ty #[sh (AI ⟨w.heap.size,(i+1)*k,U⟩) (c-i) dc,sh (AI ⟨g,i*k,U⟩) (c-i) sc]).run P W2.drew=.ok (goInt (Nat.min (c-i) (c-i))) W3) /\
  ∃xH:Array Value,W3.heap[w.heap.size]?=AI (Ib xH T (0,0))/\xH.size=G*k/\xH.toList.take ((c+1)*k)=cur.toList.take (i*k)++vs++(cur.toList.take (c*k)).drop (i*k)/\w.grownBy W3 U:=by
 have Bo:g<w.heap.size:=(Ig.1 hg).1;have hvw:vb<w.heap.size:=(Ig.1 hv).1;have m1:(i+1)*k=i*k+k:=Nat.succ_mul i k;have m2:(c+1)*k=c*k+k:=Nat.succ_mul c k;have m3:i*k<=c*k:=JW k (by omega);have m4:(c+1)*k<=G*k:=JW k Ch;have m5:(c-i)*k=c*k-i*k:=Nat.sub_mul c i k;obtain⟨W1,uj⟩:∃W1,W1=(w.alloc (Ib Rg T)).drew:=⟨_,rfl⟩;rw[<- uj];have ou:W1.heap[w.heap.size]?=AI (Ib Rg T (0,0)):=by rw[uj];exact Ii w _
 have Hk:∀q,q<w.heap.size->W1.heap[q]?=w.heap[q]?:=λq hq=>by rw[uj];exact Iv w _ q hq
 have hv1:W1.heap[vb]?=AI (Ib vs.toArray T (0,0)):=by rw[Hk vb hvw];exact hv
 obtain⟨C1,hC1⟩:∃C1:Array Value,C1=(Rg.toList.take (i*k)++vs++Rg.toList.drop (i*k+vs.length)).toArray:=⟨_,rfl⟩;obtain⟨W2,sx⟩:∃W2,W2=W1.setRow w.heap.size C1:=⟨_,rfl⟩;have vR:W2.drew.heap[w.heap.size]?=AI (Ib C1 T (0,0)):=by rw[sx];exact setRow_heap W1 w.heap.size Rg C1 T (0,0) ou
 have xW:∀q,q<w.heap.size->W2.drew.heap[q]?=w.heap[q]?:=λq hq=>by
  have:=setRow_other W1 w.heap.size q C1 (by omega);rw[<- sx] at this;exact this.trans (Hk q hq)
 have sj:C1.size=G*k:=by
  rw[hC1];simp only[O9,Iq,IA,I9,Jp,Hj,hRs];omega
 have hXl:((cur.toList.take (c*k)).drop (i*k)).length=(c-i)*k:=by
  simp only[I9,IA,Jp];omega
 have hX1:∀v∈(cur.toList.take (c*k)).drop (i*k),v.oneCell'=true:=λv hv=>h1c v (List.mem_of_mem_drop hv);have hXs:=aca (w:=W2.drew) (i:=i*k) (n:=c*k) ((xW g Bo).trans hg);generalize hX:(cur.toList.take (c*k)).drop (i*k)=X at *;obtain⟨C2,hC2⟩:∃C2:Array Value,C2=(C1.toList.take ((i+1)*k)++X++C1.toList.drop ((i+1)*k+X.length)).toArray:=⟨_,rfl⟩;obtain⟨W3,sN⟩:∃W3,W3=W2.drew.setRow w.heap.size C2:=⟨_,rfl⟩;refine⟨W2,W3,λty dc=>?_,λty dc sc=>?_,C2,by rw[sN];exact setRow_heap W2.drew w.heap.size C1 C2 T (0,0) vR,?_,?_,⟨by rw[sN,sx,uj];rfl,by rw[sN,sx,uj];rfl,by rw[sN,sx,uj];rfl,by rw[sN,sx,uj];simp[World.setRow],λq hq _=>by rw[sN,setRow_other W2.drew w.heap.size q C2 (by omega),xW q hq]⟩⟩
 .rw[sx,hC1]
  exact xF W1 S S ty T w.heap.size (i*k) (c+1-i) dc ⟨vb,0,U⟩ 1 1 k Rg T vs hu od ou (by rw[Hj,show Nat.min 1 (c+1-i)=1 by simp only[Nat.min_def];split<;>omega,Nat.one_mul]) (λj v hj=>by rw[I4,fi hv1];simpa using hj) (by rw[Hj,hRs];omega) Rz
 .rw[sN,hC2]
  exact xF W2.drew S S ty T w.heap.size ((i+1)*k) (c-i) dc ⟨g,i*k,U⟩ (c-i) sc k C1 T X hu od vR (by rw[hXl];congr 1;simp only[Nat.min_def];split<;>omega) hXs (by rw[hXl,sj];omega) hX1
 .rw[hC2];simp only[O9,Iq,IA,I9,Jp,hXl,sj];omega
 .have e1:C1.toList.take ((i+1)*k)=cur.toList.take (i*k)++vs:=by
   rw[hC1,hRt];exact List.take_left' (by simp only[Iq,IA,Jp,oH,Hj];omega)
  rw[hC2,e1];exact List.take_left' (by simp only[Iq,IA,Jp,oH,Hj,hXl];omega)
end
abbrev VE(f T K:Nat):Prop:=∀(g n c i vb:Nat) (cur:Array Value) (vs:List Value) (w:World) (_:w.heap[g]?=AI (Ib cur T (0,0))) (_:cur.size=c*K) (_:i<n) (_:n+1<=c) (_:c<=9223372036854775807)
 (_:vb≠g) (_:w.heap[vb]?=AI (Ib vs.toArray T (0,0))) (_:vs.length=K) (_:∀v∈cur.toList.take (n*K),v.oneCell'=true) (_:∀v∈vs,v.oneCell'=true),
 ni f #[sh (AI ⟨g,0,U⟩) n c,O J i,sh (AI ⟨vb,0,U⟩) 1 1] w λe w'=>e=Ia (sh (AI ⟨g,0,U⟩) (n+1) c) /\
  ∃xH:Array Value,w'.heap[g]?=AI (Ib xH T (0,0))/\xH.size=c*K/\xH.toList.take ((n+1)*K)=cur.toList.take (i*K)++vs++(cur.toList.take (n*K)).drop (i*K)/\w.grownBy w' (AI g)
abbrev VF(f T K:Nat):Prop:=∀(g n c i vb:Nat) (cur:Array Value) (vs:List Value) (w:World) (_:w.heap[g]?=AI (Ib cur T (0,0))) (_:cur.size=c*K) (_:i<n) (_:n<=c) (_:c<n+1) (_:n<=1000)
 (_:w.heap[vb]?=AI (Ib vs.toArray T (0,0))) (_:vs.length=K) (_:∀v∈cur.toList.take (n*K),v.oneCell'=true) (_:∀v∈vs,v.oneCell'=true),
 ni f #[sh (AI ⟨g,0,U⟩) n c,O J i,sh (AI ⟨vb,0,U⟩) 1 1] w λe w'=>∃G,e=Ia (sh (AI ⟨w.heap.size,0,U⟩) (n+1) G)/\n+1<=G/\G<=Il /\
  ∃xH:Array Value,w'.heap[w.heap.size]?=AI (Ib xH T (0,0))/\xH.size=G*K/\xH.toList.take ((n+1)*K)=cur.toList.take (i*K)++vs++(cur.toList.take (n*K)).drop (i*K)/\w.grownBy w' U
abbrev acf(f T K:Nat):Prop:=∀(base n vb:Nat) (v:Value) (xs vs:List Value) (w:World) (_:w.ownsRow base T K v n xs) (_:n<=1000) (_:base<=w.heap.size)
 (_:w.heap[vb]?=AI (Ib vs.toArray T (0,0))) (_:vs.length=K) (_:∀v∈vs,v.oneCell'=true),
 ni f #[v,O J n,sh (AI ⟨vb,0,U⟩) 1 1] w λe w'=>∃v',e=Ia v'/\w'.ownsRow base T K v' (n+1) (xs++vs)/\w.grownBy w' v.ownBlock
theorem Xa{P:Program}{S T k B:Nat}{z:Value}(hu:P.underlying S=AI (.slice T))(h3:P.underlying 3=AI (.int J))(hI:(P.info? T).map (λi=>(i.zero,i.size,i.bytes))=AI (AI z,k,B))(hz:z.cells.size=k)(hk:0<k)(hB:B<=1000){g c i:Nat}{cur:Array Value}{w:World}(hg:w.heap[g]?=AI (Ib cur T (0,0)))(oH:cur.size=c*k)(hic:i<c)(hc:c<=1000)(ty:Nat) :
 ∃G Rg,c+1<=G/\G<=Il/\Rg.size=G*k/\Rg.toList.take (i*k)=cur.toList.take (i*k)/\(Ur #[S,3] ty #[sh (AI ⟨g,0,U⟩) i c,O J ((c:Int)+1-(i:Int))]).run P w =
  .ok (sh (AI ⟨w.heap.size,0,U⟩) (c+1) G) (w.drew.alloc (Ib Rg T)):=by
 obtain⟨i0,qg,oS,so,sf⟩:=Jc hI;have hkk:(c:Int)+1-(i:Int)=((c+1-i:Nat):Int):=by omega
 have hik:i+(c+1-i)=c+1:=by omega
 have m1:i*k<=c*k:=JW k (by omega);have m2:(c+1-i)*B<=1001*1000:=Nat.mul_le_mul (by omega) hB;have m3:(c+1)*B<=1001*1000:=Nat.mul_le_mul (by omega) hB;have hold:(Builtin.firstCells i0.size i (sh (AI ⟨g,0,U⟩) i c)).run P w.drew=.ok (cur.toList.take (i*k)).toArray w.drew:=by
  rw[so];exact run_firstCells_some w.drew k i ⟨g,0,U⟩ i c (cur.toList.take (i*k)) (by rw[IA,Jp];omega) (λj v hj=>by
   have e:w.drew.cell? ((⟨g,0,U⟩:Addr).add j)=cur[j]?:=by rw[I4,I6];exact fi hg _
   rw[e];rw[List.getElem?_take] at hj;split at hj
   .simpa using hj
   .cases hj)
 have h:=Lib.run_append_grow_zeros w S 3 ty T i0 _ J J hu h3 qg oS (AI ⟨g,0,U⟩) i c (cur.toList.take (i*k)) hold (c+1-i) (by omega) (by omega) (by omega) (by omega) (by rw[sf];omega) (by rw[sf,hik];exact growslice_fits (by omega) (by omega));rw[hik] at h;rw[hkk];have h1:=grownCap_ge w (c+1) c T;have m4:(c+1)*k<=grownCap w (c+1) c T*k:=JW k h1;have m5:(c+1-i)*k=(c+1)*k-i*k:=Nat.sub_mul _ _ _;have m6:(grownCap w (c+1) c T-(c+1))*k=grownCap w (c+1) c T*k-(c+1)*k:=Nat.sub_mul _ _ _;have m7:i*k<=(c+1)*k:=JW k (by omega);refine⟨_,_,h1,grownCap_le_maxLen w (c+1) c T (by unfold Il;omega),?_,?_,h⟩
 .simp only[Array.size_append,O9,size_zeroCells,IA,Jp,oH,hz]
  omega
 .simp only[Array.toList_append,Jh]
  exact List.take_left' (by simp only[IA,Jp,oH];omega)
theorem ago{f T K:Nat}(hr:VE f T K)(hG:VF f T K)(he:acf f T K){base i vb n:Nat}{v:Value}{xs vs:List Value}{w:World}(hown:w.ownsRow base T K v n xs)(h1:∀x∈xs,x.oneCell'=true)(hi:i<=n)(hn:n<=1000)(hbase:base<=w.heap.size)(hv:w.heap[vb]?=AI (Ib vs.toArray T (0,0)))(Hj:vs.length=K)(Rz:∀v∈vs,v.oneCell'=true)(nK:v.ownBlock≠AI vb) :
 ni f #[v,O J i,sh (AI ⟨vb,0,U⟩) 1 1] w λe w'=>∃v',e=Ia v'/\w'.ownsRow base T K v' (n+1) (xs.take (i*K)++vs++xs.drop (i*K))/\w.grownBy w' v.ownBlock:=by
 have hxl:xs.length=n*K:=hown.1;by_cases hin:i=n
 .subst hin
  refine(he base i vb v xs vs w hown hn hbase hv Hj Rz).mono ?_;rintro e w' ⟨v',rfl,h1,h2⟩;rw[IJ (by omega),Ql (by omega),QM];exact⟨v',rfl,h1,h2⟩
 .have m1:i*K<=n*K:=JW K hi
  have m2:(n+1)*K=n*K+K:=Nat.succ_mul n K;have hol:(xs.take (i*K)++vs++xs.drop (i*K)).length=(n+1)*K:=by simp only[Iq,IA,I9,hxl,Hj];omega
  rcases hown.2 with⟨_,h0⟩|⟨g,c,cur,rfl,qa,hg,rF,qw,oH,nA⟩
  .omega
  .have hvb:vb≠g:=λe=>nK (by simp[Jb,e])
   have h1c:∀v∈cur.toList.take (n*K),v.oneCell'=true:=by rw[nA];exact h1
   have hti:cur.toList.take (i*K)=xs.take (i*K):=by rw[<- nA,List.take_take];congr 1;omega
   by_cases uv:n+1<=c
   .refine(hr g n c i vb cur vs w hg oH (by omega) uv (by unfold Il at qw;omega) hvb hv Hj h1c Rz).mono ?_
    rintro e w' ⟨rfl,xH,h1,h2,h3,h4⟩;exact⟨_,rfl,⟨hol,.inr ⟨g,c,xH,rfl,qa,h1,uv,qw,h2,by rw[h3,hti,nA]⟩⟩,h4⟩
   .refine(hG g n c i vb cur vs w hg oH (by omega) rF (by omega) hn hv Hj h1c Rz).mono ?_
    rintro e w' ⟨G,rfl,Ch,hG2,xH,h1,h2,h3,h4⟩;exact⟨_,rfl,⟨hol,.inr ⟨_,G,xH,rfl,hbase,h1,Ch,hG2,h2,by rw[h3,hti,nA]⟩⟩,W8 h4 _⟩
theorem agp{P:Prop}(h:P:=by
 intro g n c i vb cur vs w hg oH hi uv ME hvb hv Hj h1c Rz;have hov:=λo lb cb=>KY w g vb o lb cb cur vs.toArray hg hv hvb (by omega);have xC:¬ ((i:Int)=(n:Int)):=by omega
 have mZ:¬ (c=i+1):=by omega
 have qA:¬ (c=i):=by omega
 have nC:(i:Int)<=(n:Int)+1:=by omega
 obtain⟨W1,W2,akg,anV,HF⟩:=acb x_u x_s hg oH hi uv hvb hv Hj h1c Rz;have HF:Hid _:=HF;clear h1c Rz hg hv;have RF:IntKind.i64.wrap ((i:Int)+1)=(i:Int)+1:=by rw[IW];omega
 have mO:(0:Int)<=(i:Int)+1:=by omega
 have hin:i<=n:=by omega
 have htn:((i:Int)+1).toNat=i+1:=by omega
 go_enter acg,RG;go_wp2_with (simp only[hov]);go_region_law (refine yw rfl _ _ _ _ rfl _ _ (by simp[Act.eval,Act.put]) (by simp[Act.eval,Act.put]) (akg _ _ _) ?_)
 go_wp2_with fail;go_ret;exact⟨rfl,HF.out⟩):P:=h
theorem agq{P:Prop}(h:P:=by
 intro g n c i vb cur vs w hg oH hi rF uv ME hv Hj h1c Rz;have hcn:c=n:=by omega
 subst hcn;have xC:¬ ((i:Int)=(c:Int)):=by omega
 have zV:(c:Int)<(c:Int)+1:=by omega
 obtain⟨G,Rg,Ch,hG2,hRs,hRt,hrz⟩:=Xa x_u atB x_i rfl (by omega) (by omega) hg oH hi ME x_S;have aBz:G<=9223372036854775807:=by unfold Il at hG2;omega
 obtain⟨W2,W3,akg,anV,HF⟩:=ace x_u x_s hg oH hi hv Hj h1c Rz Ch hRs hRt;obtain⟨W1,uj⟩:∃W1,W1=(w.alloc (Ib Rg x_T)).drew:=⟨_,rfl⟩;have hwd:w.drew.alloc (Ib Rg x_T)=W1:=by rw[uj];rfl
 rw[hwd] at hrz;rw[<- uj] at akg;have HF:Hid _:=HF;have RF:IntKind.i64.wrap ((i:Int)+1)=(i:Int)+1:=by rw[IW];omega
 have mO:(0:Int)<=(i:Int)+1:=by omega
 have hin:i<=c:=by omega
 have htn:((i:Int)+1).toNat=i+1:=by omega
 have hGi:¬ (G=i):=by omega
 have aBA:¬ (G=i+1):=by omega
 have hci:¬ (c=i):=by omega
 clear uj h1c Rz hwd hRs hRt hg hv;go_enter acg,RG;go_wp2_with (at_builtin;refine Lib.wpList_append_run _ rfl _ _ _ _ rfl _ _ rfl rfl _ _ hrz ?_);go_region_law (refine yw rfl _ _ _ _ rfl _ _ (by simp[Act.eval,Act.put]) (by simp[Act.eval,Act.put]) (anV _ _ _) ?_)
 go_wp2_with fail;go_ret;exact⟨G,rfl,Ch,hG2,HF.out⟩):P:=h
theorem akh{P:Prop}(h:P:=by
 intro base n vb v xs vs w hown hn hbase hv Hj Rz;obtain⟨i0,qg,oS,so,sf⟩:=Jc x_i;have hnews:∀j u,vs[j]?=AI u->w.cell? ((⟨vb,0,U⟩:Addr).add j)=AI u:=λj v hj=>by rw[I4,fi hv];simpa using hj
 have HO:Hid (Oy _ _ _ _ _ _ _):=hown;rcases hown.2 with⟨rfl,rfl⟩|⟨g,c,cur,rfl,_,_,rF,qw,_,_⟩;rotate_left;unfold Il at qw;by_cases hcn:c=n;subst hcn;all_goals
  clear hown hv;go_enter acg,RG;go_wp2_with (at_builtin;refine IY _ rfl _ _ x_S rfl base x_T i0 _ _ _ x_u qg oS so sf rfl (by omega) _ _ xs rfl HO.out ⟨vb,0,U⟩ 1 1 vs rfl (by omega) hnews Rz (by unfold Il;omega) (by omega) hbase ?_);intro v' w' r1 r2 r3;go_wp2_with fail;go_ret;exact⟨v',rfl,r1,r2⟩):P:=h
theorem Hl(a:ByteArray):oh a a=0:=(oQ a a).2 rfl
theorem zh(a b:ByteArray):0<oh a b↔oh b a<0:=by rw[Bn,pB]
theorem AG(a b c:ByteArray)(h1:oh a b<0)(h2:oh b c<0):oh a c<0:=by
 rw[pB] at *;exact sM h1 h2
namespace RL
section
variable {α:Type}
theorem zi(f:α->ByteArray):Keyed λa b=>oh (f a) (f b) where
 refl a:=Hl _
 gt a b:=zh _ _
 trans a b c h1 h2:=AG _ _ _ h1 h2
 left a b c h:=by rw[(oQ _ _).1 h]
 right a b c h:=by rw[(oQ _ _).1 h]
def bI(b:Bool):Int:=if b=true then 1 else 0
def lex(o p:α->α->Int)(a b:α):Int:=if o a b=0 then p a b else o a b
theorem Xb{o p:α->α->Int}(h:Keyed o)(k:Keyed p):Keyed (lex o p) where
 refl a:=by rw[lex,if_pos (h.refl a),k.refl a]
 gt a b:=by
  unfold lex;by_cases e:o a b=0
  .rw[if_pos e,if_pos (h.symm e)];exact k.gt a b
  .rw[if_neg e,if_neg (λe2=>e (h.symm e2))];exact h.gt a b
 trans a b c h1 h2:=by
  unfold lex at *;by_cases e:o a b=0
  .rw[if_pos e] at h1
   by_cases e2:o b c=0
   .rw[if_pos e2] at h2
    rw[if_pos (h.eqt e e2)];exact k.trans _ _ _ h1 h2
   .rw[if_neg e2] at h2
    rw[if_neg (λe3=>e2 (h.eqt (h.symm e) e3)),h.left a b c e];exact h2
  .rw[if_neg e] at h1
   by_cases e2:o b c=0
   .rw[if_neg (λe3=>e (h.eqt e3 (h.symm e2))),<- h.right b c a e2];exact h1
   .rw[if_neg e2] at h2
    have h3:=h.trans _ _ _ h1 h2;rw[if_neg (by omega)];exact h3
 left a b c e:=by
  unfold lex at *;by_cases e1:o a b=0
  .rw[if_pos e1] at e
   rw[h.left a b c e1,k.left a b c e]
  .rw[if_neg e1] at e;exact absurd e e1
 right a b c e:=by
  unfold lex at *;by_cases e1:o a b=0
  .rw[if_pos e1] at e
   rw[h.right a b c e1,k.right a b c e]
  .rw[if_neg e1] at e;exact absurd e e1
end
end RL
def Cr(n r:Int):Prop:=0<=r/\r*r<=n/\n<(r+1)*(r+1)
theorem Hn{a b:Int}(h0:0<=a)(h:a<=b):a*a<=b*b:=Int.mul_le_mul h h h0 (by omega)
def rtN(n:Nat):Nat->Nat
 |0=>0
 |k+1=>if(k+1)*(k+1)<=n then k+1 else rtN n k
def rt(n:Int):Int:=(rtN n.toNat n.toNat:Nat)
theorem ach{n r:Nat}(h1:r*r<=n)(h2:n<(r+1)*(r+1)):∀k,r<=k->rtN n k=r
 |0,hk=>by
  have e:r=0:=by omega
  rw[e];rfl
 |k+1,hk=>by
  simp only[rtN];by_cases hc:(k+1)*(k+1)<=n
  .rw[if_pos hc]
   rcases Nat.lt_or_ge r (k+1) with h|h
   .have:=Nat.mul_le_mul (show r+1<=k+1 by omega) (show r+1<=k+1 by omega)
    omega
   .omega
  .rw[if_neg hc]
   have nK:r≠k+1:=λe=>hc (e▸h1);exact ach h1 h2 k (by omega)
theorem rt_eq{n r:Int}(h:Cr n r):rt n=r:=by
 obtain⟨h0,h1,h2⟩:=h;obtain⟨m,rfl⟩:=Int.eq_ofNat_of_zero_le h0;have hn:=Int.le_trans (Int.mul_nonneg h0 h0) h1;obtain⟨k,rfl⟩:=Int.eq_ofNat_of_zero_le hn;have g1:m*m<=k:=by exact_mod_cast h1
 have g2:k<(m+1)*(m+1):=by exact_mod_cast h2
 have g3:=IB (Nat.le_mul_self m) g1;show((rtN k k:Nat):Int)=(m:Int);rw[ach g1 g2 k g3]
def Bp(n r b:Int):Prop:=0<=r/\r*r<=n/\n<(r+b)*(r+b)
theorem VG{n r b:Int}(h:Bp n r (2*b))(hb:0<=b)(hx:(r+b)*(r+b)<=n):Bp n (r+b) b:=by
 obtain⟨h0,h1,h2⟩:=h;refine⟨by omega,hx,?_⟩;rw[show r+b+b=r+2*b by omega];exact h2
theorem EL{n r b:Int}(h:Bp n r (2*b))(hx:¬ (r+b)*(r+b)<=n):Bp n r b:=
 ⟨h.1,h.2.1,by omega⟩
theorem MF{n r:Int}(h:Bp n r 1):Cr n r:=h
theorem VH{n r b:Int}(h:Bp n r b)(hn:n<=9223372036854775807):r<=3037000499:=by
 apply Classical.byContradiction;intro c;have:=Hn (a:=3037000500) (b:=r) (by omega) (by omega);have:=h.2.1;omega
theorem VI{n x:Int}(hx:0<x):x<=n/x↔x*x<=n:=Int.le_ediv_iff_mul_le hx
theorem two_pow_pos(k:Nat):(0:Int)<2^k:=by
 have:(0:Nat)<2^k:=Nat.two_pow_pos k
 exact_mod_cast this
theorem two_pow_succ(k:Nat):(2:Int)^(k+1)=2*2^k:=by rw[Int.pow_succ];omega
theorem AH{a b:Nat}(h:a<=b):(2:Int)^a<=2^b:=by
 have:(2:Nat)^a<=2^b:=Q9 (by omega) h
 exact_mod_cast this
theorem Xc(n:Int)(h₀:0<=n)(h₁:n<2^63):IntKind.i64.wrap n=n:=by rw[IW];omega
theorem aki(k:Nat)(r:Int)(h0:0<=r)(hm:r%2^(k+1)=0)(hr:r<2^63)(hk:k<=62):bits BinOp.or IntKind.i64 r (2^k)=r+2^k:=
 bits_join J 63 (by decide) Xc (k+1) r (2^k) h0 hm hr (Int.le_of_lt (two_pow_pos k)) (by rw[two_pow_succ];have:=two_pow_pos k;omega) (Int.lt_of_le_of_lt (AH hk) (by decide))
theorem MG{r:Int}{k:Nat}(hm:r%2^(k+1)=0):r%2^k=0:=
 Int.emod_eq_zero_of_dvd (Int.dvd_trans ⟨2,by rw[Int.pow_succ]⟩ (Int.dvd_of_emod_eq_zero hm))
theorem agr{r:Int}{k:Nat}(hm:r%2^(k+1)=0):(r+2^k)%2^k=0:=by
 rw[Int.add_emod_right];exact MG hm
theorem akj(n:Nat)(h:n<2^64):n<2^Qy n:=by
 by_cases h0:n=0
 .subst h0;decide
 .exact(Lib.bitLenAux_bounds 64 n h h0).2.2
theorem RH{n:Int}(h0:0<=n)(h1:n<=9223372036854775807)(j:Nat)(hj:Qy n.toNat/2=j):Bp n 0 (2^(j+1)):=by
 refine⟨by omega,by simpa using h0,?_⟩;have h2:=akj n.toNat (by omega);have h3:(2:Nat)^Qy n.toNat<=2^(2*(j+1)):=Q9 (by omega) (by omega);have h4:(2:Nat)^(2*(j+1))=2^(j+1)*2^(j+1):=by rw[<- Nat.pow_add];congr 1;omega
 have h5:n.toNat<2^(j+1)*2^(j+1):=by omega
 have h6:((n.toNat:Nat):Int)<((2^(j+1)*2^(j+1):Nat):Int):=by exact_mod_cast h5
 rw[Int.toNat_of_nonneg h0] at h6;simpa using h6
end Go.Proofs.YtipbebleapjcjaaGreatDoor
namespace Go.Proofs
open Go.Shelf
def Tryz.MH:OD:=⟨fun|125=>158|128=>206|129=>207|n=>n,fun|46=>137|3=>3|51=>256|53=>258|4=>4|5=>5|9=>9|n=>n,fun|n=>n⟩
theorem Tryz.ags:Go.Proofs.Lays.n125 AT Tryz.MH:={
 mixed:=by kernel_rfl
 f125:=Tryz.func158.trans (congrArg AI (by kernel_rfl))
 f128:=Tryz.func206.trans (congrArg AI (by kernel_rfl))
 f129:=Tryz.func207.trans (congrArg AI (by kernel_rfl))
 t3:=IH
 a3:=No
 z3:=JY
 v3:=J0
 t4:=Jo
 a4:=OE
 z4:=Oo
 v4:=J1
 t5:=JA
 a5:=Qw
 z5:=Qd
 v5:=OF
 t9:=IF
 a9:=Oj
 z9:=J8
 v9:=Ob
 t46:=OK
 a46:=QB
 z46:=Qp
 v46:=OU
 t51:=OL
 a51:=QC
 z51:=Qq
 v51:=OV
 t53:=underlying258
 a53:=isAgg258
 z53:=sizeOf258
 v53:=Tryz.zeroValue258 }
theorem Tryz.bits_Len(x:Int)(w:World)(h0:0<=x)(h1:x<=18446744073709551615) :
 Calls AT 158 #[O .u64 x] w λe w'=>e=Ia (O J (Qy x.toNat))/\w'=w:=Any.bits_Len Tryz.ags x w h0 h1
def Tryz.MI:OD:=⟨fun|219=>222|217=>250|225=>251|224=>252|267=>253|266=>284|314=>285|n=>n,fun|9=>9|3=>3|4=>4|5=>5|46=>137|146=>313|51=>256|n=>n,fun|1=>0|n=>n⟩
theorem Tryz.agt:Go.Proofs.Lays.n219 AT Tryz.MI:={
 mixed:=by kernel_rfl
 f217:=Tryz.func250.trans (congrArg AI (by kernel_rfl))
 f219:=Tryz.func222.trans (congrArg AI (by kernel_rfl))
 f224:=Tryz.func252.trans (congrArg AI (by kernel_rfl))
 f225:=Tryz.func251.trans (congrArg AI (by kernel_rfl))
 f266:=Tryz.func284.trans (congrArg AI (by kernel_rfl))
 f267:=Tryz.func253.trans (congrArg AI (by kernel_rfl))
 f314:=Tryz.func285.trans (congrArg AI (by kernel_rfl))
 t3:=IH
 a3:=No
 z3:=JY
 v3:=J0
 t4:=Jo
 a4:=OE
 z4:=Oo
 v4:=J1
 t5:=JA
 a5:=Qw
 z5:=Qd
 v5:=OF
 t9:=IF
 a9:=Oj
 z9:=J8
 v9:=Ob
 t46:=OK
 a46:=QB
 z46:=Qp
 v46:=OU
 t51:=OL
 a51:=QC
 z51:=Qq
 v51:=OV
 t146:=Uy
 a146:=isAgg313
 z146:=sizeOf313
 v146:=Tryz.zeroValue313
 g1:=by kernel_rfl }
open Go.RowKit Go.Lib in
theorem Tryz.stringslite_Index_one(s:ByteArray)(c:UInt8)(w:World) :
 Calls AT 222 #[I s,I ⟨#[c]⟩] w λe w'=>e=Ia (O J (JP s.data.toList c))/\w'=w:=Any.stringslite_Index_one Tryz.agt s c w
def Tryz.MJ:OD:=⟨fun|138=>135|195=>179|218=>180|143=>181|219=>222|217=>250|225=>251|224=>252|267=>253|266=>284|314=>285|n=>n,fun|9=>9|3=>3|4=>4|5=>5|0=>0|46=>137|146=>313|51=>256|n=>n,fun|1=>0|n=>n⟩
theorem Tryz.agu:Go.Proofs.Lays.n138 AT Tryz.MJ:={
 mixed:=by kernel_rfl
 f138:=Tryz.func135.trans (congrArg AI (by kernel_rfl))
 f143:=Tryz.func181.trans (congrArg AI (by kernel_rfl))
 f195:=Tryz.func179.trans (congrArg AI (by kernel_rfl))
 f217:=Tryz.func250.trans (congrArg AI (by kernel_rfl))
 f218:=Tryz.func180.trans (congrArg AI (by kernel_rfl))
 f219:=Tryz.func222.trans (congrArg AI (by kernel_rfl))
 f224:=Tryz.func252.trans (congrArg AI (by kernel_rfl))
 f225:=Tryz.func251.trans (congrArg AI (by kernel_rfl))
 f266:=Tryz.func284.trans (congrArg AI (by kernel_rfl))
 f267:=Tryz.func253.trans (congrArg AI (by kernel_rfl))
 f314:=Tryz.func285.trans (congrArg AI (by kernel_rfl))
 t0:=Oe
 a0:=Qe
 z0:=OZ
 v0:=Oq
 t3:=IH
 a3:=No
 z3:=JY
 v3:=J0
 t4:=Jo
 a4:=OE
 z4:=Oo
 v4:=J1
 t5:=JA
 a5:=Qw
 z5:=Qd
 v5:=OF
 t9:=IF
 a9:=Oj
 z9:=J8
 v9:=Ob
 t46:=OK
 a46:=QB
 z46:=Qp
 v46:=OU
 t51:=OL
 a51:=QC
 z51:=Qq
 v51:=OV
 t146:=Uy
 a146:=isAgg313
 z146:=sizeOf313
 v146:=Tryz.zeroValue313
 g1:=by kernel_rfl }
open Go.RowKit Go.Lib in
theorem Tryz.strings_Count_one(s:ByteArray)(c:UInt8)(w:World) :
 Calls AT 135 #[I s,I ⟨#[c]⟩] w λe w'=>e=Ia (O J (Lib.countByte s.data.toList c))/\w'=w:=Any.strings_Count_one Tryz.agu s c w
end Go.Proofs
namespace Go.Proofs.YtipbebleapjcjaaGreatDoor
open Go.RowKit
theorem AJ{k:IntKind}{a b:Int}(h:a=b):Ia (O k a)=Ia (O k b):=by rw[h]
theorem VJ{m:Int}(h0 : -9223372036854775808<=m)(h1:m<=9223372036854775807):wrap64 m=m:=by
 rw[wrap64];omega
theorem MK{n x:Int}(h0:0<=n)(h1:n<=9223372036854775807)(hx:0<x):wrap64 (n.tdiv x)=n/x:=by
 rw[Int.tdiv_eq_ediv_of_nonneg h0];have:=Int.ediv_nonneg h0 (Int.le_of_lt hx);have:=Int.ediv_le_self x h0;exact VJ (by omega) (by omega)
theorem aci(j:Nat)(r:Int)(h0:0<=r)(hm:r%2^(j+1)=0)(h1:r<=3037000499)(hj:j<=40):bits BinOp.or IntKind.i64 r (wrap64 (2^j))=r+2^j:=by
 have h2:=AH hj;have h3:=two_pow_pos j;have h4:(2:Int)^40=1099511627776:=by decide
 rw[VJ (by omega) (by omega)];exact aki j r h0 hm (Int.lt_of_le_of_lt h1 (by decide)) (by omega)
theorem acj(n:Int)(w:World)(h0:0<=n)(h1:n<=9223372036854775807) :
 Calls AT 319 #[O J n] w λe w'=>e=Ia (O J (rt n))/\w'=w:=by
 have hlen:(Qy n.toNat:Int)<=64:=by have:=Lib.bitLen_le n.toNat 64 (by omega) (by omega);omega
 have axW:(0:Int)<=(Qy n.toNat:Int):=by omega
 go_enter func319,ntmps319;go_wp2_with (go_at_call 158;refine(Tryz.bits_Len _ _ (by omega) (by omega)).mono ?_;rintro e w' ⟨rfl,rfl⟩);go_loop [3,4] (λx b=>∃(i:Nat) (r:Int),i<=33/\x=O J r/\b=O J ((i:Int)-1)/\Hid (Bp n r (2^i))/\Hid (r%2^i=0)) (λ_ b=>(intOf b+1).toNat)
 case atStart=>
  exact⟨Qy n.toNat/2+1,0,by omega,rfl,congrArg (Value.int IntKind.i64) (by omega),RH h0 h1 _ rfl,(show(0:Int)%_=0 by simp)⟩
 case round=>
  obtain⟨i,r,hi,rfl,rfl,HS,HM⟩:=hrel;have hr0:=HS.out.1;have wT:=VH HS.out h1;cases i with
  |zero=>
   go_wp2;go_ret;exact⟨AJ (rt_eq (MF HS.out)).symm,rfl⟩
  |succ j=>
   have hj:((j+1:Nat):Int)-1=j:=by omega
   rw[hj];have HO:Hid _:=aci j r hr0 HM.out wT (by omega);have hp:=two_pow_pos j;go_wp2
   .exfalso;have:=HO.out;omega
   .rename_i RI DR
    rw[HO.out] at DR ⊢;rw[MK h0 h1 (by omega)] at DR;refine⟨⟨j,r+2^j,by omega,rfl,rfl,VG (by rw[<- two_pow_succ];exact HS.out) (by omega) ((VI (by omega)).1 DR),agr HM.out⟩,by simp[intOf]⟩
   .rename_i RI DR
    rw[HO.out] at DR;rw[MK h0 h1 (by omega)] at DR;refine⟨⟨j,r,by omega,rfl,rfl,EL (by rw[<- two_pow_succ];exact HS.out) (λh=>by have:=(VI (x:=r+2^j) (n:=n) (by omega)).2 h;omega),MG HM.out⟩,by simp[intOf]⟩
theorem MM(k:Nat):(2:Int)^(k+1)/2=2^k:=by rw[two_pow_succ];omega
theorem RJ{n:Int}(h0:0<=n)(h1:n<=9223372036854775807):Bp n 0 (2*2147483648):=⟨by omega,by simpa using h0,by simp;omega⟩
theorem anZ{n x:Int}(h:¬ x<=3037000499)(h1:n<=9223372036854775807):¬ x*x<=n:=λh2=>by
 have:=Hn (a:=3037000500) (b:=x) (by omega) (by omega);omega
def Bq(n r b:Int):Prop:=(∃k:Nat,k<=31/\b=2^k/\Bp n r (2*b))\/(b=0/\Bp n r 1)
theorem Bq.next{n r b:Int}{k:Nat}(hb:b=2^k)(hk:k<=31)(h:Bp n r b):Bq n r (b/2):=by
 cases k with
 |zero=>right;subst hb;exact⟨by decide,h⟩
 |succ k=>
  left;refine⟨k,by omega,by rw[hb,MM],?_⟩
  have:2*(b/2)=b:=by rw[hb,MM,two_pow_succ]
  rw[this];exact h
theorem RM(n:Int)(w:World)(h0:0<=n)(h1:n<=9223372036854775807) :
 Calls AT 266 #[O J n] w λe w'=>e=Ia (O J (rt n))/\w'=w:=by
 go_enter func266,ntmps266;go_wp2;go_loop [3,4] (λx y=>∃(b r:Int),x=O J r/\y=O J b/\Hid (Bq n r b)) (λ_ b=>(intOf b).toNat)
 case atStart=>exact⟨2147483648,0,rfl,rfl,.inl ⟨31,by omega,by decide,RJ h0 h1⟩⟩
 case round=>
  obtain⟨b,r,rfl,rfl,HB⟩:=hrel;rcases HB.out with⟨k,hk,hb,hS⟩|⟨hb,hS⟩
  .have HS:Hid (Bp n r (2*b)):=hS
   have HK:Hid (b=2^k):=hb;have mO:b<=2147483648:=by have:=AH hk;have e:(2:Int)^31=2147483648:=(by decide);omega
   have rG:0<b:=by rw[hb];exact two_pow_pos k
   have hr0:=hS.1;have wT:=VH hS h1;clear hb hS HB;by_cases hle:r+b<=3037000499
   .have hq:=Hn (a:=r+b) (b:=3037000499) (by omega) hle
    have hq0:0<=(r+b)*(r+b):=Int.mul_nonneg (by omega) (by omega);by_cases hx:(r+b)*(r+b)<=n
    .have HN:Hid (Bq n (r+b) (b/2)):=Bq.next HK.out hk (VG HS.out (by omega) hx)
     go_wp2;exact⟨⟨b/2,r+b,rfl,rfl,HN⟩,by simp[intOf];omega⟩
    .have HN:Hid (Bq n r (b/2)):=Bq.next HK.out hk (EL HS.out hx)
     go_wp2;exact⟨⟨b/2,r,rfl,rfl,HN⟩,by simp[intOf];omega⟩
   .have HN:Hid (Bq n r (b/2)):=Bq.next HK.out hk (EL HS.out (anZ hle h1))
    go_wp2;exact⟨⟨b/2,r,rfl,rfl,HN⟩,by simp[intOf];omega⟩
  .have HS:Hid (Bp n r 1):=hS
   subst hb;clear hS HB;go_wp2;go_ret;exact⟨AJ (rt_eq (MF HS.out)).symm,rfl⟩
structure Pl where
 x:Int
 y:Int
 z:Int
 h:Int
 s:Int
def pM(n lo hi:Int):Int:=min (max n lo) hi
def inP(p:Pl):Pl:=⟨pM p.x (-10000000) 10000000,pM p.y (-10000000) 10000000,pM p.z (-10000000) 10000000,pM p.h 0 1000000,pM p.s 0 1000⟩
structure zj(p:Pl):Prop where
 x0 : -10000000<=p.x
 x1:p.x<=10000000
 y0 : -10000000<=p.y
 y1:p.y<=10000000
 z0 : -10000000<=p.z
 z1:p.z<=10000000
 h0:0<=p.h
 h1:p.h<=1000000
 s0:0<=p.s
 s1:p.s<=1000
def Br(a b:Pl):Bool:=a.x==b.x&&(a.y==b.y&&(a.z==b.z&&(a.h==b.h&&a.s==b.s)))
def nV(p:Pl):Int:=if Br p (inP p)=true then 0 else 3
theorem Xd(a b:Pl):Br a b=true↔a=b:=by
 obtain⟨a1,a2,a3,a4,a5⟩:=a;obtain⟨b1,b2,b3,b4,b5⟩:=b;simp[Br]
theorem wU{n lo hi:Int}(h:lo<=hi):n=pM n lo hi↔lo<=n/\n<=hi:=by unfold pM;omega
theorem zk(p:Pl):nV p=0↔zj p:=by
 obtain⟨x,y,z,h,s⟩:=p;have e:nV ⟨x,y,z,h,s⟩=0↔Br ⟨x,y,z,h,s⟩ (inP ⟨x,y,z,h,s⟩)=true:=by unfold nV;split<;>simp[*]
 rw[e,Xd];simp only[inP,Pl.mk.injEq];rw[wU (by omega),wU (by omega),wU (by omega),wU (by omega),wU (by omega)];exact⟨λ⟨⟨a,b⟩,⟨c,d⟩,⟨e,f⟩,⟨g,h⟩,⟨i,j⟩⟩=>⟨a,b,c,d,e,f,g,h,i,j⟩,λ⟨a,b,c,d,e,f,g,h,i,j⟩=>⟨⟨a,b⟩,⟨c,d⟩,⟨e,f⟩,⟨g,h⟩,⟨i,j⟩⟩⟩
theorem KZ(p:Pl):nV p=0\/nV p=3:=by unfold nV;split<;>simp
theorem Xe(n lo hi:Int)(w:World) :
 Calls AT 166 #[O J n,O J lo,O J hi] w λe w'=>e=Ia (O J (pM n lo hi))/\w'=w:=by
 go_enter func166,ntmps166;go_wp2;all_goals
  go_ret;exact⟨AJ (by unfold pM;omega),rfl⟩
theorem MN(x y z h s:Int)(w:World) :
 Calls AT 116 #[Iu #[O J x,O J y,O J z,O J h,O J s]] w λe w'=>e=Ia (Iu #[O J (pM x (-10000000) 10000000),O J (pM y (-10000000) 10000000),O J (pM z (-10000000) 10000000),O J (pM h 0 1000000),O J (pM s 0 1000)])/\Below w.heap.size w w':=by
 go_enter func116,ntmps116;go_wp2_with fail;go_region_held3 (λw'=>w'.cell? ⟨w.heap.size,0,U⟩=AI (O J x)/\w'.cell? ⟨w.heap.size,1,U⟩=AI (O J y)/\w'.cell? ⟨w.heap.size,2,U⟩=AI (O J z)/\w'.cell? ⟨w.heap.size,3,U⟩=AI (O J h)/\w'.cell? ⟨w.heap.size,4,U⟩=AI (O J s)) (go_keep) (first|(go_at_call 166;refine(Xe _ _ _ _).mono ?_;rintro e w' ⟨rfl,rfl⟩))
 go_wp2_with fail;exact bodyPost_ret (v:=Iu #[O J (pM x (-10000000) 10000000),O J (pM y (-10000000) 10000000),O J (pM z (-10000000) 10000000),O J (pM h 0 1000000),O J (pM s 0 1000)]) (by simp[results,results116,go_sem]) rfl ⟨rfl,(((If _ _).alloc (By _) _).alloc (by simp) _).drew⟩
theorem akl(a b:Pl)(w:World):(Op.equalIn 10000 27 (Iu #[O J a.x,O J a.y,O J a.z,O J a.h,O J a.s]) (Iu #[O J b.x,O J b.y,O J b.z,O J b.h,O J b.s])).run AT w=.ok (Br a b) w:=by
 obtain⟨a1,a2,a3,a4,a5⟩:=a;obtain⟨b1,b2,b3,b4,b5⟩:=b;have u3:=Qo IH;have a3':=No;have z3:=JY;have hS:Tryz.prog.underlying 27=AI (.struct (Tryz.prog.fieldsOf 27)):=by kernel_rfl
 have hp:Tryz.prog.stoodInHeld 27=false:=by kernel_rfl
 rw[show(10000:Nat)=9999+1 from rfl,run_equalIn_agg w 9999 27 _ _ hS hp];simp only[Program.fieldsOf,underlying27];go_simp;unfold Br;by_cases h1:a1=b1<;>by_cases h2:a2=b2<;>by_cases h3:a3=b3<;>by_cases h4:a4=b4<;>by_cases h5:a5=b5<;>simp[h1,h2,h3,h4,h5]
theorem an0(a b:Pl)(w:World):Sem.run AT (binOp .neq 27 (Iu #[O J a.x,O J a.y,O J a.z,O J a.h,O J a.s]) (Iu #[O J b.x,O J b.y,O J b.z,O J b.h,O J b.s])) w=.ok (Ic (!Br a b)) w:=by
 rw[run_neq_struct,akl];rfl
theorem vq(p:Pl)(w:World) :
 Calls AT 64 #[Iu #[O J p.x,O J p.y,O J p.z,O J p.h,O J p.s]] w λe w'=>e=Ia (O J (nV p))/\Below w.heap.size w w':=by
 have Xf:=an0 p (inP p);have HC:∀q,Br p (inP p)=q->Hid (nV p=bif q then 0 else 3):=λq hq=>(show nV p=_ by unfold nV;cases q<;>simp[hq]);generalize Ho:Br p (inP p)=q at Xf;have HD:=HC q Ho;clear Ho HC;generalize nV p=cp at *;obtain⟨x,y,z,h,s⟩:=p;simp only[inP] at Xf;have hgP:Tryz.prog.eqGuardType Tryz.prog.depth 27=false:=by kernel_rfl
 generalize hW:w.alloc (Ib #[O J x,O J y,O J z,O J h,O J s] 27)=W at *;have HW:Hid (Below w.heap.size w W):=by rw[<- hW];exact(If _ _).alloc (By _) _
 have E0:∀d os,(Is (IG W d) os).cell? ⟨w.heap.size,0,U⟩=AI (O J x):=Im (by rw[<- hW];simp);have E1:∀d os,(Is (IG W d) os).cell? ⟨w.heap.size,1,U⟩=AI (O J y):=Im (by rw[<- hW];simp);have E2:∀d os,(Is (IG W d) os).cell? ⟨w.heap.size,2,U⟩=AI (O J z):=Im (by rw[<- hW];simp);have E3:∀d os,(Is (IG W d) os).cell? ⟨w.heap.size,3,U⟩=AI (O J h):=Im (by rw[<- hW];simp);have E4:∀d os,(Is (IG W d) os).cell? ⟨w.heap.size,4,U⟩=AI (O J s):=Im (by rw[<- hW];simp);have cN:∀d os,Calls AT 116 #[Iu #[O J x,O J y,O J z,O J h,O J s]] (Is (IG W d) os) λe DQ=>e=Ia (Iu #[O J (pM x (-10000000) 10000000),O J (pM y (-10000000) 10000000),O J (pM z (-10000000) 10000000),O J (pM h 0 1000000),O J (pM s 0 1000)])/\∃p:Q2,DQ=Is (IG W p.d) p.os:=λd os=>
  Calls.regrown_of ((MN _ _ _ _ _ _).mono (by rintro e w' ⟨rfl,hb⟩;exact⟨rfl,hb⟩))
 go_enter func64,ntmps64;go_wp2_with fail;cases q
 all_goals
  simp only[Bool.not_true,Bool.not_false] at Xf;refine IX (by kernel_rfl) (by kernel_rfl) ?_;repeat(quiet_step (exact cN _ _))
  refine oK λdq yx tB=>?_;clear cN E0 E1 E2 E3 E4;go_wp2_with fail;go_ret;exact⟨AJ (by rw[HD.out];simp),HW.out.trans (tB.out.mono HW.out.size)⟩
end Go.Proofs.YtipbebleapjcjaaGreatDoor
namespace Go.Proofs.YtipbebleapjcjaaGreatDoor
namespace Sv
open Go.RowKit
structure nj where
 node:ByteArray
 oI:ByteArray
 name:ByteArray
 tag:ByteArray
 addr:Int
 port:Int
 ny:Bool
 version:Int
 gone:Bool
def dm:nj:=⟨Ie,Ie,Ie,Ie,0,0,false,0,false⟩
def nj.ok(m:nj):Prop:=m.node.size<=Il/\m.oI.size<=Il/\m.name.size<=Il/\m.tag.size<=Il
theorem Ah:dm.ok:=by simp[nj.ok,dm]
abbrev As(w:World)(b o:Nat)(m:nj):Prop:=w.cell? ⟨b,o,U⟩=AI (I m.node)/\w.cell? ⟨b,o+1,U⟩=AI (I m.oI)/\w.cell? ⟨b,o+2,U⟩=AI (I m.name)/\w.cell? ⟨b,o+3,U⟩=AI (I m.tag)/\w.cell? ⟨b,o+4,U⟩=AI (O J m.addr)/\w.cell? ⟨b,o+5,U⟩=AI (O J m.port)/\w.cell? ⟨b,o+6,U⟩=AI (Ic m.ny)/\w.cell? ⟨b,o+7,U⟩=AI (O J m.version)/\w.cell? ⟨b,o+8,U⟩=AI (Ic m.gone)
theorem As.re{w:World}{b o:Nat}{m:nj}(h:As w b o m):∀d os,As (Is (IG w d) os) b o m:=λd os=>by
 obtain⟨c0,c1,c2,c3,c4,c5,c6,c7,c8⟩:=h;exact⟨Im c0 d os,Im c1 d os,Im c2 d os,Im c3 d os,Im c4 d os,Im c5 d os,Im c6 d os,Im c7 d os,Im c8 d os⟩
theorem As.eq{w w':World}{b o:Nat}{m:nj}(h:As w b o m)(e:∀o,w'.cell? ⟨b,o,U⟩=w.cell? ⟨b,o,U⟩):As w' b o m:=by
 obtain⟨c0,c1,c2,c3,c4,c5,c6,c7,c8⟩:=h;exact⟨(e _).trans c0,(e _).trans c1,(e _).trans c2,(e _).trans c3,(e _).trans c4,(e _).trans c5,(e _).trans c6,(e _).trans c7,(e _).trans c8⟩
def Row(w:World)(b off:Nat)(ms:List nj):Prop:=∀j,j<ms.length->As w b (off+j*9) (ms.getD j dm)
def Sl(w:World)(v:Value)(ms:List nj):Prop:=
 ∃(a:Option Addr) (cap:Nat),v=sh a ms.length cap/\(∀j,(ms.getD j dm).ok) /\
  (ms=[]\/∃b off,a=AI ⟨b,off,U⟩/\b<w.heap.size/\Row w b off ms)
def nj.cs(m:nj):List Value:=[I m.node,I m.oI,I m.name,I m.tag,O J m.addr,O J m.port,Ic m.ny,O J m.version,Ic m.gone]
def fl(ms:List nj):List Value:=ms.flatMap nj.cs
theorem oj(m:nj):m.cs.length=9:=rfl
theorem oq(m:nj)(r:List nj):fl (m::r)=m.cs++fl r:=by simp[fl]
theorem rV(a b:List nj):fl (a++b)=fl a++fl b:=by simp[fl]
theorem pD:∀ms:List nj,(fl ms).length=ms.length*9
 |[]=>rfl
 |m::r=>by rw[oq,Iq,pD r,oj,Je];omega
theorem pX(m:nj):∀v∈m.cs,v.oneCell'=true:=by
 intro v hv;simp[nj.cs] at hv;rcases hv with rfl|rfl|rfl|rfl|rfl|rfl|rfl|rfl|rfl<;>rfl
theorem tA(ms:List nj):∀v∈fl ms,v.oneCell'=true:=by
 intro v hv;obtain⟨m,_,h⟩:=O0.1 hv;exact pX m v h
theorem rz(ms:List nj)(j:Nat)(hj:j<ms.length)(t:Nat)(ht:t<9):(fl ms)[j*9+t]?=(ms.getD j dm).cs[t]?:=by
 induction ms generalizing j with
 |nil=>simp at hj
 |cons m r ih=>
  rw[oq];cases j with
  |zero=>rw[Js (by rw[oj];omega)];simp
  |succ j=>
   rw[JS (by rw[oj];omega),oj,show(j+1)*9+t-9=j*9+t by omega,ih j (by simpa using hj)];simp
abbrev Own(base:Nat)(w:World)(v:Value)(ms:List nj):Prop:=w.ownsRow base 93 9 v ms.length (fl ms)
theorem Own.sl{base:Nat}{w:World}{v:Value}{ms:List nj}(h:Own base w v ms)(hs:∀j,(ms.getD j dm).ok):Sl w v ms:=by
 rcases h.2 with⟨rfl,h0⟩|⟨g,c,cur,rfl,qa,hg,rF,qw,oH,nA⟩
 .exact⟨U,0,by rw[h0],hs,.inl (I5 h0)⟩
 .refine⟨_,c,rfl,hs,.inr ⟨g,0,rfl,(Ig.1 hg).1,λj hj=>?_⟩⟩
  have hc:∀t,t<9->w.cell? ⟨g,0+j*9+t,U⟩=(ms.getD j dm).cs[t]?:=λt ht=>by
   rw[fi hg,<- rz ms j hj t ht,<- nA,IQ (by omega)];simp
  exact⟨hc 0 (by omega),hc 1 (by omega),hc 2 (by omega),hc 3 (by omega),hc 4 (by omega),hc 5 (by omega),hc 6 (by omega),hc 7 (by omega),hc 8 (by omega)⟩
theorem Own.below{base:Nat}{w w':World}{v:Value}{ms:List nj}(h:Own base w v ms)(hb:Below w.heap.size w w'):Own base w' v ms:=by
 rcases h.2 with⟨rfl,h0⟩|⟨g,c,cur,rfl,qa,hg,rF,qw,oH,nA⟩
 .exact⟨h.1,.inl ⟨rfl,h0⟩⟩
 .have mS:=(Ig.1 hg).1
  exact⟨h.1,.inr ⟨g,c,cur,rfl,qa,(hb.block g mS).trans hg,rF,qw,oH,nA⟩⟩
theorem Own.lt{base:Nat}{w:World}{v:Value}{ms:List nj}(h:Own base w v ms)(k:Nat)(hk:v.ownBlock=AI k):base<=k/\k<w.heap.size:=I3 h k hk
theorem wV{base:Nat}{w:World}{v:Value}{ms:List nj}(h:Own base w v ms)(p:Nat)(hp:p<ms.length):∃g c,v=sh (AI ⟨g,0,U⟩) ms.length c:=by
 rcases h.2 with⟨_,h0⟩|⟨g,c,cur,h1,_⟩
 .omega
 .exact⟨g,c,h1⟩
theorem Sl.below{w w':World}{v:Value}{ms:List nj}(h:Sl w v ms)(hb:Below w.heap.size w w'):Sl w' v ms:=by
 obtain⟨a,cap,rfl,hs,h⟩:=h;refine⟨a,cap,rfl,hs,?_⟩;rcases h with h|⟨b,off,rfl,mS,hr⟩
 .exact .inl h
 .refine .inr ⟨b,off,rfl,Ix mS hb.size,λj hj=>?_⟩
  exact(hr j hj).eq (λo=>(pd hb).1 b o mS)
theorem Row.later{w w':World}{b off:Nat}{ms:List nj}(hr:Row w b off ms)(hb:Below w.heap.size w w')(mS:b<w.heap.size):Row w' b off ms:=λj hj=>(hr j hj).eq (λo=>(pd hb).1 b o mS)
theorem Own.mono{base base':Nat}{w:World}{v:Value}{ms:List nj}(h:Own base w v ms)(hb:base'<=base):Own base' w v ms:=by
 rcases h.2 with⟨rfl,h0⟩|⟨g,c,cur,rfl,qa,hg,rF,qw,oH,nA⟩
 .exact⟨h.1,.inl ⟨rfl,h0⟩⟩
 .exact⟨h.1,.inr ⟨g,c,cur,rfl,IB hb qa,hg,rF,qw,oH,nA⟩⟩
theorem nh(base:Nat)(w:World):Own base w (sh U 0 0) []:=Jz w base 93 9
theorem rA{ms:List nj}(h:∀j,(ms.getD j dm).ok):∀m∈ms,(m).ok:=by
 intro m hm;obtain⟨j,hj,rfl⟩:=I2 hm;have:=h j;simpa[Ip,Ih hj] using this
theorem oz{ms:List nj}(h:∀m∈ms,(m).ok):∀j,(ms.getD j dm).ok:=by
 intro j;by_cases hj:j<ms.length
 .have:=h ms[j] (IU hj)
  simpa[Ip,Ih hj] using this
 .rw[Ip,IK (Qk hj)];exact Ah
theorem o7{base:Nat}{w:World}{v:Value}{ms:List nj}(h:Own base w v ms)(hs:∀m∈ms,(m).ok):Sl w v ms:=h.sl (oz hs)
theorem qC{base:Nat}{w:World}{v:Value}{L:List nj}{m:nj}(h:w.ownsRow base 93 9 v (L.length+1) (fl L++m.cs)):Own base w v (L++[m]):=by
 have e:fl (L++[m])=fl L++m.cs:=by rw[rV,oq];simp[fl]
 show w.ownsRow base 93 9 v (L++[m]).length (fl (L++[m]));rw[e,Iq];exact h
end Sv
namespace Sv
open Go.RowKit
theorem Tryz.RN:(Tryz.prog.info? 93).map (λi=>(i.zero,i.size,i.bytes))=AI (AI (Iu #[I ⟨#[]⟩,I ⟨#[]⟩,I ⟨#[]⟩,I ⟨#[]⟩,O J 0,O J 0,Ic false,O J 0,Ic false]),9,104):=by kernel_rfl
end Sv
namespace Sv
open Go.RowKit
def ord:nj->nj->Int:=RL.lex (λa b=>oh a.node b.node) (λa b=>oh a.oI b.oI)
theorem keyed:RL.Keyed ord:=RL.Xb (RL.zi nj.node) (RL.zi nj.oI)
def akm:nj->nj->Int:=RL.lex (λa b=>a.version-b.version) (RL.lex (λa b=>RL.bI a.gone-RL.bI b.gone) (RL.lex (λa b=>oh a.name b.name) (RL.lex (λa b=>oh a.tag b.tag) (RL.lex (λa b=>a.addr-b.addr) (RL.lex (λa b=>a.port-b.port) (λa b=>RL.bI a.ny-RL.bI b.ny))))))
def tO(a b:nj):Bool:=decide (0<akm a b)
abbrev pj(ms:List nj):Prop:=RL.pj ord ms
abbrev nO(a b:List nj):List nj:=RL.join ord tO a b
abbrev np(ms:List nj):Bool:=RL.np ord ms
theorem rJ(ms:List nj)(h:∀j,j+1<ms.length->ord (ms.getD j dm) (ms.getD (j+1) dm)<0):np ms=true:=RL.sW ord dm ms h
theorem rK(ms:List nj)(h:np ms=true):∀j,j+1<ms.length->ord (ms.getD j dm) (ms.getD (j+1) dm)<0:=RL.sX ord dm ms h
def xI(t:ByteArray):Bool:=decide (t=Ie)||mT t
def nj.e(m:nj):Int:=
 if(mT m.node&&(mT m.oI&&(mT m.name&&xI m.tag)))=true then(if(within m.addr 0 4294967295&&(within m.port 0 65535&&within m.version 1 1000000))=true then 0 else 3) else 1
def nt:List nj->Int
 |[]=>0
 |m::r=>if m.e=0 then nt r else m.e
theorem ow:∀(ms:List nj),(∀j,j<ms.length->(ms.getD j dm).e=0)->nt ms=0
 |[],_=>rfl
 |m::r,h=>by
  have h0:=h 0 (by simp);simp only[Jf] at h0;rw[nt,if_pos h0];exact ow r λj hj=>by have:=h (j+1) (by simpa using hj);simpa using this
theorem pT:∀(ms:List nj) (k:Nat),k<ms.length->(∀j,j<k->(ms.getD j dm).e=0)->(ms.getD k dm).e≠0->nt ms=(ms.getD k dm).e
 |[],k,h,_,_=>by simp at h
 |m::r,0,_,_,nK=>by
  simp only[Jf] at nK ⊢;rw[nt,if_neg nK]
 |m::r,k+1,h,hz,nK=>by
  have h0:=hz 0 (by omega);simp only[Jf] at h0;rw[nt,if_pos h0,JC];rw[JC] at nK;exact pT r k (by simpa using h) (λj hj=>by have:=hz (j+1) (by omega);simpa using this) nK
theorem pY:∀(ms:List nj),nt ms=0->∀m∈ms,m.e=0
 |[],_,m,hm=>by simp at hm
 |x::r,h,m,hm=>by
  rw[nt] at h;split at h
  .rename_i hx
   rcases Jx.1 hm with rfl|hm
   .exact hx
   .exact pY r h m hm
  .rename_i hx;exact absurd h hx
def nu(ms:List nj):Int:=if 40<ms.length then 2 else if nt ms=0 then(if np ms=true then 0 else 4) else nt ms
theorem Bs(ms:List nj)(k:Nat)(hn:ms.length<=40)(hk:k<ms.length)(hz:∀j,j<k->(ms.getD j dm).e=0)(nK:(ms.getD k dm).e≠0):nu ms=(ms.getD k dm).e:=by
 have h:=pT ms k hk hz nK;rw[nu,if_neg (by omega),h,if_neg nK]
theorem xX(ms:List nj)(hn:ms.length<=40)(hz:∀j,j<ms.length->(ms.getD j dm).e=0):nu ms=if np ms=true then 0 else 4:=by
 rw[nu,if_neg (by omega),ow ms hz,if_pos rfl]
theorem EM(ms:List nj)(k:Nat)(hn:ms.length<=40)(hz:∀j,j<ms.length->(ms.getD j dm).e=0)(hk:k+1<ms.length)(hl:¬ ord (ms.getD k dm) (ms.getD (k+1) dm)<0):nu ms=4:=by
 rw[xX ms hn hz,if_neg];intro h;exact hl (rK ms h k hk)
theorem EN(ms:List nj)(hn:ms.length<=40)(hz:∀j,j<ms.length->(ms.getD j dm).e=0)(hl:∀j,j+1<ms.length->ord (ms.getD j dm) (ms.getD (j+1) dm)<0):nu ms=0:=by
 rw[xX ms hn hz,if_pos (rJ ms hl)]
theorem mU{ms:List nj}(h:nu ms=0):ms.length<=40/\pj ms/\nt ms=0:=by
 unfold nu at h;split at h
 .omega
 .split at h
  .rename_i h1 h2
   split at h
   .rename_i h3
    exact⟨by omega,RL.xG ord keyed ms h3,h2⟩
   .omega
  .rename_i h1 h2;exact absurd h h2
def nW(a b:List nj):Int:=if nu a=0 then nu b else nu a
def nP(a b:List nj):Int:=if nW a b=0 then(if 40<(nO a b).length then 2 else 0) else nW a b
abbrev rL(a b:nj):Int:=ord a b
end Sv
namespace Gw
open Go.RowKit
structure pU where
 mM:ByteArray
 addr:Int
 version:Int
def dm:pU:=⟨Ie,0,0⟩
def pU.ok(m:pU):Prop:=m.mM.size<=Il
theorem Ah:dm.ok:=by simp[pU.ok,dm]
abbrev As(w:World)(b o:Nat)(m:pU):Prop:=w.cell? ⟨b,o,U⟩=AI (I m.mM)/\w.cell? ⟨b,o+1,U⟩=AI (O J m.addr)/\w.cell? ⟨b,o+2,U⟩=AI (O J m.version)
theorem As.re{w:World}{b o:Nat}{m:pU}(h:As w b o m):∀d os,As (Is (IG w d) os) b o m:=λd os=>by
 obtain⟨c0,c1,c2⟩:=h;exact⟨Im c0 d os,Im c1 d os,Im c2 d os⟩
theorem As.eq{w w':World}{b o:Nat}{m:pU}(h:As w b o m)(e:∀o,w'.cell? ⟨b,o,U⟩=w.cell? ⟨b,o,U⟩):As w' b o m:=by
 obtain⟨c0,c1,c2⟩:=h;exact⟨(e _).trans c0,(e _).trans c1,(e _).trans c2⟩
def Row(w:World)(b off:Nat)(ms:List pU):Prop:=∀j,j<ms.length->As w b (off+j*3) (ms.getD j dm)
def Sl(w:World)(v:Value)(ms:List pU):Prop:=
 ∃(a:Option Addr) (cap:Nat),v=sh a ms.length cap/\(∀j,(ms.getD j dm).ok) /\
  (ms=[]\/∃b off,a=AI ⟨b,off,U⟩/\b<w.heap.size/\Row w b off ms)
def pU.cs(m:pU):List Value:=[I m.mM,O J m.addr,O J m.version]
def fl(ms:List pU):List Value:=ms.flatMap pU.cs
theorem oj(m:pU):m.cs.length=3:=rfl
theorem oq(m:pU)(r:List pU):fl (m::r)=m.cs++fl r:=by simp[fl]
theorem pD:∀ms:List pU,(fl ms).length=ms.length*3
 |[]=>rfl
 |m::r=>by rw[oq,Iq,pD r,oj,Je];omega
theorem pX(m:pU):∀v∈m.cs,v.oneCell'=true:=by
 intro v hv;simp[pU.cs] at hv;rcases hv with rfl|rfl|rfl<;>rfl
theorem tA(ms:List pU):∀v∈fl ms,v.oneCell'=true:=by
 intro v hv;obtain⟨m,_,h⟩:=O0.1 hv;exact pX m v h
theorem rz(ms:List pU)(j:Nat)(hj:j<ms.length)(t:Nat)(ht:t<3):(fl ms)[j*3+t]?=(ms.getD j dm).cs[t]?:=by
 induction ms generalizing j with
 |nil=>simp at hj
 |cons m r ih=>
  rw[oq];cases j with
  |zero=>rw[Js (by rw[oj];omega)];simp
  |succ j=>
   rw[JS (by rw[oj];omega),oj,show(j+1)*3+t-3=j*3+t by omega,ih j (by simpa using hj)];simp
abbrev Own(base:Nat)(w:World)(v:Value)(ms:List pU):Prop:=w.ownsRow base 72 3 v ms.length (fl ms)
theorem Own.sl{base:Nat}{w:World}{v:Value}{ms:List pU}(h:Own base w v ms)(hs:∀j,(ms.getD j dm).ok):Sl w v ms:=by
 rcases h.2 with⟨rfl,h0⟩|⟨g,c,cur,rfl,qa,hg,rF,qw,oH,nA⟩
 .exact⟨U,0,by rw[h0],hs,.inl (I5 h0)⟩
 .refine⟨_,c,rfl,hs,.inr ⟨g,0,rfl,(Ig.1 hg).1,λj hj=>?_⟩⟩
  have hc:∀t,t<3->w.cell? ⟨g,0+j*3+t,U⟩=(ms.getD j dm).cs[t]?:=λt ht=>by
   rw[fi hg,<- rz ms j hj t ht,<- nA,IQ (by omega)];simp
  exact⟨hc 0 (by omega),hc 1 (by omega),hc 2 (by omega)⟩
theorem Own.below{base:Nat}{w w':World}{v:Value}{ms:List pU}(h:Own base w v ms)(hb:Below w.heap.size w w'):Own base w' v ms:=by
 rcases h.2 with⟨rfl,h0⟩|⟨g,c,cur,rfl,qa,hg,rF,qw,oH,nA⟩
 .exact⟨h.1,.inl ⟨rfl,h0⟩⟩
 .have mS:=(Ig.1 hg).1
  exact⟨h.1,.inr ⟨g,c,cur,rfl,qa,(hb.block g mS).trans hg,rF,qw,oH,nA⟩⟩
theorem Own.lt{base:Nat}{w:World}{v:Value}{ms:List pU}(h:Own base w v ms)(k:Nat)(hk:v.ownBlock=AI k):base<=k/\k<w.heap.size:=I3 h k hk
theorem Sl.below{w w':World}{v:Value}{ms:List pU}(h:Sl w v ms)(hb:Below w.heap.size w w'):Sl w' v ms:=by
 obtain⟨a,cap,rfl,hs,h⟩:=h;refine⟨a,cap,rfl,hs,?_⟩;rcases h with h|⟨b,off,rfl,mS,hr⟩
 .exact .inl h
 .refine .inr ⟨b,off,rfl,Ix mS hb.size,λj hj=>?_⟩
  exact(hr j hj).eq (λo=>(pd hb).1 b o mS)
theorem Row.later{w w':World}{b off:Nat}{ms:List pU}(hr:Row w b off ms)(hb:Below w.heap.size w w')(mS:b<w.heap.size):Row w' b off ms:=λj hj=>(hr j hj).eq (λo=>(pd hb).1 b o mS)
theorem Own.mono{base base':Nat}{w:World}{v:Value}{ms:List pU}(h:Own base w v ms)(hb:base'<=base):Own base' w v ms:=by
 rcases h.2 with⟨rfl,h0⟩|⟨g,c,cur,rfl,qa,hg,rF,qw,oH,nA⟩
 .exact⟨h.1,.inl ⟨rfl,h0⟩⟩
 .exact⟨h.1,.inr ⟨g,c,cur,rfl,IB hb qa,hg,rF,qw,oH,nA⟩⟩
theorem nh(base:Nat)(w:World):Own base w (sh U 0 0) []:=Jz w base 72 3
theorem rA{ms:List pU}(h:∀j,(ms.getD j dm).ok):∀m∈ms,(m).ok:=by
 intro m hm;obtain⟨j,hj,rfl⟩:=I2 hm;have:=h j;simpa[Ip,Ih hj] using this
theorem oz{ms:List pU}(h:∀m∈ms,(m).ok):∀j,(ms.getD j dm).ok:=by
 intro j;by_cases hj:j<ms.length
 .have:=h ms[j] (IU hj)
  simpa[Ip,Ih hj] using this
 .rw[Ip,IK (Qk hj)];exact Ah
abbrev DS(m:pU):Value:=Iu #[I m.mM,O J m.addr,O J m.version]
theorem akn(w:World)(m:pU):∃W,W=w.alloc (Ib #[I m.mM,O J m.addr,O J m.version] 72)/\Below w.heap.size w W/\W.heap.size=w.heap.size+1/\As W w.heap.size 0 m:=by
 obtain⟨W,h1,h2,h3,h4⟩:=pL w #[I m.mM,O J m.addr,O J m.version] 72;exact⟨W,h1,h2,h3,fi h4 0,fi h4 1,fi h4 2⟩
end Gw
namespace Gw
open Go.RowKit
theorem Tryz.ako:(Tryz.prog.info? 72).map (λi=>(i.zero,i.size,i.bytes))=AI (AI (Iu #[I ⟨#[]⟩,O J 0,O J 0]),3,32):=by kernel_rfl
end Gw
namespace Gw
open Go.RowKit
def ord(a b:pU):Int:=oh a.mM b.mM
theorem keyed:RL.Keyed ord:=RL.zi pU.mM
def akm:pU->pU->Int:=RL.lex (λa b=>a.version-b.version) (λa b=>a.addr-b.addr)
def tO(a b:pU):Bool:=decide (0<akm a b)
abbrev pj(ms:List pU):Prop:=RL.pj ord ms
abbrev nO(a b:List pU):List pU:=RL.join ord tO a b
abbrev At(ms:List pU)(t:pU)(p:Nat)(f:Bool):Prop:=RL.At ord dm ms t p f
abbrev np(ms:List pU):Bool:=RL.np ord ms
theorem ve{ms:List pU}(h:pj ms)(t:pU):∀i j,i<=j->j<ms.length->ord (ms.getD j dm) t<0->ord (ms.getD i dm) t<0:=RL.ve ord dm keyed h t
theorem rJ(ms:List pU)(h:∀j,j+1<ms.length->ord (ms.getD j dm) (ms.getD (j+1) dm)<0):np ms=true:=RL.sW ord dm ms h
theorem rK(ms:List pU)(h:np ms=true):∀j,j+1<ms.length->ord (ms.getD j dm) (ms.getD (j+1) dm)<0:=RL.sX ord dm ms h
theorem KX(ms:List pU)(hr:pj ms)(t:pU):∃p f,At ms t p f:=RL.KX ord dm keyed ms hr t
theorem vY{ms:List pU}{t:pU}{p q:Nat}{f e:Bool}(h:At ms t p f)(k:At ms t q e):p=q/\f=e:=RL.vY ord dm h k
def pU.e(m:pU):Int:=if mT m.mM=true then(if within m.addr 0 4294967295=true then(if within m.version 1 1000000=true then 0 else 3) else 3) else 1
def nt:List pU->Int
 |[]=>0
 |m::r=>if m.e=0 then nt r else m.e
theorem ow:∀(ms:List pU),(∀j,j<ms.length->(ms.getD j dm).e=0)->nt ms=0
 |[],_=>rfl
 |m::r,h=>by
  have h0:=h 0 (by simp);simp only[Jf] at h0;rw[nt,if_pos h0];exact ow r λj hj=>by have:=h (j+1) (by simpa using hj);simpa using this
theorem pT:∀(ms:List pU) (k:Nat),k<ms.length->(∀j,j<k->(ms.getD j dm).e=0)->(ms.getD k dm).e≠0->nt ms=(ms.getD k dm).e
 |[],k,h,_,_=>by simp at h
 |m::r,0,_,_,nK=>by
  simp only[Jf] at nK ⊢;rw[nt,if_neg nK]
 |m::r,k+1,h,hz,nK=>by
  have h0:=hz 0 (by omega);simp only[Jf] at h0;rw[nt,if_pos h0,JC];rw[JC] at nK;exact pT r k (by simpa using h) (λj hj=>by have:=hz (j+1) (by omega);simpa using this) nK
def nu(ms:List pU):Int:=if 6<ms.length then 2 else if nt ms=0 then(if np ms=true then 0 else 4) else nt ms
theorem Bs(ms:List pU)(k:Nat)(hn:ms.length<=6)(hk:k<ms.length)(hz:∀j,j<k->(ms.getD j dm).e=0)(nK:(ms.getD k dm).e≠0):nu ms=(ms.getD k dm).e:=by
 have h:=pT ms k hk hz nK;rw[nu,if_neg (by omega),h,if_neg nK]
theorem xX(ms:List pU)(hn:ms.length<=6)(hz:∀j,j<ms.length->(ms.getD j dm).e=0):nu ms=if np ms=true then 0 else 4:=by
 rw[nu,if_neg (by omega),ow ms hz,if_pos rfl]
theorem EM(ms:List pU)(k:Nat)(hn:ms.length<=6)(hz:∀j,j<ms.length->(ms.getD j dm).e=0)(hk:k+1<ms.length)(hl:¬ ord (ms.getD k dm) (ms.getD (k+1) dm)<0):nu ms=4:=by
 rw[xX ms hn hz,if_neg];intro h;exact hl (rK ms h k hk)
theorem EN(ms:List pU)(hn:ms.length<=6)(hz:∀j,j<ms.length->(ms.getD j dm).e=0)(hl:∀j,j+1<ms.length->ord (ms.getD j dm) (ms.getD (j+1) dm)<0):nu ms=0:=by
 rw[xX ms hn hz,if_pos (rJ ms hl)]
theorem mU{ms:List pU}(h:nu ms=0):ms.length<=6/\pj ms/\nt ms=0:=by
 unfold nu at h;split at h
 .omega
 .split at h
  .rename_i h1 h2
   split at h
   .rename_i h3
    exact⟨by omega,RL.xG ord keyed ms h3,h2⟩
   .omega
  .rename_i h1 h2;exact absurd h h2
def nW(a b:List pU):Int:=if nu a=0 then nu b else nu a
def nP(a b:List pU):Int:=if nW a b=0 then(if 6<(nO a b).length then 2 else 0) else nW a b
abbrev rL(a b:pU):Int:=ord a b
abbrev ack(ms:List pU)(t:pU)(p:Nat)(f:Bool):Prop:=At ms t p f
end Gw
end Go.Proofs.YtipbebleapjcjaaGreatDoor
namespace Go.Proofs.YtipbebleapjcjaaGreatDoor
open Go.RowKit Go.WideMaps Go.Maps
abbrev kS(s:ByteArray):Lit:=.string s.data.toList
theorem vt(s:ByteArray):WideAt.IsKeyLit (kS s):=by simp[WideAt.IsKeyLit]
theorem Dg{a b:ByteArray}(h:a≠b):kS a≠kS b:=λe=>h (by
 have h2:a.data.toList=b.data.toList:=by injection e
 obtain⟨⟨a⟩⟩:=a;obtain⟨⟨b⟩⟩:=b;simp at h2;rw[h2])
def Dm(ns:List ByteArray):Nat->DataW Unit
 |0=>.map []
 |k+1=>(Dm ns k).put (kS (ns.getD k Ie)) (.lit (.int J k))
theorem Bt(ns:List ByteArray):∀k,Tidy (Dm ns k)
 |0=>tidy_empty
 |k+1=>(Bt ns k).put (vt _) _
theorem Cs(ns:List ByteArray)(s:ByteArray):∀k,OG (Dm ns k) (kS s)=true↔∃j,j<k/\ns.getD j Ie=s
 |0=>by simp[Dm,OG]
 |k+1=>by
  by_cases h:ns.getD k Ie=s
  .subst h
   rw[Dm,has_put_same (Bt ns k).isMap (vt _)];exact⟨λ_=>⟨k,by omega,rfl⟩,λ_=>rfl⟩
  .rw[Dm,has_put_other (Dg (Ne.symm h)),Cs ns s k]
   constructor
   .rintro⟨j,hj,e⟩;exact⟨j,by omega,e⟩
   .rintro⟨j,hj,e⟩
    by_cases K4:j=k
    .subst K4;exact absurd e h
    .exact⟨j,by omega,e⟩
theorem El(ns:List ByteArray)(k:Nat):Ol (Dm ns (k+1))=if OG (Dm ns k) (kS (ns.getD k Ie))=true then Ol (Dm ns k) else Ol (Dm ns k)+1:=by
 rw[Dm,size_put (Bt ns k)]
theorem AK(ns:List ByteArray):∀k,Ol (Dm ns k)<=k
 |0=>by simp[Dm,Ol]
 |k+1=>by
  have:=AK ns k;rw[El];split<;>omega
theorem AM(ns:List ByteArray):∀k,(∀i j,i<j->j<k->ns.getD i Ie≠ns.getD j Ie)->Ol (Dm ns k)=k
 |0,_=>by simp[Dm,Ol]
 |k+1,h=>by
  have h1:=AM ns k (λi j hi hj=>h i j hi (by omega));have h2:¬ OG (Dm ns k) (kS (ns.getD k Ie))=true:=by
   rw[Cs];rintro⟨j,hj,e⟩;exact h j k hj (by omega) e
  rw[El,if_neg h2,h1]
theorem AO(ns:List ByteArray):∀k,(∃i j,i<j/\j<k/\ns.getD i Ie=ns.getD j Ie)->Ol (Dm ns k)<k
 |0,⟨i,j,_,hj,_⟩=>by omega
 |k+1,⟨i,j,yp,hj,e⟩=>by
  rw[El];by_cases K4:j=k
  .subst K4
   rw[if_pos ((Cs ns _ j).2 ⟨i,yp,e⟩)];have:=AK ns j;omega
  .have:=AO ns k ⟨i,j,yp,by omega,e⟩
   split<;>omega
theorem acm(ns:List ByteArray)(s:ByteArray)(z:DataW Unit):∀k j,j<k->ns.getD j Ie=s->(∀i,j<i->i<k->ns.getD i Ie≠s)->(Dm ns k).atKey (kS s) z=.lit (.int J j)
 |0,j,hj,_,_=>by omega
 |k+1,j,hj,e,h=>by
  by_cases K4:j=k
  .subst K4
   subst e;rw[Dm,atKey_put_same (Bt ns j).isMap (vt _)]
  .rw[Dm,atKey_put_other (Dg (λx=>h k (by omega) (by omega) x.symm))]
   exact acm ns s z k j (by omega) e (λi hi hk=>h i hi (by omega))
end Go.Proofs.YtipbebleapjcjaaGreatDoor
namespace Go.Proofs.YtipbebleapjcjaaGreatDoor
open Go.RowKit
structure Mem where
 name:ByteArray
 state:Int
 nJ:Int
 addr:Int
 server:Bool
def dm:Mem:=⟨Ie,0,0,0,false⟩
abbrev As(w:World)(b o:Nat)(m:Mem):Prop:=w.cell? ⟨b,o,U⟩=AI (I m.name)/\w.cell? ⟨b,o+1,U⟩=AI (O J m.state)/\w.cell? ⟨b,o+2,U⟩=AI (O J m.nJ)/\w.cell? ⟨b,o+3,U⟩=AI (O J m.addr)/\w.cell? ⟨b,o+4,U⟩=AI (Ic m.server)
theorem As.re{w:World}{b o:Nat}{m:Mem}(h:As w b o m):∀d os,As (Is (IG w d) os) b o m:=λd os=>by
 obtain⟨c0,c1,c2,c3,c4⟩:=h;exact⟨Im c0 d os,Im c1 d os,Im c2 d os,Im c3 d os,Im c4 d os⟩
theorem As.eq{w w':World}{b o:Nat}{m:Mem}(h:As w b o m)(e:∀o,w'.cell? ⟨b,o,U⟩=w.cell? ⟨b,o,U⟩):As w' b o m:=by
 obtain⟨c0,c1,c2,c3,c4⟩:=h;exact⟨(e _).trans c0,(e _).trans c1,(e _).trans c2,(e _).trans c3,(e _).trans c4⟩
def Row(w:World)(b off:Nat)(ms:List Mem):Prop:=∀j,j<ms.length->As w b (off+j*5) (ms.getD j dm)
def Sl(w:World)(v:Value)(ms:List Mem):Prop:=
 ∃(a:Option Addr) (cap:Nat),v=sh a ms.length cap/\(∀j,(ms.getD j dm).name.size<=Il) /\
  (ms=[]\/∃b off,a=AI ⟨b,off,U⟩/\b<w.heap.size/\Row w b off ms)
def Mem.cs(m:Mem):List Value:=[I m.name,O J m.state,O J m.nJ,O J m.addr,Ic m.server]
def fl(ms:List Mem):List Value:=ms.flatMap Mem.cs
theorem oj(m:Mem):m.cs.length=5:=rfl
theorem oq(m:Mem)(r:List Mem):fl (m::r)=m.cs++fl r:=by simp[fl]
theorem rV(a b:List Mem):fl (a++b)=fl a++fl b:=by simp[fl]
theorem pD:∀ms:List Mem,(fl ms).length=ms.length*5
 |[]=>rfl
 |m::r=>by rw[oq,Iq,pD r,oj,Je];omega
theorem VK:∀(ms:List Mem) (i:Nat),(fl ms).take (i*5)=fl (ms.take i)
 |[],i=>by simp[fl]
 |m::r,0=>by simp[fl]
 |m::r,i+1=>by
  rw[oq,Ud,oq,show(i+1)*5=m.cs.length+i*5 by rw[oj];omega,List.take_length_add_append,VK r i]
theorem VL:∀(ms:List Mem) (i:Nat),(fl ms).drop (i*5)=fl (ms.drop i)
 |[],i=>by simp[fl]
 |m::r,0=>by simp
 |m::r,i+1=>by
  rw[oq,List.drop_succ_cons,show(i+1)*5=m.cs.length+i*5 by rw[oj];omega,List.drop_length_add_append,VL r i]
theorem pX(m:Mem):∀v∈m.cs,v.oneCell'=true:=by
 intro v hv;simp[Mem.cs] at hv;rcases hv with rfl|rfl|rfl|rfl|rfl<;>rfl
theorem tA(ms:List Mem):∀v∈fl ms,v.oneCell'=true:=by
 intro v hv;obtain⟨m,_,h⟩:=O0.1 hv;exact pX m v h
theorem rz(ms:List Mem)(j:Nat)(hj:j<ms.length)(t:Nat)(ht:t<5):(fl ms)[j*5+t]?=(ms.getD j dm).cs[t]?:=by
 induction ms generalizing j with
 |nil=>simp at hj
 |cons m r ih=>
  rw[oq];cases j with
  |zero=>rw[Js (by rw[oj];omega)];simp
  |succ j=>
   rw[JS (by rw[oj];omega),oj,show(j+1)*5+t-5=j*5+t by omega,ih j (by simpa using hj)];simp
theorem akp(ms:List Mem)(p:Nat)(hp:p<ms.length)(m:Mem):((((((fl ms).set (p*5) (I m.name)).set (p*5+1) (O J m.state)).set (p*5+2) (O J m.nJ)).set (p*5+3) (O J m.addr)).set (p*5+4) (Ic m.server))=fl (ms.set p m):=by
 induction ms generalizing p with
 |nil=>simp at hp
 |cons x r ih=>
  cases p with
  |zero=>simp[fl,Mem.cs]
  |succ p=>
   have ih':=ih p (by simpa using hp);rw[List.set_cons_succ,oq,oq,<- ih'];simp only[Nat.add_mul,Nat.one_mul];have e:∀(l:List Value) (k:Nat) (v:Value),(x.cs++l).set (k+5) v=x.cs++l.set k v:=λl k v=>by
    rw[List.set_append,if_neg (by rw[oj];omega),oj,Nat.add_sub_cancel]
   have c:∀i:Nat,p*5+5+i=(p*5+i)+5:=λi=>by omega
   simp only[c];rw[e,e,e,e,e]
abbrev Own(base:Nat)(w:World)(v:Value)(ms:List Mem):Prop:=w.ownsRow base 55 5 v ms.length (fl ms)
theorem EO{base g G:Nat}{w:World}{cur:Array Value}{ms:List Mem}(hb:base<=g)(hg:w.heap[g]?=AI (Ib cur 55 (0,0)))(hs:cur.size=G*5)(hn:ms.length<=G)(hG:G<=Il)(ht:cur.toList.take (ms.length*5)=fl ms) :
 Own base w (sh (AI ⟨g,0,U⟩) ms.length G) ms:=⟨pD ms,.inr ⟨g,G,cur,rfl,hb,hg,hn,hG,hs,ht⟩⟩
theorem Own.sl{base:Nat}{w:World}{v:Value}{ms:List Mem}(h:Own base w v ms)(hs:∀j,(ms.getD j dm).name.size<=Il):Sl w v ms:=by
 rcases h.2 with⟨rfl,h0⟩|⟨g,c,cur,rfl,qa,hg,rF,qw,oH,nA⟩
 .exact⟨U,0,by rw[h0],hs,.inl (I5 h0)⟩
 .refine⟨_,c,rfl,hs,.inr ⟨g,0,rfl,(Ig.1 hg).1,λj hj=>?_⟩⟩
  have hc:∀t,t<5->w.cell? ⟨g,0+j*5+t,U⟩=(ms.getD j dm).cs[t]?:=λt ht=>by
   rw[fi hg,<- rz ms j hj t ht,<- nA,IQ (by omega)];simp
  exact⟨hc 0 (by omega),hc 1 (by omega),hc 2 (by omega),hc 3 (by omega),hc 4 (by omega)⟩
theorem Own.below{base:Nat}{w w':World}{v:Value}{ms:List Mem}(h:Own base w v ms)(hb:Below w.heap.size w w'):Own base w' v ms:=by
 rcases h.2 with⟨rfl,h0⟩|⟨g,c,cur,rfl,qa,hg,rF,qw,oH,nA⟩
 .exact⟨h.1,.inl ⟨rfl,h0⟩⟩
 .have mS:=(Ig.1 hg).1
  exact⟨h.1,.inr ⟨g,c,cur,rfl,qa,(hb.block g mS).trans hg,rF,qw,oH,nA⟩⟩
theorem Own.lt{base:Nat}{w:World}{v:Value}{ms:List Mem}(h:Own base w v ms)(k:Nat)(hk:v.ownBlock=AI k):base<=k/\k<w.heap.size:=I3 h k hk
theorem below_grown{base:Nat}{w w1 w2:World}{v:Value}{ms:List Mem}(hb:Below base w w1)(h:Own base w1 v ms)(hg:w1.grownBy w2 v.ownBlock)(hbase:base<=w1.heap.size):Below base w w2:=
 hb.grown hg hbase (λk hk=>(h.lt k hk).1)
theorem zl{base g c:Nat}{w:World}{ms:List Mem}(h:Own base w (sh (AI ⟨g,0,U⟩) ms.length c) ms)(j:Nat)(hj:j<ms.length) :
 As w g (j*5) (ms.getD j dm):=by
 rcases h.2 with⟨h1,_⟩|⟨g',c',cur,h1,qa,hg,rF,qw,oH,nA⟩
 .cases h1
 .simp only[IM,Jd,Addr.mk.injEq] at h1
  obtain⟨⟨rfl,_,_⟩,_,_⟩:=h1;have hc:∀t,t<5->w.cell? ⟨g,j*5+t,U⟩=(ms.getD j dm).cs[t]?:=λt ht=>by
   rw[fi hg,<- rz ms j hj t ht,<- nA,IQ (by omega)];simp
  exact⟨hc 0 (by omega),hc 1 (by omega),hc 2 (by omega),hc 3 (by omega),hc 4 (by omega)⟩
theorem wV{base:Nat}{w:World}{v:Value}{ms:List Mem}(h:Own base w v ms)(p:Nat)(hp:p<ms.length):∃g c,v=sh (AI ⟨g,0,U⟩) ms.length c:=by
 rcases h.2 with⟨_,h0⟩|⟨g,c,cur,h1,_⟩
 .omega
 .exact⟨g,c,h1⟩
theorem agv{base g c p:Nat}{W:World}{ms:List Mem}(h:Own base W (sh (AI ⟨g,0,U⟩) ms.length c) ms)(hp:p<ms.length)(m:Mem) :
 Own base (((((W.setCell ⟨g,p*5,U⟩ (I m.name)).setCell ⟨g,p*5+1,U⟩ (O J m.state)).setCell ⟨g,p*5+2,U⟩ (O J m.nJ)).setCell ⟨g,p*5+3,U⟩ (O J m.addr)).setCell ⟨g,p*5+4,U⟩ (Ic m.server)) (sh (AI ⟨g,0,U⟩) ms.length c) (ms.set p m):=by
 have h1:=M2 h (p*5) (I m.name);have h2:=M2 h1.1 (p*5+1) (O J m.state);have h3:=M2 h2.1 (p*5+2) (O J m.nJ);have h4:=M2 h3.1 (p*5+3) (O J m.addr);have h5:=M2 h4.1 (p*5+4) (Ic m.server);have e:=h5.1;rw[akp ms p hp m] at e;show Oy _ _ _ _ _ (ms.set p m).length _;rw[List.length_set];exact e
theorem Sl.below{w w':World}{v:Value}{ms:List Mem}(h:Sl w v ms)(hb:Below w.heap.size w w'):Sl w' v ms:=by
 obtain⟨a,cap,rfl,hs,h⟩:=h;refine⟨a,cap,rfl,hs,?_⟩;rcases h with h|⟨b,off,rfl,mS,hr⟩
 .exact .inl h
 .refine .inr ⟨b,off,rfl,Ix mS hb.size,λj hj=>?_⟩
  exact(hr j hj).eq (λo=>(pd hb).1 b o mS)
theorem Row.later{w w':World}{b off:Nat}{ms:List Mem}(hr:Row w b off ms)(hb:Below w.heap.size w w')(mS:b<w.heap.size):Row w' b off ms:=λj hj=>(hr j hj).eq (λo=>(pd hb).1 b o mS)
theorem Own.mono{base base':Nat}{w:World}{v:Value}{ms:List Mem}(h:Own base w v ms)(hb:base'<=base):Own base' w v ms:=by
 rcases h.2 with⟨rfl,h0⟩|⟨g,c,cur,rfl,qa,hg,rF,qw,oH,nA⟩
 .exact⟨h.1,.inl ⟨rfl,h0⟩⟩
 .exact⟨h.1,.inr ⟨g,c,cur,rfl,IB hb qa,hg,rF,qw,oH,nA⟩⟩
theorem nh(base:Nat)(w:World):Own base w (sh U 0 0) []:=Jz w base 55 5
theorem rA{ms:List Mem}(h:∀j,(ms.getD j dm).name.size<=Il):∀m∈ms,(m).name.size<=Il:=by
 intro m hm;obtain⟨j,hj,rfl⟩:=I2 hm;have:=h j;simpa[Ip,Ih hj] using this
theorem oz{ms:List Mem}(h:∀m∈ms,(m).name.size<=Il):∀j,(ms.getD j dm).name.size<=Il:=by
 intro j;by_cases hj:j<ms.length
 .have:=h ms[j] (IU hj)
  simpa[Ip,Ih hj] using this
 .simp[Ip,IK (Qk hj),dm]
theorem o7{base:Nat}{w:World}{v:Value}{ms:List Mem}(h:Own base w v ms)(hs:∀m∈ms,(m).name.size<=Il):Sl w v ms:=h.sl (oz hs)
theorem RO(w:World)(b cap:Nat)(m:Mem)(hm:(m).name.size<=Il)(hg:w.heap[b]?=AI (Ib #[I m.name,O J m.state,O J m.nJ,O J m.addr,Ic m.server] 55 (0,0))):Sl w (sh (AI ⟨b,0,U⟩) 1 cap) [m]:=by
 refine⟨_,cap,rfl,oz (λx hx=>by simp at hx;subst hx;exact hm),.inr ⟨b,0,rfl,(Ig.1 hg).1,λj hj=>?_⟩⟩
 have:j=0:=by simpa using hj
 subst this;exact⟨fi hg (0+0*5),fi hg (0+0*5+1),fi hg (0+0*5+2),fi hg (0+0*5+3),fi hg (0+0*5+4)⟩
abbrev DS(m:Mem):Value:=Iu #[I m.name,O J m.state,O J m.nJ,O J m.addr,Ic m.server]
theorem akn(w:World)(m:Mem):∃W,W=w.alloc (Ib #[I m.name,O J m.state,O J m.nJ,O J m.addr,Ic m.server] 55)/\Below w.heap.size w W/\W.heap.size=w.heap.size+1/\As W w.heap.size 0 m:=by
 obtain⟨W,h1,h2,h3,h4⟩:=pL w #[I m.name,O J m.state,O J m.nJ,O J m.addr,Ic m.server] 55;exact⟨W,h1,h2,h3,fi h4 0,fi h4 1,fi h4 2,fi h4 3,fi h4 4⟩
theorem Tryz.RP:(Tryz.prog.info? 55).map (λi=>(i.zero,i.size,i.bytes))=AI (AI (Iu #[I ⟨#[]⟩,O J 0,O J 0,O J 0,Ic false]),5,48):=by kernel_rfl
abbrev x_i:=Tryz.RP
abbrev x_u:=OW
abbrev atB:=IH
abbrev acg:=func267
abbrev RG:=ntmps267
abbrev x_S:Nat:=22
abbrev x_T:Nat:=55
theorem x_s:(Tryz.prog.info? 55).map (·.size)=AI 5:=by
 obtain⟨i,hi,h1,h2,h3⟩:=Jc x_i;rw[hi];simp[h2]
theorem sizeOf55(w:World):(Go.sizeOf 55).run AT w=.ok 5 w:=by
 obtain⟨i,hi,h1,h2,h3⟩:=Jc x_i;simp[Go.sizeOf,typeInfo,hi,h2]
theorem KY(w:World)(g vb o lb cb:Nat)(cur vs:Array Value)(hg:w.heap[g]?=AI (Ib cur 55 (0,0)))(hv:w.heap[vb]?=AI (Ib vs 55 (0,0)))(nK:vb≠g)(hk:cur.size≠0) : (Q6 289 #[sh (AI ⟨vb,0,U⟩) 1 1,sh (AI ⟨g,o,U⟩) lb cb]).run AT w=.ok (.value (Ic false)) w:=by
 rw[run_callFunc_extern func289 (by kernel_rfl) (by kernel_rfl) (by kernel_rfl) (e:=Extern.SlicesOverlaps.overlaps #[22,22] #[4]) (by kernel_rfl),
  Lib.run_overlaps_apart w 22 4 55 OW 5 sizeOf55 ⟨vb,0,U⟩ ⟨g,o,U⟩ 1 1 lb cb nK 55 55 vs.size cur.size (by simp[World.shape?,hv]) (by simp[World.shape?,hg]) hk (by simp[Ij,hv]) (by simp[Ij,hv])]
 rfl
theorem MO:VE 267 55 5:=agp
theorem MP:VF 267 55 5:=agq
theorem RQ:acf 267 55 5:=akh
theorem RU(base i vb:Nat)(v:Value)(ms:List Mem)(m:Mem)(w:World)(hown:Own base w v ms)(hi:i<=ms.length)(hn:ms.length<=1000)(hbase:base<=w.heap.size)(hv:w.heap[vb]?=AI (Ib m.cs.toArray 55 (0,0)))(nK:v.ownBlock≠AI vb) :
 ni 267 #[v,O J i,sh (AI ⟨vb,0,U⟩) 1 1] w λe w'=>∃v',e=Ia v'/\Own base w' v' (ms.take i++m::ms.drop i)/\w.grownBy w' v.ownBlock:=by
 refine(ago MO MP RQ hown (tA ms) hi hn hbase hv rfl (pX m) nK).mono ?_;rintro e w' ⟨v',rfl,h1,h2⟩;refine⟨v',rfl,?_,h2⟩;rw[VK,VL,Jh] at h1;show Oy _ _ _ _ _ _ _;rw[rV,oq,show(ms.take i++m::ms.drop i).length=ms.length+1 by simp;omega];exact h1
section
variable {E:Type} (fR fo:Nat)
abbrev EP(Row:World->Nat->Nat->List E->Prop)(rb:List E->Bool)(M:Nat):Prop:=∀(ms:List E) (b off cap:Nat) (w:World) (_:Row w b off ms) (_:b<w.heap.size) (_:ms.length<=M),
 rI fR #[sh (AI ⟨b,off,U⟩) ms.length cap,JD (.func fo) #[] #[]] w (Ic (rb ms))
abbrev zn:Prop:=∀(a:Option Addr) (cap:Nat) (fv:Value) (w:World),ni fR #[sh a 0 cap,fv] w λe w'=>e=Ia (Ic true)/\w'=w
abbrev Hp(Row:World->Nat->Nat->List E->Prop)(ord:E->E->Int)(dm:E)(ag:E->Value)(M:Nat):Prop:=∀(ms:List E) (b off cap:Nat) (lk:E) (w:World) (_:Row w b off ms) (_:b<w.heap.size) (_:ms.length<=M)
 (_:∀i j,i<=j->j<ms.length->ord (ms.getD j dm) lk<0->ord (ms.getD i dm) lk<0),
 ni fR #[sh (AI ⟨b,off,U⟩) ms.length cap,ag lk,JD (.func fo) #[] #[]] w λe w'=>∃(p:Nat) (f:Bool),e=Ia (Ir #[O J p,Ic f])/\Below w.heap.size w w' /\
  p<=ms.length/\(∀j,j<p->ord (ms.getD j dm) lk<0)/\(∀j,p<=j->j<ms.length->0<=ord (ms.getD j dm) lk)/\(f=true↔p<ms.length/\ord (ms.getD p dm) lk=0)
abbrev ER(ag:E->Value):Prop:=∀(a:Option Addr) (cap:Nat) (lk:E) (fv:Value) (w:World),rI fR #[sh a 0 cap,ag lk,fv] w (Ir #[O J 0,Ic false])
abbrev Hq(Sl:World->Value->List E->Prop)(At:List E->E->Nat->Bool->Prop)(ord:E->E->Int)(dm:E)(ag:E->Value)(M:Nat):Prop:=∀(ms:List E) (v:Value) (lk:E) (w:World) (_:Sl w v ms) (_:ms.length<=M)
 (_:∀i j,i<=j->j<ms.length->ord (ms.getD j dm) lk<0->ord (ms.getD i dm) lk<0),
 ni fR #[v,ag lk,JD (.func fo) #[] #[]] w λe w'=>∃(p:Nat) (f:Bool),e=Ia (Ir #[O J p,Ic f])/\Below w.heap.size w w'/\At ms lk p f
abbrev VM(Sl:World->Value->List E->Prop)(At:List E->E->Nat->Bool->Prop)(pj:List E->Prop)(ag:E->Value)(M:Nat):Prop:=∀(ms:List E) (v:Value) (lk:E) (w:World) (_:Sl w v ms) (_:ms.length<=M) (_:pj ms),
 ni fR #[v,ag lk,JD (.func fo) #[] #[]] w λe w'=>∃(p:Nat) (f:Bool),e=Ia (Ir #[O J p,Ic f])/\Below w.heap.size w w'/\At ms lk p f
end
theorem ES{P:Prop}(h:P:=by
 intro ms b off cap w hr hb hn;have HR:Hid (Row w b off ms):=hr;clear hr;have H4:Hid (∀k,k+1<ms.length->0<=rL (ms.getD k dm) (ms.getD (k+1) dm)->np ms=false):=λk hk hl=>by
  rcases h:np ms with _|_
  .rfl
  .exact absurd (rK ms h k hk) (Int.not_lt.2 hl)
 have H0:Hid ((∀j,j+1<ms.length->rL (ms.getD j dm) (ms.getD (j+1) dm)<0)->np ms=true):=rJ ms;generalize hN:ms.length=n at *;have HN:Hid (ms.length=n):=hN;clear hN;generalize np ms=res at *;go_enter MQ,ET;go_wp2_with fail;go_loopw [5] (λi w'=>∃k:Nat,(k+1<=n\/k=0)/\i=O J (k+1)/\Below w.heap.size w w'/\Hid (∀j,j<k->rL (ms.getD j dm) (ms.getD (j+1) dm)<0)) (λi _=>n-(intOf i).toNat)
 case atStart=>exact⟨0,.inr rfl,rfl,If _ _,λj h=>absurd h (IV _)⟩
 case round=>
  obtain⟨q,hq,rfl,nE,hz⟩:=hrel;obtain⟨rM,Ai⟩:=pd nE;have od:=nE.size;by_cases mS:q+1<n
  .have F:=((HR.out q (by rw[HN.out];omega)).eq (λo=>rM b o hb)).re
   have G:=((HR.out (q+1) (by rw[HN.out];exact mS)).eq (λo=>rM b o hb)).re;have HK:Hid _:=H4.out q mS;have HZ:Hid (rL (ms.getD q dm) (ms.getD (q+1) dm)<0->∀j,j<q+1->rL (ms.getD j dm) (ms.getD (j+1) dm)<0):=λh j hj=>by
    rcases IL.1 hj with h2|rfl
    .exact hz.out j h2
    .exact h
   generalize ms.getD q dm=m1 at *;generalize ms.getD (q+1) dm=m2 at *;have hN:=GA (wW m1 m2) wr;simp only[As] at F G;clear rM Ai;generalize rL m1 m2=r at *;have hwq:IntKind.i64.wrap (q:Int)=(q:Int):=by rw[IW];omega
   have hqn:q<n:=by omega
   have yf:(q:Int)+1<(n:Int):=by omega
   have hq0:(0:Int)<=(q:Int)+1:=by omega
   have htn:((q:Int)+1).toNat=q+1:=by omega
   go_wp2_with fail;refine IX (by kernel_rfl) (by kernel_rfl) ?_;repeat(quiet_step (exact hN _ _))
   refine oK λdq yx tB=>?_;clear hN F G;by_cases hl:r<0
   .have oR:¬ (0<=r):=by omega
    go_wp2_with fail;go_roundw
    case rel=>exact⟨q+1,.inl (by omega),by go_num,nE.trans (tB.out.mono od),HZ.out hl⟩
    case measure=>simp[intOf];omega
   .have oR:0<=r:=by omega
    have h4:Hid _:=HK.out oR;go_wp2_with fail;go_ret;exact⟨mW h4.out.symm,nE.trans (tB.out.mono od)⟩
  .have h0:Hid _:=H0.out λj hj=>hz.out j (by omega)
   go_wp2_with fail;go_ret;exact⟨mW h0.out.symm,nE⟩):P:=h
theorem zo{P:Prop}(h:P:=by
 intro a cap fv w;go_enter MQ,ET;go_wp2_with fail;go_loop [5] (λi=>i=O J 1) (λ_=>0)
 case atStart=>rfl
 case round=>
  subst hrel;go_wp2_with fail;go_ret;exact⟨rfl,rfl⟩):P:=h
theorem Hu{P:Prop}(h:P:=by
 intro ms b off cap lk w hr hb hn VN;have HR:Hid (Row w b off ms):=hr;clear hr;have HM:Hid _:=VN;clear VN;generalize hN:ms.length=n at *;have HN:Hid (ms.length=n):=hN;clear hN;simp only[DS];go_enter akq,acn;go_wp2_with fail;obtain⟨W0,rm,rG,Ct,hT⟩:=akn w lk;have HR0:Hid (Row W0 b off ms):=HR.out.later rG hb;have HT:Hid (As _ _ _ _):=hT;have pN:Hid (Below w.heap.size w W0):=rG;have HW0:Hid _:=rm;clear rG HR rm hT;have hb':b<w.heap.size+1:=by omega
 go_loopw [9,10] (λi j w'=>∃k l:Nat,k<=l/\l<=n/\i=O J k/\j=O J l/\Below (w.heap.size+1) W0 w'/\Hid (∀j,j<k->rL (ms.getD j dm) lk<0)/\Hid (∀j,l<=j->j<n->0<=rL (ms.getD j dm) lk)) (λi j _=>(intOf j).toNat-(intOf i).toNat)
 case atStart=>exact⟨0,n,Iw _,By _,rfl,rfl,by rw[HW0.out];exact If _ _,λj h=>absurd h (IV _),λj h1 h2=>by omega⟩
 case round=>
  obtain⟨k,l,EU,hln,rfl,rfl,nE,hlo,hhi⟩:=hrel;have od:=nE.size;have rM:∀b o,b<w.heap.size+1->wr.cell? ⟨b,o,U⟩=W0.cell? ⟨b,o,U⟩:=λb o h=>nE.cell (p:=⟨b,o,U⟩) h;have G:=(HT.out.eq (λo=>rM w.heap.size o (by omega))).re;simp only[As,I6] at G;by_cases mS:k<l
  .obtain⟨h,hh,h1,h2⟩:∃h:Nat,((k:Int)+(l:Int))/2=(h:Int)/\k<=h/\h<l:=⟨(k+l)/2,by omega,by omega,by omega⟩
   have F:=((HR0.out h (by rw[HN.out];omega)).eq (λo=>rM b o hb')).re;have Cu:=HM.out;have HK:Hid (rL (ms.getD h dm) lk<0->∀j,j<h+1->rL (ms.getD j dm) lk<0):=λhx j hj=>Cu j h (by omega) (by omega) hx;have HL:Hid (0<=rL (ms.getD h dm) lk->∀j,h<=j->j<n->0<=rL (ms.getD j dm) lk):=λhx j hj Xg=>by
    apply Int.not_lt.1;intro hq;have:=Cu h j hj Xg hq;omega
   clear Cu;have hhn:h<n:=by omega
   generalize ms.getD h dm=m at *;have hO:=GA (wW m lk) wr;simp only[As] at F;clear rM;generalize rL m lk=r at *;go_wp2_with fail;refine IX (by kernel_rfl) (by kernel_rfl) ?_;repeat(quiet_step (exact hO _ _))
   refine oK λdq yx tB=>?_;clear hO F G;by_cases RV:r<0
   .go_wp2_with fail
    exact⟨⟨h+1,l,by omega,by omega,by go_num,rfl,nE.trans (tB.out.mono (by omega)),HK.out RV,hhi⟩,by simp[intOf];omega⟩
   .have an2:0<=r:=by omega
    go_wp2_with fail;exact⟨⟨k,h,by omega,by omega,rfl,rfl,nE.trans (tB.out.mono (by omega)),hlo,HL.out an2⟩,by simp[intOf];omega⟩
  .have atE:l=k:=by omega
   subst atE;by_cases tp:l<n
   .have F:=((HR0.out l (by rw[HN.out];omega)).eq (λo=>rM b o hb')).re
    generalize hm:ms.getD l dm=m at *;have Hm:Hid _:=hm;clear hm;have hO:=GA (wW m lk) wr;simp only[As] at F;clear rM;generalize hrr:rL m lk=r at *;have Hr:Hid _:=hrr;clear hrr;go_wp2_with fail;refine IX (by kernel_rfl) (by kernel_rfl) ?_;repeat(quiet_step (exact hO _ _))
    refine oK λdq yx tB=>?_;clear hO F G;go_wp2_with fail;go_ret2;refine⟨l,_,rfl,pN.out.trans ((nE.trans (tB.out.mono (by omega))).mono (by omega)),by omega,hlo.out,hhi.out,?_⟩;rw[Hm.out,Hr.out];simp[tp]
   .clear G
    have hkd:decide ((l:Int)<(n:Int))=false:=by simp;omega
    go_wp2_with fail;go_quiet (fail)
    go_wp2_with fail;go_ret2;refine⟨l,_,rfl,pN.out.trans ((below_drewN nE _).mono (by omega)),by omega,hlo.out,hhi.out,?_⟩;simp[tp]):P:=h
theorem EV{P:Prop}(h:P:=by
 intro a cap lk fv w;simp only[DS];go_enter akq,acn;go_wp2_with fail;go_loop [9,10] (λi j=>i=O J 0/\j=O J 0) (λ_ _=>0)
 case atStart=>exact⟨rfl,rfl⟩
 case round=>
  obtain⟨rfl,rfl⟩:=hrel;go_wp2_with fail;go_quiet (fail)
  go_wp2_with fail;go_ret2;exact⟨rfl,below_drewN ((If _ _).alloc (By _) _) _⟩):P:=h
theorem EW{P:Prop}(h:P:=by
 intro ms v lk w h hn VN;obtain⟨a,cap,rfl,hs,h⟩:=h;rcases h with rfl|⟨b,off,rfl,hb,hr⟩
 .refine(Dh a cap lk _ w).mono ?_
  rintro e w' ⟨rfl,hb⟩;exact⟨0,false,rfl,hb,⟨by simp,λj h=>by omega,λj h h2=>by simp at h2,by simp⟩⟩
 .refine(EX ms b off cap lk w hr hb hn VN).mono ?_
  rintro e w' ⟨p,f,rfl,nE,g1,g2,g3,g4⟩;exact⟨p,f,rfl,nE,⟨g1,g2,g3,g4⟩⟩):P:=h
theorem VO{P:Prop}(h:P:=by
 intro ms v lk w h hn hr;have HC:Hid (∀w',Below w.heap.size w w'->Calls _ _ _ _ _):=λw' hb=>Di ms v lk w' (h.below hb) hn (ve hr _);clear h hn hr;simp only[DS] at HC ⊢;go_enter an3,aiO;go_wp2_with fail;refine(HC.out _ ((If _ _).alloc (By _) _)).mono ?_;rintro e w' ⟨p,f,rfl,nE,qi⟩;have vu:Hid _:=qi;clear qi;go_wp2_with fail;go_ret2;exact⟨p,f,rfl,((If _ _).alloc (By _) _).trans (nE.mono (by simp)),vu.out⟩):P:=h
abbrev acq{E:Type}(f fo fn:Nat)(Sl:World->Value->List E->Prop)(Own:Nat->World->Value->List E->Prop)(nO:List E->List E->List E)(pj:List E->Prop)(M:Nat):Prop:=∀(a b:List E) (va vb:Value) (pb cap:Nat) (w:World)
 (_:Sl w va a) (_:Sl w vb b) (_:pb<w.heap.size) (_:w.cell? ⟨pb,0,U⟩=AI va) (_:w.cell? ⟨pb,1,U⟩=AI vb) (_:a.length<=M) (_:b.length<=M) (_:pj a),
 ni f #[JD (.func fo) #[] #[],JD (.func fn) #[] #[],sh (AI ⟨pb,0,U⟩) 2 cap] w λe w'=>∃v',e=Ia v'/\Own w.heap.size w' v' (nO a b)/\Below w.heap.size w w'
theorem aks{P:Prop}(h:P:=by
 unfold GC;split
 .simp
 .split
  .omega
  .have:=zp b a;omega):P:=h
theorem akt{P:Prop}(h:P:=by
 obtain⟨pa,ca,rfl,nsa,ha⟩:=ha;obtain⟨pv,cb,rfl,nsb,hb⟩:=hb;have EY:k=0\/k=1:=by omega
 rcases EY with rfl|rfl
 .exact⟨a,pa,ca,Aj,ha,rA nsa,Hv,by simp[GC],by simp[GC],by simp[GC],(Xh a ra).symm⟩
 .exact⟨b,pv,cb,zq,hb,rA nsb,MR,Hv,ra,rA nsa,rfl⟩):P:=h
theorem aku{P:Prop}(h:P:=by
 have h1:=zp (l.take q) (GC a b k);have h2:(l.take q).length<=l.length:=List.length_take_le' _ _;have h3:=h.len;have h4:=h.atF;omega):P:=h
theorem acr{P:Prop}(h:P:=by
 intro a b va vb pb cap w ha hb K5 Aj zq Hv MR ra;have HK:Hid (∀k,k<2->∃l pk ck,Kth w pb a b k l pk ck):=λk hk=>akv ha hb Aj zq Hv MR ra k hk;have HL2:=agx Hv MR;clear ha hb Aj zq Hv MR ra;go_enter atG,an4;go_wp2_with fail;go_loopw [7,16] (λkn i w'=>∃k:Nat,k<=2/\i=O J k/\Below w.heap.size w w'/\Hid (Own w.heap.size w' kn (GC a b k))) (λ_ i _=>2-(intOf i).toNat)
 case atStart=>exact⟨0,by omega,rfl,If _ _,nh _ _⟩
 case round=>
  obtain⟨k,hk,rfl,nE,HO⟩:=hrel;obtain⟨rM,Ai⟩:=pd nE;have od:=nE.size;by_cases DT:k<2
  .obtain⟨l,pk,ck,agy⟩:=HK.out k DT
   have HKT:Hid (Kth w pb a b k l pk ck):=agy;have nG:=agy.cell;have axY:=agy.len;clear agy;generalize hnl:l.length=nl at *;have HNL:Hid (l.length=nl):=hnl;clear hnl;have aBD:(k:Int)<2:=by omega
   go_wp2_with fail;go_loopw [7,22] (λkn j w'=>∃q:Nat,q<=nl/\j=O J q/\Below w.heap.size w w'/\Hid (Own w.heap.size w' kn (nO (GC a b k) (l.take q)))) (λ_ j _=>nl-(intOf j).toNat)
   case atStart=>exact⟨0,Iw _,rfl,nE,HO⟩
   case round=>
    clear rM Ai od nE HO nG;obtain⟨q,hq,rfl,nE,HO⟩:=hrel;obtain⟨rM,Ai⟩:=pd nE;have od:=nE.size;by_cases mS:q<nl
    .obtain⟨b2,off,atH,hpl,pO⟩:∃b_1 off,pk=AI ⟨b_1,off,U⟩/\b_1<w.heap.size/\Row w b_1 off l:=by
      rcases HKT.out.row with h|h
      .have:=HNL.out;rw[h] at this;simp at this;omega
      .exact h
     subst atH;have c:=pO q (by rw[HNL.out];exact mS);simp only[As] at c;clear pO;have HJ:Hid (nO (GC a b k) (l.take (q+1))=nY (nO (GC a b k) (l.take q)) (l.getD q dm)):=RW (GC a b k) l q (by rw[HNL.out];exact mS);have HR:Hid (pj (nO (GC a b k) (l.take q))):=EZ _ _ HKT.out.an5;have HNs:=oz (VP (l.take q) _ HKT.out.atI (λx hx=>HKT.out.oks x (Jr hx)));have HNs:Hid _:=HNs;have an7:=agA HKT.out q;generalize l.getD q dm=m at *;generalize nO (GC a b k) (l.take q)=known at *;obtain⟨W1,uj,mO,sj,hT⟩:=akn wr m;have uH:Hid (Own w.heap.size W1 u7 known):=HO.out.below mO;have HF:Hid (Calls _ _ _ _ _):=Bu known u7 m W1 (uH.out.sl HNs.out) an7 HR.out;have mY:Hid (Below w.heap.size w W1):=nE.trans (mO.mono od);have HT:Hid (As _ _ _ _):=hT;have Hw:Hid _:=uj;have akx:w.heap.size<=W1.heap.size:=by omega
     clear hT mO HO HR uj;go_wp2_with fail;rw[<- Hw.out];refine HF.out.mono ?_;rintro e w2 ⟨p,f,rfl,mZ,qi⟩;have vu:Hid _:=qi;have aBF:=qi.le;have aky:=mZ.size;have sI:Hid (Own _ _ _ _):=uH.out.below mZ;have nR:Hid _:=mY.out.trans (mZ.mono akx);have RY:Hid (As w2 wr.heap.size 0 m):=HT.out.eq (λo=>mZ.cell (p:=⟨wr.heap.size,o,U⟩) (by show wr.heap.size<W1.heap.size;omega));have t:=RY.out;simp only[As,I6] at t;have AP:w.heap.size<=w2.heap.size:=by omega
     have atJ:wr.heap.size<w2.heap.size:=by omega
     clear qi HF rM Ai c mZ uH mY HT;cases f
     .have nK:Hid (u7.ownBlock≠AI w2.heap.size):=λe=>by have:=sI.out.lt _ e;omega
      have tQ:Hid (Own _ _ u7 known):=sI.out.below ((If _ _).alloc (By _) (Ib m.cs.toArray x_T));have hvb:Hid _:=Ii w2 (Ib m.cs.toArray x_T);go_wp2_with fail;refine(RU w.heap.size p w2.heap.size u7 known m _ tQ.out vu.out.le (by omega) (by simp;omega) hvb.out nK.out).mono ?_;rintro e w4 ⟨v',rfl,g1,g2⟩;go_wp2_with fail;go_roundw
      case rel=>
       have Sa:∃q_1:Nat,q_1<=nl/\Value.int J ((q:Int)+1)=O J q_1/\Below w.heap.size w w4/\Hid (Own w.heap.size w4 v' (nO (GC a b k) (l.take q_1))):=⟨q+1,by omega,by go_num,below_grown (nR.out.alloc AP _) tQ.out g2 (by simp;omega),by rw[HJ.out,yy known m p false vu.out];exact g1⟩;first|exact Sa|((repeat apply Exists.intro);exact⟨Sa,rfl⟩)
      case measure=>simp[intOf];omega
     .have hp:p<known.length:=(vu.out.is.1 rfl).1
      obtain⟨g,c,hu⟩:=wV sI.out p hp;subst hu;have F:=(zl sI.out p hp).re;have Ak:=sI.out.lt g rfl;have atK:g<w2.heap.size:=Ak.2;generalize hm:known.getD p dm=m2 at *;have Hm:Hid _:=hm;clear hm;have hN:=GA (Sb m m2) w2;have G:=RY.out.re;simp only[As,I6] at F G;have ux:∀o,w2.frozen? ⟨g,o,U⟩=false:=λo=>JE sI.out o;have HFZ:Hid _:=ux;clear ux t;generalize hnw:an8 m m2=nw at *;have Hnw:Hid _:=hnw;clear hnw;go_wp2_with fail;refine IX (by kernel_rfl) (by kernel_rfl) ?_;repeat(quiet_step (exact hN _ _))
      refine oK λdq yx tB=>?_;clear hN F G;cases nw
      .go_wp2_with fail
       go_roundw
       case rel=>
        have Sa:∃q_1:Nat,q_1<=nl/\Value.int J ((q:Int)+1)=O J q_1/\Below w.heap.size w (Is (IG w2 dq) yx)/\Hid (Own w.heap.size (Is (IG w2 dq) yx) (sh (AI ⟨g,0,U⟩) known.length c) (nO (GC a b k) (l.take q_1))):=⟨q+1,by omega,by go_num,nR.out.trans (tB.out.mono AP),by rw[HJ.out,yy known m p true vu.out,if_pos rfl,Hm.out,if_neg (λh=>Bool.false_ne_true (Hnw.out.symm.trans h))];exact sI.out.below tB.out⟩;first|exact Sa|((repeat apply Exists.intro);exact⟨Sa,rfl⟩)
       case measure=>simp[intOf];omega
      .generalize Is (IG w2 dq) yx=w3 at *
       have tQ:Hid (Own _ _ _ _):=sI.out.below tB.out;have cs:=zl tQ.out p hp;rw[Hm.out] at cs;have Cv:=(tQ.out.lt g rfl).2;have ux:∀o,w3.frozen? ⟨g,o,U⟩=false:=λo=>JE tQ.out o;have s:=RY.out.eq (λo=>tB.out.cell (p:=⟨wr.heap.size,o,U⟩) atJ);simp only[As,I6] at cs s;go_wp2_with fail;refine⟨⟨q+1,by omega,by go_num,?_,?_⟩,by simp[intOf];omega⟩
       .repeat(refine Below.setCell ?_ Ak.1 _)
        exact nR.out.trans (tB.out.mono AP)
       .rw[HJ.out,yy known m p true vu.out,if_pos rfl,Hm.out,if_pos Hnw.out]
        exact agv tQ.out hp m
    .have hqn:q=nl:=by omega
     subst hqn;have tQ:Hid (Own w.heap.size wr u7 (GC a b (k+1))):=by
      have h:=HO.out;rw[IJ (by rw[HNL.out];exact By _)] at h;rw[HKT.out.step];exact h
     go_wp2_with fail;go_roundw
     case rel=>exact⟨k+1,by omega,by go_num,nE,tQ⟩
     case measure=>simp[intOf];omega
  .have hk3:k=2:=by omega
   subst hk3;go_wp2_with fail;go_ret;exact⟨_,rfl,HO.out,nE⟩):P:=h
section
variable {E:Type} (f:Nat)
abbrev E5(Row:World->Nat->Nat->List E->Prop)(nu:List E->Int)(ok:E->Prop)(dm:E)(M:Nat):Prop:=∀(ms:List E) (b off cap:Nat) (w:World) (_:Row w b off ms) (_:b<w.heap.size) (_:ms.length<=M) (_:∀j,ok (ms.getD j dm)),
 rI f #[sh (AI ⟨b,off,U⟩) ms.length cap] w (O J (nu ms))
abbrev Cw(M:Nat):Prop:=∀(a:Option Addr) (n cap:Nat) (w:World) (_:M<n),ni f #[sh a n cap] w λe w'=>e=Ia (O J 2)/\w'=w
abbrev Cx:Prop:=∀(a:Option Addr) (cap:Nat) (w:World),ni f #[sh a 0 cap] w λe w'=>e=Ia (O J 0)/\w'=w
abbrev E6(Sl:World->Value->List E->Prop)(nu:List E->Int):Prop:=∀(ms:List E) (v:Value) (w:World) (_:Sl w v ms),rI f #[v] w (O J (nu ms))
abbrev E7(Sl:World->Value->List E->Prop)(nu:List E->List E->Int):Prop:=∀(a b:List E) (va vb:Value) (pb cap:Nat) (w:World) (_:Sl w va a) (_:Sl w vb b) (_:pb<w.heap.size) (_:w.cell? ⟨pb,0,U⟩=AI va) (_:w.cell? ⟨pb,1,U⟩=AI vb),
 rI f #[sh (AI ⟨pb,0,U⟩) 2 cap] w (O J (nu a b))
abbrev agB(Sl:World->Value->List E->Prop)(nu jE:List E->List E->Int):Prop:=∀(a b:List E) (va vb:Value) (pb cap:Nat) (w:World) (_:Sl w va a) (_:Sl w vb b) (_:pb<w.heap.size) (_:w.cell? ⟨pb,0,U⟩=AI va) (_:w.cell? ⟨pb,1,U⟩=AI vb) (_:nu a b≠0),
 rI f #[sh (AI ⟨pb,0,U⟩) 2 cap] w (Ir #[sh U 0 0,O J (jE a b)])
abbrev acu(Sl:World->Value->List E->Prop)(Own:Nat->World->Value->List E->Prop)(nu jE:List E->List E->Int)(jL:List E->List E->List E)(M:Nat):Prop:=∀(a b:List E) (va vb:Value) (pb cap:Nat) (w:World) (_:Sl w va a) (_:Sl w vb b) (_:pb<w.heap.size)
 (_:w.cell? ⟨pb,0,U⟩=AI va) (_:w.cell? ⟨pb,1,U⟩=AI vb) (_:nu a b=0),
 ni f #[sh (AI ⟨pb,0,U⟩) 2 cap] w λe w'=>∃v',e=Ia (Ir #[v',O J (jE a b)])/\Below w.heap.size w w'/\(M<(jL a b).length->v'=sh U 0 0)/\((jL a b).length<=M->Own w.heap.size w' v' (jL a b))
end
theorem acv{P:Prop}(h:P:=by
 intro ms b off cap w hr hb hn hs;have HR:Hid (Row w b off ms):=hr;have HE:Hid (∀k,k<ms.length->(∀j,j<k->(ms.getD j dm).e=0)->(ms.getD k dm).e≠0->nu ms=(ms.getD k dm).e):=λk h1 h2 h3=>Bs ms k hn h1 h2 h3;have H4:Hid ((∀j,j<ms.length->(ms.getD j dm).e=0)->nu ms=if np ms=true then 0 else 4):=λh1=>xX ms hn h1;have HSl:Hid (∀w',Below w.heap.size w w'->Calls _ _ _ _ _):=λw' Al=>Cy ms b off cap w' (hr.later Al hb) (Ix hb Al.size) hn;clear hr;generalize hN:ms.length=n at *;have HN:Hid _:=hN;clear hN;have HS:Hid _:=hs;clear hs;generalize hC:nu ms=res at *;have HC:Hid _:=hC;clear hC;generalize hRB:np ms=rb at *;have HRB:Hid _:=hRB;clear hRB;go_enter acw,MS;go_wp2_with fail;go_loopw [11] (λi w'=>∃k:Nat,k<=n/\i=O J k/\Below w.heap.size w w'/\Hid (∀j,j<k->(ms.getD j dm).e=0)) (λi _=>n-(intOf i).toNat)
 case atStart=>exact⟨0,Iw _,rfl,If _ _,λj h=>absurd h (IV _)⟩
 case round=>
  obtain⟨k,hk,rfl,nE,hz⟩:=hrel;obtain⟨rM,Ai⟩:=pd nE;have od:=nE.size;by_cases mS:k<n
  .have c:=HR.out k (by rw[HN.out];exact mS)
   simp only[As] at c;have HSK:Hid _:=HS.out k;have HK:Hid ((ms.getD k dm).e≠0->res=(ms.getD k dm).e):=λh=>HE.out k mS hz.out h;have HZ:Hid ((ms.getD k dm).e=0->∀j,j<k+1->(ms.getD j dm).e=0):=λh j hj=>by
    rcases IL.1 hj with h2|rfl
    .exact hz.out j h2
    .exact h
   generalize ms.getD k dm=m at *;have HO:Hid (∀w,Calls _ _ _ _ _):=λw=>wD m w HSK.out;generalize m.e=me at *;rcases he:decide (me=0) with _|_
   .have Am:(me !=0)=true:=by simpa using he
    clear he;go_wp2_with fail;refine(HO.out _).mono ?_;rintro e w' ⟨rfl,mZ⟩;go_wp2_with fail;go_ret;have nK:me≠0:=by simpa using Am
    have yg:=HK.out nK;exact⟨mN yg.symm,(nE.alloc od _).trans (mZ.mono (by simp;omega))⟩
   .have Am:(me !=0)=false:=by simpa using he
    clear he;go_wp2_with fail;refine(HO.out _).mono ?_;rintro e w' ⟨rfl,mZ⟩;go_wp2_with fail;go_roundw
    case rel=>
     have he0:me=0:=by simpa using Am
     exact⟨k+1,by omega,by go_num,(nE.alloc od _).trans (mZ.mono (by simp;omega)),HZ.out he0⟩
    case measure=>simp[intOf];omega
  .have qe:Hid (∀j,j<n->(ms.getD j dm).e=0):=λj hj=>hz.out j (by omega)
   have xJ:Hid _:=H4.out qe.out;clear hz qe H4 HE HC HRB;cases rb
   .go_wp2_with fail
    refine(HSl.out _ nE).mono ?_;rintro e w' ⟨rfl,mZ⟩;go_wp2_with fail;go_ret;exact⟨mN (by rw[xJ.out];rfl),nE.trans (mZ.mono od)⟩
   .go_wp2_with fail
    refine(HSl.out _ nE).mono ?_;rintro e w' ⟨rfl,mZ⟩;go_wp2_with fail;go_ret;exact⟨mN (by rw[xJ.out];rfl),nE.trans (mZ.mono od)⟩):P:=h
theorem Sd{P:Prop}(h:P:=by
 intro a n cap w hn;go_enter acw,MS;go_wp2_with fail;go_ret;exact⟨rfl,rfl⟩):P:=h
theorem Se{P:Prop}(h:P:=by
 intro a cap w;go_enter acw,MS;go_wp2_with fail;go_loop [11] (λi=>i=O J 0) (λ_=>0)
 case atStart=>rfl
 case round=>
  subst hrel;go_wp2_with fail;refine(vv _ _ _ _).mono ?_;rintro e w' ⟨rfl,rfl⟩;go_wp2_with fail;go_ret;exact⟨rfl,rfl⟩):P:=h
theorem Sf{P:Prop}(h:P:=by
 intro ms v w h;obtain⟨a,cap,rfl,hs,h⟩:=h;by_cases hn:x_M<ms.length
 .refine(vx a ms.length cap w hn).mono ?_
  rintro e w' ⟨rfl,rfl⟩;exact⟨mN (by rw[nu,if_pos hn]),If _ _⟩
 .rcases h with rfl|⟨b,off,rfl,hb,hr⟩
  .refine(vy a cap w).mono ?_
   rintro e w' ⟨rfl,rfl⟩;exact⟨rfl,If _ _⟩
  .exact wX ms b off cap w hr hb (Nat.le_of_not_lt hn) hs):P:=h
theorem Sg{P:Prop}(h:P:=by
 intro a b va vb pb cap w ha hb K5 Aj zq;have HA:Hid (Sl w va a):=ha;have HB:Hid (Sl w vb b):=hb;clear ha hb;go_enter akA,acx;go_wp2_with fail;go_loopw [8] (λi w'=>∃k:Nat,k<=2/\i=O J k/\Below w.heap.size w w'/\Hid (0<k->nu a=0)/\Hid (1<k->nu b=0)) (λi _=>2-(intOf i).toNat)
 case atStart=>exact⟨0,by omega,rfl,If _ _,λh=>by omega,λh=>by omega⟩
 case round=>
  obtain⟨k,hk,rfl,nE,oS,pC⟩:=hrel;obtain⟨rM,Ai⟩:=pd nE;have od:=nE.size;have HA':Hid (Sl wr va a):=HA.out.below nE;have HB':Hid (Sl wr vb b):=HB.out.below nE;have EY:k=0\/k=1\/k=2:=by omega
  rcases EY with rfl|rfl|rfl
  .rcases he:decide (nu a=0) with _|_
   .have Am:(nu a !=0)=true:=by simpa using he
    clear he;go_wp2_with fail;refine(nU a _ _ HA'.out).mono ?_;rintro e w' ⟨rfl,mZ⟩;go_wp2_with fail;go_ret;exact⟨mN (by have h0:nu a≠0:=(by simpa using Am);rw[nW,if_neg h0]),nE.trans (mZ.mono od)⟩
   .have Am:(nu a !=0)=false:=by simpa using he
    clear he;go_wp2_with fail;refine(nU a _ _ HA'.out).mono ?_;rintro e w' ⟨rfl,mZ⟩;go_wp2_with fail;go_roundw
    case rel=>exact⟨1,by omega,by go_num,nE.trans (mZ.mono od),λ_=>(by simpa using Am),λh=>by omega⟩
    case measure=>simp[intOf]
  .have h0:Hid _:=oS.out (by omega)
   rcases he:decide (nu b=0) with _|_
   .have Am:(nu b !=0)=true:=by simpa using he
    clear he;go_wp2_with fail;refine(nU b _ _ HB'.out).mono ?_;rintro e w' ⟨rfl,mZ⟩;go_wp2_with fail;go_ret;exact⟨mN (by rw[nW,if_pos h0.out]),nE.trans (mZ.mono od)⟩
   .have Am:(nu b !=0)=false:=by simpa using he
    clear he;go_wp2_with fail;refine(nU b _ _ HB'.out).mono ?_;rintro e w' ⟨rfl,mZ⟩;go_wp2_with fail;go_roundw
    case rel=>exact⟨2,by omega,by go_num,nE.trans (mZ.mono od),λ_=>h0.out,λ_=>(by simpa using Am)⟩
    case measure=>simp[intOf]
  .go_wp2_with fail
   go_ret;exact⟨mN (by rw[nW,if_pos (oS.out (by omega)),pC.out (by omega)]),nE⟩):P:=h
theorem akB{P:Prop}(h:P:=by
 intro a b va vb pb cap w ha hb K5 Aj zq nK;have he:(nW a b !=0)=true:=by simpa using nK
 have HE:Hid (nP a b=nW a b):=if_neg nK;have zW:=qY a b va vb pb cap w ha hb K5 Aj zq;have HC:Hid (Calls _ _ _ _ _):=zW;clear zW ha hb nK;go_enter aod,aiQ;go_wp2_with fail;refine HC.out.mono ?_;rintro e w' ⟨rfl,mZ⟩;go_wp2_with fail;go_ret2;exact⟨by rw[HE.out];rfl,mZ⟩):P:=h
theorem akC{P:Prop}(h:P:=by
 intro a b va vb pb cap w ha hb K5 Aj zq h0;have he:(nW a b !=0)=false:=by simpa using h0
 have hca:nu a=0:=by unfold nW at h0;split at h0<;>assumption
 have hcb:nu b=0:=by unfold nW at h0;rw[if_pos hca] at h0;exact h0
 have za:=mU hca;have zb:=mU hcb;have HE:Hid (nP a b=if x_M<(nO a b).length then 2 else 0):=if_pos h0;have HC:Hid (Calls _ _ _ _ _):=qY a b va vb pb cap w ha hb K5 Aj zq;have HJ:Hid (∀w1,Below w.heap.size w w1->Calls _ _ _ _ _):=λw1 mO=>
  Xi a b va vb pb cap w1 (ha.below mO) (hb.below mO) (Ix K5 mO.size) ((pd mO).1 pb 0 K5 |>.trans Aj) ((pd mO).1 pb 1 K5 |>.trans zq) za.1 zb.1 za.2.1
 have an7:=zp b a;have aBG:=za.1;have aBH:=zb.1;clear h0 hca hcb za zb ha hb Aj zq;generalize nO a b=jl at *;generalize hgn:jl.length=n at *;have HGN:Hid _:=hgn;clear hgn;go_enter aod,aiQ;go_wp2_with fail;refine HC.out.mono ?_;rintro e w1 ⟨rfl,mO⟩;go_wp2_with fail;refine(HJ.out w1 mO).mono ?_;rintro e w2 ⟨v',rfl,ho,mZ⟩;have VQ:∃p c,v'=sh p n c:=by
  have hn:=HGN.out;rcases ho.2 with⟨h,h0⟩|⟨g,c,cur,h,_⟩
  .exact⟨U,0,by rw[h];congr 1;omega⟩
  .exact⟨_,c,by rw[h,hn]⟩
 obtain⟨p,c,rfl⟩:=VQ;have HBx:Hid _:=mO.trans (mZ.mono mO.size);have tQ:Hid (Own _ _ _ _):=ho.mono mO.size;clear ho mO mZ HC HJ;by_cases mS:x_M<n;all_goals simp only[x_M] at mS
 .go_wp2_with fail
  go_ret2;refine⟨_,by rw[HE.out,if_pos mS];rfl,HBx.out,λ_=>rfl,λh=>by omega⟩
 .go_wp2_with fail
  go_ret2;refine⟨sh p n c,by rw[HE.out,if_neg mS];rfl,HBx.out,λh=>by omega,λ_=>tQ.out⟩):P:=h
def dp:Pl:=⟨0,0,0,0,0⟩
def Cz(w:World)(b off:Nat)(ps:List Pl):Prop:=∀k,k<ps.length ->
 w.cell? ⟨b,off+k*5,U⟩=AI (O J (ps.getD k dp).x)/\w.cell? ⟨b,off+k*5+1,U⟩=AI (O J (ps.getD k dp).y)/\w.cell? ⟨b,off+k*5+2,U⟩=AI (O J (ps.getD k dp).z)/\w.cell? ⟨b,off+k*5+3,U⟩=AI (O J (ps.getD k dp).h)/\w.cell? ⟨b,off+k*5+4,U⟩=AI (O J (ps.getD k dp).s)
theorem Cz.below{w w':World}{b off:Nat}{ps:List Pl}(h:Cz w b off ps)(hb:Below w.heap.size w w'):Cz w' b off ps:=λk hk=>by
 obtain⟨h0,h1,h2,h3,h4⟩:=h k hk;have mS:b<w.heap.size:=II w ⟨b,off+k*5,U⟩ h0;exact⟨by rw[hb.cell mS];exact h0,by rw[hb.cell mS];exact h1,by rw[hb.cell mS];exact h2,by rw[hb.cell mS];exact h3,by rw[hb.cell mS];exact h4⟩
def pR:List Pl->Int
 |[]=>0
 |p::r=>if nV p=0 then pR r else 3
theorem rN:∀(ps:List Pl),pR ps=0↔∀j,j<ps.length->nV (ps.getD j dp)=0
 |[]=>by simp[pR]
 |p::r=>by
  unfold pR;by_cases h:nV p=0
  .rw[if_pos h,rN r]
   constructor
   .intro g j hj
    cases j with
    |zero=>simpa using h
    |succ j=>simpa using g j (by simpa using hj)
   .intro g j hj
    simpa using g (j+1) (by simpa using hj)
  .rw[if_neg h]
   exact⟨λe=>by simp at e,λg=>absurd (by simpa using g 0 (by simp)) h⟩
theorem yz:∀(ps:List Pl),pR ps=0\/pR ps=3
 |[]=>.inl rfl
 |p::r=>by
  unfold pR;split
  .exact yz r
  .exact .inr rfl
theorem zr{ps:List Pl}{k:Nat}(hk:k<ps.length)(h:nV (ps.getD k dp)≠0):pR ps=3:=by
 rcases yz ps with e|e
 .exact absurd ((rN ps).1 e k hk) h
 .exact e
theorem uk(ps:List Pl)(b off n cap:Nat)(w:World)(hn:ps.length=n)(hr:Cz w b off ps)(Ho:n<=1000) :
 Calls AT 296 #[sh (AI ⟨b,off,U⟩) n cap] w λe w'=>e=Ia (O J (pR ps))/\Below w.heap.size w w':=by
 have HR:Hid (Cz w b off ps):=hr;have HN:Hid _:=hn;clear hr hn;go_enter func296,ntmps296;go_wp2;go_loopw [8] (λi w'=>∃k:Nat,k<=n/\i=O J k/\Hid (Below w.heap.size w w')/\Hid (∀j,j<k->nV (ps.getD j dp)=0)) (λi _=>n-(intOf i).toNat)
 case atStart=>exact⟨0,Iw _,rfl,If _ _,λj hj=>by omega⟩
 case round=>
  obtain⟨k,hk,rfl,HB,HZ⟩:=hrel;by_cases mS:k<n
  .obtain⟨c0,c1,c2,c3,c4⟩:=HR.out.below HB.out k (by rw[HN.out];exact mS)
   have HS:Hid (nV (ps.getD k dp)=0->∀j,j<k+1->nV (ps.getD j dp)=0):=λh j hj=>by
    by_cases e:j=k
    .subst e;exact h
    .exact HZ.out j (by omega)
   have HX:Hid (nV (ps.getD k dp)≠0->pR ps=nV (ps.getD k dp)):=λh=>by
    rw[zr (by rw[HN.out];exact mS) h];exact((KZ _).resolve_left h).symm
   generalize ps.getD k dp=pk at *;obtain⟨x,y,z,h,s⟩:=pk;simp only at c0 c1 c2 c3 c4;clear HZ;go_wp2_with fail;refine(vq ⟨x,y,z,h,s⟩ _).mono ?_;rintro e w1 ⟨rfl,mO⟩;have mY:Hid _:=(HB.out.alloc HB.out.size _).trans (mO.mono (by have:=HB.out.size;simp;omega));clear mO c0 c1 c2 c3 c4;by_cases hc:nV ⟨x,y,z,h,s⟩=0
   .have hc':(nV ⟨x,y,z,h,s⟩!=0)=false:=by simpa using hc
    have VR:=HS.out hc;have Bv:Hid _:=VR;clear VR HS HX hc;go_wp2_with fail;go_roundw
    case rel=>exact⟨k+1,by omega,by go_num,mY,Bv⟩
    case measure=>simp[intOf];omega
   .have hc':(nV ⟨x,y,z,h,s⟩!=0)=true:=by simpa using hc
    have HE:Hid _:=HX.out hc;clear HS HX hc;go_wp2_with fail;go_ret;exact⟨AJ HE.out.symm,mY.out⟩
  .have HE:Hid _:=(rN ps).2 (λj hj=>HZ.out j (by have:=HN.out;omega))
   clear HZ;go_wp2_with fail;go_ret;exact⟨AJ HE.out.symm,HB.out⟩
def VS(a b:Pl):Int:=(a.x-b.x)*(a.x-b.x)+(a.y-b.y)*(a.y-b.y)+(a.z-b.z)*(a.z-b.z)
def sq(a b:Pl):Int:=rt (VS a b)
def K6(a b:Pl):Int:=sq a b+a.h+b.h
theorem Bw{m:Int}(h0 : -9223372036854775808<=m)(h1:m<=9223372036854775807):IntKind.i64.wrap m=m:=by
 rw[IW];omega
theorem sq_nonneg(x:Int):0<=x*x:=by
 rcases Int.le_total 0 x with h|h
 .exact Int.mul_nonneg h h
 .exact Int.mul_nonneg_of_nonpos_of_nonpos h h
theorem aoe{x m:Int}(h0 : -m<=x)(h1:x<=m):x*x<=m*m:=by
 rcases Int.le_total 0 x with h|h
 .exact Hn h h1
 .have:=Hn (a := -x) (b:=m) (by omega) (by omega)
  rwa [Int.neg_mul_neg] at this
theorem Bx{x:Int}(h0 : -20000000<=x)(h1:x<=20000000):x*x<=400000000000000:=aoe (m:=20000000) h0 h1
theorem MT{a b:Pl}(ha:zj a)(hb:zj b):0<=VS a b/\VS a b<=1200000000000000:=by
 have h1:=Bx (x:=a.x-b.x) (by have:=ha.x0;have:=hb.x1;omega) (by have:=ha.x1;have:=hb.x0;omega);have h2:=Bx (x:=a.y-b.y) (by have:=ha.y0;have:=hb.y1;omega) (by have:=ha.y1;have:=hb.y0;omega);have h3:=Bx (x:=a.z-b.z) (by have:=ha.z0;have:=hb.z1;omega) (by have:=ha.z1;have:=hb.z0;omega);have g1:=sq_nonneg (a.x-b.x);have g2:=sq_nonneg (a.y-b.y);have g3:=sq_nonneg (a.z-b.z);unfold VS;omega
theorem Xj{n r:Int}(h:Cr n r):Cr n (rt n):=by rw[rt_eq h];exact h
theorem VT:∀(n:Nat),∃r:Nat,Cr n r
 |0=>⟨0,by decide,by decide,by decide⟩
 |n+1=>by
  obtain⟨r,h0,h1,h2⟩:=VT n;by_cases h:(((r+1:Nat):Int))*((r+1:Nat):Int)<=((n+1:Nat):Int)
  .refine⟨r+1,by omega,h,?_⟩
   have e1:((r:Int)+1+1)*((r:Int)+1+1)=((r:Int)+1)*((r:Int)+1)+2*r+3:=by
    simp only[Int.add_mul,Int.mul_add];omega
   push_cast
   omega
  .refine⟨r,h0,by push_cast;omega,by push_cast at h ⊢;omega⟩
theorem aof{n:Int}(h:0<=n):Cr n (rt n):=by
 obtain⟨r,hr⟩:=VT n.toNat;rw[Int.toNat_of_nonneg h] at hr;exact Xj hr
theorem aog{n:Int}(h0:0<=n)(h1:n<=1200000000000000):0<=rt n/\rt n<=34641016:=by
 obtain⟨h,g,_⟩:=aof h0;refine⟨h,?_⟩;apply Classical.byContradiction;intro c;have:=Hn (a:=34641017) (b:=rt n) (by omega) (by omega);omega
theorem CA{a b:Pl}(ha:zj a)(hb:zj b):0<=sq a b/\sq a b<=34641016:=
 aog (MT ha hb).1 (MT ha hb).2
theorem Xk(a b:Pl)(w:World)(ha:zj a)(hb:zj b) :
 Calls AT 310 #[Iu #[O J a.x,O J a.y,O J a.z,O J a.h,O J a.s],Iu #[O J b.x,O J b.y,O J b.z,O J b.h,O J b.s]] w λe w'=>e=Ia (O J (sq a b))/\Below w.heap.size w w':=by
 have h1:=Bx (x:=a.x-b.x) (by have:=ha.x0;have:=hb.x1;omega) (by have:=ha.x1;have:=hb.x0;omega);have h2:=Bx (x:=a.y-b.y) (by have:=ha.y0;have:=hb.y1;omega) (by have:=ha.y1;have:=hb.y0;omega);have h3:=Bx (x:=a.z-b.z) (by have:=ha.z0;have:=hb.z1;omega) (by have:=ha.z1;have:=hb.z0;omega);have g1:=sq_nonneg (a.x-b.x);have g2:=sq_nonneg (a.y-b.y);have g3:=sq_nonneg (a.z-b.z);have HE:Hid (sq a b=rt ((a.x-b.x)*(a.x-b.x)+(a.y-b.y)*(a.y-b.y)+(a.z-b.z)*(a.z-b.z))):=(show sq a b=_ from rfl);obtain⟨ax0,ax1,ay0,ay1,az0,az1,_,_,_,_⟩:=ha;obtain⟨bx0,bx1,by0,by1,bz0,bz1,_,_,_,_⟩:=hb;generalize sq a b=r at *;obtain⟨x1,y1,z1,p1,s1⟩:=a;obtain⟨x2,y2,z2,p2,s2⟩:=b;simp only at *;go_enter func310,ntmps310;go_wp2_with fail;go_quiet (fail)
 go_wp2_with (go_at_call 319;refine(acj _ _ (by omega) (by omega)).mono ?_;rintro e w' ⟨rfl,rfl⟩);go_ret;exact⟨AJ HE.out.symm,below_drewN (((If _ _).alloc (By _) _).alloc (by simp) _) _⟩
theorem agD(a b:Pl)(w:World)(ha:zj a)(hb:zj b) :
 Calls AT 307 #[Iu #[O J a.x,O J a.y,O J a.z,O J a.h,O J a.s],Iu #[O J b.x,O J b.y,O J b.z,O J b.h,O J b.s]] w λe w'=>e=Ia (O J (K6 a b))/\Below w.heap.size w w':=by
 obtain⟨r0,r1⟩:=CA ha hb;have HE:Hid (K6 a b=sq a b+a.h+b.h):=(show K6 a b=_ from rfl);have hap:=λw=>Xk a b w ha hb;have h0:=ha.h0;have h1:=ha.h1;have g0:=hb.h0;have g1:=hb.h1;clear ha hb;generalize sq a b=r at *;generalize K6 a b=f at *;obtain⟨x1,y1,z1,p1,s1⟩:=a;obtain⟨x2,y2,z2,p2,s2⟩:=b;simp only at *;generalize hW:(w.alloc (Ib #[O J x1,O J y1,O J z1,O J p1,O J s1] 27)).alloc (Ib #[O J x2,O J y2,O J z2,O J p2,O J s2] 27)=W at *;have HW:Hid (Below w.heap.size w W):=by rw[<- hW];exact((If _ _).alloc (By _) _).alloc (by simp) _
 have E0:∀d os,(Is (IG W d) os).cell? ⟨w.heap.size,0,U⟩=AI (O J x1):=Im (by rw[<- hW];simp);have E1:∀d os,(Is (IG W d) os).cell? ⟨w.heap.size,1,U⟩=AI (O J y1):=Im (by rw[<- hW];simp);have E2:∀d os,(Is (IG W d) os).cell? ⟨w.heap.size,2,U⟩=AI (O J z1):=Im (by rw[<- hW];simp);have E3:∀d os,(Is (IG W d) os).cell? ⟨w.heap.size,3,U⟩=AI (O J p1):=Im (by rw[<- hW];simp);have E4:∀d os,(Is (IG W d) os).cell? ⟨w.heap.size,4,U⟩=AI (O J s1):=Im (by rw[<- hW];simp);have F0:∀d os,(Is (IG W d) os).cell? ⟨w.heap.size+1,0,U⟩=AI (O J x2):=Im (by rw[<- hW];simp);have F1:∀d os,(Is (IG W d) os).cell? ⟨w.heap.size+1,1,U⟩=AI (O J y2):=Im (by rw[<- hW];simp);have F2:∀d os,(Is (IG W d) os).cell? ⟨w.heap.size+1,2,U⟩=AI (O J z2):=Im (by rw[<- hW];simp);have F3:∀d os,(Is (IG W d) os).cell? ⟨w.heap.size+1,3,U⟩=AI (O J p2):=Im (by rw[<- hW];simp);have F4:∀d os,(Is (IG W d) os).cell? ⟨w.heap.size+1,4,U⟩=AI (O J s2):=Im (by rw[<- hW];simp);have cN:∀d os,Calls AT 310 #[Iu #[O J x1,O J y1,O J z1,O J p1,O J s1],Iu #[O J x2,O J y2,O J z2,O J p2,O J s2]] (Is (IG W d) os) λe DQ=>e=Ia (O J r)/\∃p:Q2,DQ=Is (IG W p.d) p.os:=λd os=>
  Calls.regrown_of ((hap _).mono (by rintro e w' ⟨rfl,hb⟩;exact⟨rfl,hb⟩))
 clear hap;go_enter func307,ntmps307;go_wp2_with fail;refine IX (by kernel_rfl) (by kernel_rfl) ?_;repeat(quiet_step (exact cN _ _))
 refine oK λdq yx tB=>?_;clear cN E0 E1 E2 E3 E4 F0 F1 F2 F3 F4;go_wp2_with fail;go_ret;exact⟨AJ (by rw[Bw (m:=r+p1) (by omega) (by omega),Bw (by omega) (by omega)];exact HE.out.symm),HW.out.trans (tB.out.mono HW.out.size)⟩
def E8(n a b:Int):Bool:=decide (a<=n)&&decide (n<=b)
theorem atL{a b:Bool}(h:a=b):Ia (Ic a)=Ia (Ic b):=by rw[h]
theorem tC(n a b:Int)(w:World) :
 Calls AT 37 #[O J n,O J a,O J b] w λe w'=>e=Ia (Ic (E8 n a b))/\w'=w:=by
 go_enter func37,ntmps37;go_wp2;all_goals
  go_ret;exact⟨atL (by unfold E8;rw[JH];simp;try omega),rfl⟩
theorem rv{n a b:Int}(h:E8 n a b=true):a<=n/\n<=b:=by simpa[E8] using h
theorem vz{n a b:Int}(h:E8 n a b=false):¬ (a<=n/\n<=b):=by
 intro g;simp[E8,g.1,g.2] at h
theorem Si{p:Pl}(h:¬ zj p):nV p=3:=(KZ p).resolve_left (λe=>h ((zk p).1 e))
theorem acy{P:Prop}(h:P:=by
 clear HX H3;go_enter func16,ntmps16;go_wp2_with (go_at_call 37;refine(tC _ _ _ _).mono ?_;rintro e w' ⟨rfl,rfl⟩;first|rw[h1]|rw[h2]|rw[h3]|rw[h4]|rw[h5]);go_ret;exact⟨AJ HE.out.symm,rfl⟩):P:=h
theorem vA(p:Pl)(w:World) :
 Calls AT 16 #[Iu #[O J p.x,O J p.y,O J p.z,O J p.h,O J p.s]] w λe w'=>e=Ia (O J (nV p))/\w'=w.alloc (Ib #[O J p.x,O J p.y,O J p.z,O J p.h,O J p.s] 27):=by
 have HK:=zk p;have H3:Hid (¬ zj p->nV p=3):=Si;have HX:Hid (nV p=0↔zj p):=HK;clear HK;rcases h1:E8 p.x (-10000000) 10000000 with _|_
 .have HE:Hid (nV p=3):=H3.out (λo=>vz h1 ⟨o.x0,o.x1⟩)
  clear HX H3;go_enter func16,ntmps16;go_wp2_with (go_at_call 37;refine(tC _ _ _ _).mono ?_;rintro e w' ⟨rfl,rfl⟩;rw[h1]);go_ret;exact⟨AJ HE.out.symm,rfl⟩
 rcases h2:E8 p.y (-10000000) 10000000 with _|_
 .have HE:Hid (nV p=3):=H3.out (λo=>vz h2 ⟨o.y0,o.y1⟩)
  clear HX H3;go_enter func16,ntmps16;go_wp2_with (go_at_call 37;refine(tC _ _ _ _).mono ?_;rintro e w' ⟨rfl,rfl⟩;first|rw[h1]|rw[h2]);go_ret;exact⟨AJ HE.out.symm,rfl⟩
 rcases h3:E8 p.z (-10000000) 10000000 with _|_
 .have HE:Hid (nV p=3):=H3.out (λo=>vz h3 ⟨o.z0,o.z1⟩)
  clear HX H3;go_enter func16,ntmps16;go_wp2_with (go_at_call 37;refine(tC _ _ _ _).mono ?_;rintro e w' ⟨rfl,rfl⟩;first|rw[h1]|rw[h2]|rw[h3]);go_ret;exact⟨AJ HE.out.symm,rfl⟩
 rcases h4:E8 p.h 0 1000000 with _|_
 .have HE:Hid (nV p=3):=H3.out (λo=>vz h4 ⟨o.h0,o.h1⟩)
  clear HX H3;go_enter func16,ntmps16;go_wp2_with (go_at_call 37;refine(tC _ _ _ _).mono ?_;rintro e w' ⟨rfl,rfl⟩;first|rw[h1]|rw[h2]|rw[h3]|rw[h4]);go_ret;exact⟨AJ HE.out.symm,rfl⟩
 rcases h5:E8 p.s 0 1000 with _|_
 .have HE:Hid (nV p=3):=H3.out (λo=>vz h5 ⟨o.s0,o.s1⟩)
  exact acy
 .have HE:Hid (nV p=0):=HX.out.2 ⟨(rv h1).1,(rv h1).2,(rv h2).1,(rv h2).2,(rv h3).1,(rv h3).2,(rv h4).1,(rv h4).2,(rv h5).1,(rv h5).2⟩
  exact acy
theorem MU(a b:Pl)(w:World)(ha:zj a)(hb:zj b) :
 Calls AT 233 #[Iu #[O J a.x,O J a.y,O J a.z,O J a.h,O J a.s],Iu #[O J b.x,O J b.y,O J b.z,O J b.h,O J b.s]] w λe w'=>e=Ia (O J (sq a b))/\Below w.heap.size w w':=by
 have h1:=Bx (x:=a.x-b.x) (by have:=ha.x0;have:=hb.x1;omega) (by have:=ha.x1;have:=hb.x0;omega);have h2:=Bx (x:=a.y-b.y) (by have:=ha.y0;have:=hb.y1;omega) (by have:=ha.y1;have:=hb.y0;omega);have h3:=Bx (x:=a.z-b.z) (by have:=ha.z0;have:=hb.z1;omega) (by have:=ha.z1;have:=hb.z0;omega);have g1:=sq_nonneg (a.x-b.x);have g2:=sq_nonneg (a.y-b.y);have g3:=sq_nonneg (a.z-b.z);have HE:Hid (sq a b=rt ((a.x-b.x)*(a.x-b.x)+(a.y-b.y)*(a.y-b.y)+(a.z-b.z)*(a.z-b.z))):=(show sq a b=_ from rfl);obtain⟨ax0,ax1,ay0,ay1,az0,az1,_,_,_,_⟩:=ha;obtain⟨bx0,bx1,by0,by1,bz0,bz1,_,_,_,_⟩:=hb;generalize sq a b=r at *;obtain⟨x1,y1,z1,p1,s1⟩:=a;obtain⟨x2,y2,z2,p2,s2⟩:=b;simp only at *;go_enter func233,ntmps233;go_wp2_with (go_at_call 266;refine(RM _ _ (by omega) (by omega)).mono ?_;rintro e w' ⟨rfl,rfl⟩);go_ret;exact⟨AJ HE.out.symm,((If _ _).alloc (By _) _).alloc (by simp) _⟩
theorem Xl(a b:Pl)(w:World)(ha:zj a)(hb:zj b) :
 Calls AT 192 #[Iu #[O J a.x,O J a.y,O J a.z,O J a.h,O J a.s],Iu #[O J b.x,O J b.y,O J b.z,O J b.h,O J b.s]] w λe w'=>e=Ia (O J (K6 a b))/\Below w.heap.size w w':=by
 obtain⟨r0,r1⟩:=CA ha hb;have HE:Hid (K6 a b=sq a b+a.h+b.h):=(show K6 a b=_ from rfl);have hap:=λw=>MU a b w ha hb;have h0:=ha.h0;have h1:=ha.h1;have g0:=hb.h0;have g1:=hb.h1;clear ha hb;generalize sq a b=r at *;generalize K6 a b=f at *;obtain⟨x1,y1,z1,p1,s1⟩:=a;obtain⟨x2,y2,z2,p2,s2⟩:=b;simp only at *;generalize hW:(w.alloc (Ib #[O J x1,O J y1,O J z1,O J p1,O J s1] 27)).alloc (Ib #[O J x2,O J y2,O J z2,O J p2,O J s2] 27)=W at *;have HW:Hid (Below w.heap.size w W):=by rw[<- hW];exact((If _ _).alloc (By _) _).alloc (by simp) _
 have E0:∀d os,(Is (IG W d) os).cell? ⟨w.heap.size,0,U⟩=AI (O J x1):=Im (by rw[<- hW];simp);have E1:∀d os,(Is (IG W d) os).cell? ⟨w.heap.size,1,U⟩=AI (O J y1):=Im (by rw[<- hW];simp);have E2:∀d os,(Is (IG W d) os).cell? ⟨w.heap.size,2,U⟩=AI (O J z1):=Im (by rw[<- hW];simp);have E3:∀d os,(Is (IG W d) os).cell? ⟨w.heap.size,3,U⟩=AI (O J p1):=Im (by rw[<- hW];simp);have E4:∀d os,(Is (IG W d) os).cell? ⟨w.heap.size,4,U⟩=AI (O J s1):=Im (by rw[<- hW];simp);have F0:∀d os,(Is (IG W d) os).cell? ⟨w.heap.size+1,0,U⟩=AI (O J x2):=Im (by rw[<- hW];simp);have F1:∀d os,(Is (IG W d) os).cell? ⟨w.heap.size+1,1,U⟩=AI (O J y2):=Im (by rw[<- hW];simp);have F2:∀d os,(Is (IG W d) os).cell? ⟨w.heap.size+1,2,U⟩=AI (O J z2):=Im (by rw[<- hW];simp);have F3:∀d os,(Is (IG W d) os).cell? ⟨w.heap.size+1,3,U⟩=AI (O J p2):=Im (by rw[<- hW];simp);have F4:∀d os,(Is (IG W d) os).cell? ⟨w.heap.size+1,4,U⟩=AI (O J s2):=Im (by rw[<- hW];simp);have cN:∀d os,Calls AT 233 #[Iu #[O J x1,O J y1,O J z1,O J p1,O J s1],Iu #[O J x2,O J y2,O J z2,O J p2,O J s2]] (Is (IG W d) os) λe DQ=>e=Ia (O J r)/\∃p:Q2,DQ=Is (IG W p.d) p.os:=λd os=>
  Calls.regrown_of ((hap _).mono (by rintro e w' ⟨rfl,hb⟩;exact⟨rfl,hb⟩))
 clear hap;go_enter func192,ntmps192;go_wp2_with fail;refine IX (by kernel_rfl) (by kernel_rfl) ?_;repeat(quiet_step (exact cN _ _))
 refine oK λdq yx tB=>?_;clear cN E0 E1 E2 E3 E4 F0 F1 F2 F3 F4;go_wp2_with fail;go_ret;exact⟨AJ (by rw[Bw (m:=r+p1) (by omega) (by omega),Bw (by omega) (by omega)];exact HE.out.symm),HW.out.trans (tB.out.mono HW.out.size)⟩
end Go.Proofs.YtipbebleapjcjaaGreatDoor
namespace Go.Proofs.YtipbebleapjcjaaGreatDoor
namespace Sv
open Go.RowKit
theorem Hx{W:World}{cs:Array Value}{t:Ji}{g k:Nat}(hg:g=W.heap.size):(W.alloc (Ib cs t)).cell? ⟨g,k,U⟩=cs[k]?:=by subst hg;simp
def orZ(a b:Int):Int:=if a=0 then b else a
theorem Sj(a b:Int)(g:Nat)(c:Nat)(w:World)(h0:w.cell? ⟨g,0,U⟩=AI (O J a))(h1:w.cell? ⟨g,1,U⟩=AI (O J b)) :
 ni 165 #[sh (AI ⟨g,0,U⟩) 2 c] w λe w'=>e=Ia (O J (orZ a b))/\w'=w:=by
 by_cases ha:a=0
 .subst ha
  by_cases hb:b=0
  .subst hb
   go_enter Qz,Qg;go_wp2_with fail;refine J2 3 ?_;rw[JF];go_wp2_with fail;rw[JF];go_wp2_with fail;rw[JF];go_wp2_with fail;go_ret;exact⟨rfl,rfl⟩
  .have hb':(b !=0)=true:=by simpa using hb
   go_enter Qz,Qg;go_wp2_with fail;refine J2 3 ?_;rw[JF];go_wp2_with fail;rw[JF];go_wp2_with fail;go_ret;exact⟨rfl,rfl⟩
 .have ha':(a !=0)=true:=by simpa using ha
  go_enter Qz,Qg;go_wp2_with fail;refine J2 3 ?_;rw[JF];go_wp2_with fail;go_ret;exact⟨mN (by unfold orZ;rw[if_neg ha]),rfl⟩
theorem wW(a b:nj)(w:World) :
 ni 112 #[Iu #[I a.node,I a.oI,I a.name,I a.tag,O J a.addr,O J a.port,Ic a.ny,O J a.version,Ic a.gone],Iu #[I b.node,I b.oI,I b.name,I b.tag,O J b.addr,O J b.port,Ic b.ny,O J b.version,Ic b.gone]] w λe w'=>e=Ia (O J (rL a b))/\Below w.heap.size w w':=by
 go_enter func112,ntmps112;go_wp2_with fail;obtain⟨W,hW⟩:∃W,W=(w.alloc (Ib #[I a.node,I a.oI,I a.name,I a.tag,O J a.addr,O J a.port,Ic a.ny,O J a.version,Ic a.gone] 93)).alloc (Ib #[I b.node,I b.oI,I b.name,I b.tag,O J b.addr,O J b.port,Ic b.ny,O J b.version,Ic b.gone] 93):=⟨_,rfl⟩;rw[<- hW];have rj:Below w.heap.size w W:=by rw[hW];exact((If _ _).alloc (By _) _).alloc (by simp) _
 have wY:W.heap[w.heap.size]?=AI (Ib #[I a.node,I a.oI,I a.name,I a.tag,O J a.addr,O J a.port,Ic a.ny,O J a.version,Ic a.gone] 93 (0,0)):=by
  rw[hW,Iv _ _ _ (by simp)];exact Ii w _
 have Xm:W.heap[w.heap.size+1]?=AI (Ib #[I b.node,I b.oI,I b.name,I b.tag,O J b.addr,O J b.port,Ic b.ny,O J b.version,Ic b.gone] 93 (0,0)):=by
  have h:=Ii (w.alloc (Ib #[I a.node,I a.oI,I a.name,I a.tag,O J a.addr,O J a.port,Ic a.ny,O J a.version,Ic a.gone] 93)) (Ib #[I b.node,I b.oI,I b.name,I b.tag,O J b.addr,O J b.port,Ic b.ny,O J b.version,Ic b.gone] 93);rw[hW];simpa using h
 have n0:W.cell? ⟨w.heap.size,0,U⟩=AI (I a.node):=fi wY 0;have n1:W.cell? ⟨w.heap.size,1,U⟩=AI (I a.oI):=fi wY 1;have m0:W.cell? ⟨w.heap.size+1,0,U⟩=AI (I b.node):=fi Xm 0;have m1:W.cell? ⟨w.heap.size+1,1,U⟩=AI (I b.oI):=fi Xm 1;have rW:Hid (Below w.heap.size w W):=rj;have CB:=rj.size;have h1:=Jn W _ n0;have h2:=Jn W _ n1;have h3:=Jn W _ m0;have h4:=Jn W _ m1;clear wY Xm hW rj;go_region_held3 (λw'=>w'.cell? ⟨w.heap.size,0,U⟩=AI (I a.node)/\w'.cell? ⟨w.heap.size,1,U⟩=AI (I a.oI)/\w'.cell? ⟨w.heap.size+1,0,U⟩=AI (I b.node)/\w'.cell? ⟨w.heap.size+1,1,U⟩=AI (I b.oI)) (go_keep) (first|(go_at_call 104;refine(sV _ _ _).mono ?_;rintro e w' ⟨rfl,rfl⟩)|(go_at_call 165;refine(Sj (oh a.node b.node) (oh a.oI b.oI) _ _ _ (Hx rfl) (Hx rfl)).mono ?_;rintro e w' ⟨rfl,rfl⟩))
 go_wp2_with fail;go_ret;exact⟨rfl,(rW.out.alloc CB _).drew⟩
end Sv
namespace Sv
open Go.RowKit
abbrev MQ:=func111
abbrev ET:=ntmps111
theorem Cy:EP 111 112 Row np 40:=ES
theorem vv:zn 111:=zo
end Sv
namespace Sv
open Go.RowKit
end Sv
end Go.Proofs.YtipbebleapjcjaaGreatDoor
namespace Go.Proofs.YtipbebleapjcjaaGreatDoor
open Go.RowKit
theorem AQ(ss:List ByteArray)(b cap:Nat)(w:World)(hb:∀j,j<ss.length->w.cell? ⟨b,j,U⟩=AI (I (ss.getD j Ie)))(hs:∀j,(ss.getD j Ie).size<=Il)(hn:ss.length<=1000) :
 ni 50 #[sh (AI ⟨b,0,U⟩) ss.length cap] w λe w'=>e=Ia (Ic (ss.all mT))/\w'=w:=by
 have HB:Hid _:=hb;have HS:Hid _:=hs;have H0:Hid ((∀j,j<ss.length->mT (ss.getD j Ie)=true)->ss.all mT=true):=λh=>by
  rw[Od];intro x hx;obtain⟨j,hj,rfl⟩:=I2 hx;have:=h j hj;simpa[Ip,Ih hj] using this
 have H1:Hid (∀j,j<ss.length->mT (ss.getD j Ie)=false->ss.all mT=false):=λj hj h=>by
  rw[QU];refine⟨ss[j],IU hj,?_⟩;rw[show ss.getD j Ie=ss[j] by simp[Ip,Ih hj]] at h;simp[h]
 clear hb hs;generalize ss.all mT=res at *;generalize hN:ss.length=n at *;clear hN;go_enter func50,ntmps50;go_wp2_with fail;go_loop [7] (λi=>∃k:Nat,k<=n/\i=O J k/\Hid (∀j,j<k->mT (ss.getD j Ie)=true)) (λi=>n-(intOf i).toNat)
 case atStart=>exact⟨0,Iw _,rfl,λj h=>absurd h (IV _)⟩
 case round=>
  obtain⟨k,hk,rfl,hz⟩:=hrel;by_cases mS:k<n
  .have hc:=HB.out k mS
   have Ci:=HS.out k;have HZ:Hid (mT (ss.getD k Ie)=true->∀j,j<k+1->mT (ss.getD j Ie)=true):=λh j hj=>by
    rcases IL.1 hj with h2|rfl
    .exact hz.out j h2
    .exact h
   have HF:Hid (mT (ss.getD k Ie)=false->res=false):=λh=>H1.out k mS h;generalize ss.getD k Ie=s at *;rcases hl:mT s with _|_
   .have HR:Hid _:=HF.out hl
    go_wp2_with (go_at_call 78;refine(nL _ _ Ci).mono ?_;rintro e w' ⟨rfl,rfl⟩;rw[hl]);go_ret;exact⟨mW HR.out.symm,rfl⟩
   .go_wp2_with (go_at_call 78;refine(nL _ _ Ci).mono ?_;rintro e w' ⟨rfl,rfl⟩;rw[hl])
    go_round
    case rel=>exact⟨k+1,by omega,by go_num,HZ.out hl⟩
    case measure=>simp[intOf];omega
  .have HR:Hid _:=H0.out λj hj=>hz.out j (by omega)
   go_wp2_with fail;go_ret;exact⟨mW HR.out.symm,rfl⟩
def pK(t:ByteArray):Bool:=decide (t=Ie)||mT t
theorem Dj(ss:List ByteArray)(b cap:Nat)(w:World)(hb:∀j,j<ss.length->w.cell? ⟨b,j,U⟩=AI (I (ss.getD j Ie)))(hs:∀j,(ss.getD j Ie).size<=Il)(hn:ss.length<=1000) :
 ni 164 #[sh (AI ⟨b,0,U⟩) ss.length cap] w λe w'=>e=Ia (Ic (ss.all pK))/\w'=w:=by
 have HB:Hid _:=hb;have HS:Hid _:=hs;have H0:Hid ((∀j,j<ss.length->pK (ss.getD j Ie)=true)->ss.all pK=true):=λh=>by
  rw[Od];intro x hx;obtain⟨j,hj,rfl⟩:=I2 hx;have:=h j hj;simpa[Ip,Ih hj] using this
 have H1:Hid (∀j,j<ss.length->pK (ss.getD j Ie)=false->ss.all pK=false):=λj hj h=>by
  rw[QU];refine⟨ss[j],IU hj,?_⟩;rw[show ss.getD j Ie=ss[j] by simp[Ip,Ih hj]] at h;simp[h]
 clear hb hs;generalize ss.all pK=res at *;generalize hN:ss.length=n at *;clear hN;go_enter func164,ntmps164;go_wp2_with fail;go_loop [7] (λi=>∃k:Nat,k<=n/\i=O J k/\Hid (∀j,j<k->pK (ss.getD j Ie)=true)) (λi=>n-(intOf i).toNat)
 case atStart=>exact⟨0,Iw _,rfl,λj h=>absurd h (IV _)⟩
 case round=>
  obtain⟨k,hk,rfl,hz⟩:=hrel;by_cases mS:k<n
  .have hc:=HB.out k mS
   have Ci:=HS.out k;have HZ:Hid (pK (ss.getD k Ie)=true->∀j,j<k+1->pK (ss.getD j Ie)=true):=λh j hj=>by
    rcases IL.1 hj with h2|rfl
    .exact hz.out j h2
    .exact h
   have HF:Hid (pK (ss.getD k Ie)=false->res=false):=λh=>H1.out k mS h;generalize ss.getD k Ie=s at *;by_cases An:s=Ie
   .subst An
    have o6:Hid _:=HZ.out (by simp[pK]);clear HZ HF;go_wp2_with fail;go_round
    case rel=>exact⟨k+1,by omega,by go_num,o6.out⟩
    case measure=>simp[intOf];omega
   .have HE:Hid (pK s=mT s):=(show pK s=mT s by simp[pK,An])
    obtain⟨h1,h2⟩:=o0 An;have h3:¬ s.toList=[]:=λe=>h2 (by rw[e,IZ];rfl);have h4:(s.toList==[])=false:=by simpa using h3
    clear An;rcases hl:mT s with _|_
    .have HR:Hid _:=HF.out (by rw[HE.out,hl])
     go_wp2_with (go_at_call 78;refine(nL _ _ Ci).mono ?_;rintro e w' ⟨rfl,rfl⟩;rw[hl]);go_ret;exact⟨mW HR.out.symm,rfl⟩
    .have o6:Hid _:=HZ.out (by rw[HE.out,hl])
     clear HZ HF;go_wp2_with (go_at_call 78;refine(nL _ _ Ci).mono ?_;rintro e w' ⟨rfl,rfl⟩;rw[hl]);go_round
     case rel=>exact⟨k+1,by omega,by go_num,o6.out⟩
     case measure=>simp[intOf];omega
  .have HR:Hid _:=H0.out λj hj=>hz.out j (by omega)
   go_wp2_with fail;go_ret;exact⟨mW HR.out.symm,rfl⟩
theorem acz(t:ByteArray)(W:World)(g:Nat)(hs:t.size<=Il)(hg:W.heap[g]?=AI (Ib #[I t] 9 (0,0))) :
 ni 164 #[sh (AI ⟨g,0,U⟩) 1 1] W λe w'=>e=Ia (Ic (pK t))/\w'=W:=by
 have h:=Dj [t] g 1 W (λj hj=>by
  rw[fi hg]
  have:j=0:=by simp at hj;omega
  subst this;rfl) (λj=>by
  match j with
  |0=>exact hs
  |_+1=>simp[Ip]) (by simp)
 simpa using h
theorem Xn(W:World)(c:Value):(W.alloc (Ib #[c] 9)).heap[W.heap.size]?=AI (Ib #[c] 9 (0,0)):=by
 have h:=Ii W (Ib #[c] 9);simpa using h
end Go.Proofs.YtipbebleapjcjaaGreatDoor
namespace Go.Proofs.YtipbebleapjcjaaGreatDoor
namespace Gw
open Go.RowKit
theorem wW(a b:pU)(w:World) :
 ni 115 #[Iu #[I a.mM,O J a.addr,O J a.version],Iu #[I b.mM,O J b.addr,O J b.version]] w λe w'=>e=Ia (O J (rL a b))/\Below w.heap.size w w':=by
 go_enter func115,ntmps115;go_wp2_with (go_at_call 104;refine(sV _ _ _).mono ?_;rintro e w' ⟨rfl,rfl⟩);go_ret;exact⟨rfl,((If _ _).alloc (By _) _).alloc (by simp) _⟩
end Gw
namespace Gw
open Go.RowKit
abbrev MQ:=func114
abbrev ET:=ntmps114
abbrev akq:=func189
abbrev acn:=ntmps189
abbrev an3:=func142
abbrev aiO:=ntmps142
theorem Cy:EP 114 115 Row np 6:=ES
theorem vv:zn 114:=zo
theorem EX:Hp 189 115 Row rL dm DS 12:=Hu
theorem Dh:ER 189 DS:=EV
theorem Di:Hq 189 115 Sl ack rL dm DS 12:=EW
theorem Bu:VM 142 115 Sl ack pj DS 12:=VO
end Gw
namespace Gw
open Go.RowKit
end Gw
namespace Gw
open Go.RowKit
theorem wD(m:pU)(w:World)(hm:m.ok) :
 Calls AT 113 #[Iu #[I m.mM,O J m.addr,O J m.version]] w λe w'=>e=Ia (O J m.e)/\Below w.heap.size w w':=by
 have hs:m.mM.size<=Il:=hm;have hB:Hid (Below w.heap.size w (w.alloc (Ib #[I m.mM,O J m.addr,O J m.version] 72))):=(If _ _).alloc (By _) _;clear hm;rcases h1:mT m.mM with _|_
 .go_enter func113,ntmps113
  go_wp2_with (go_at_call 78;refine(nL _ _ hs).mono ?_;rintro e w' ⟨rfl,rfl⟩;rw[h1]);go_ret;exact⟨mN (by simp[pU.e,h1]),hB.out⟩
 .rcases h2:within m.addr 0 4294967295 with _|_
  .go_enter func113,ntmps113
   go_wp2_with (first|(go_at_call 78;refine(nL _ _ hs).mono ?_;rintro e w' ⟨rfl,rfl⟩;rw[h1])|(go_at_call 51;refine(qf _ _).mono ?_;rintro e w' ⟨rfl,rfl⟩;rw[h2]));go_ret;exact⟨mN (by simp[pU.e,h1,h2]),hB.out⟩
  .rcases h3:within m.version 1 1000000 with _|_
   all_goals
    go_enter func113,ntmps113;go_wp2_with (first|(go_at_call 78;refine(nL _ _ hs).mono ?_;rintro e w' ⟨rfl,rfl⟩;rw[h1])|(go_at_call 51;refine(qf _ _).mono ?_;rintro e w' ⟨rfl,rfl⟩;rw[h2])|(go_at_call 89;refine(oe _ _ _ _).mono ?_;rintro e w' ⟨rfl,rfl⟩;rw[h3]));go_ret;exact⟨mN (by simp[pU.e,h1,h2,h3]),hB.out⟩
abbrev x_M:Nat:=6
abbrev acw:=func63
abbrev MS:=ntmps63
abbrev akA:=func200
abbrev acx:=ntmps200
abbrev acA(m:pU):Prop:=(m).ok
theorem wX:E5 63 Row nu acA dm 6:=acv
theorem vx:Cw 63 6:=Sd
theorem vy:Cx 63:=Se
theorem nU:E6 63 Sl nu:=Sf
theorem qY:E7 200 Sl nW:=Sg
end Gw
namespace Gw
open Go.RowKit
end Gw
namespace Sv
open Go.RowKit
theorem sY(ms:List nj)(v:Value)(w:World)(h:Sl w v ms)(hn:ms.length<=1000) :
 ni 92 #[v] w λe w'=>∃v',e=Ia v'/\Own w.heap.size w' v' ms/\Below w.heap.size w w':=by
 obtain⟨a,cap,rfl,hs,h⟩:=h;obtain⟨i0,qg,oS,so,sf⟩:=Jc Tryz.RN;cases a with
 |none=>
  have he:ms=[]:=by
   rcases h with h|⟨b,off,h,_⟩
   .exact h
   .cases h
  subst he;clear h hs;have uI:=λ(w:World)=>JB (P:=AT) w 24 93 U 0 cap 0 0 Oz;simp only[OH,Qs] at uI ⊢;go_enter func92,ntmps92;go_wp2_with fail;go_ret;exact⟨_,rfl,nh _ _,If _ _⟩
 |some a=>
  have uI:=λ(w:World)=>JB (P:=AT) w 24 93 (AI a) ms.length cap 0 0 Oz;simp only[Qt] at uI;have hnews:Hid (∀j u,(fl ms)[j]?=AI u->(w.alloc (Ib #[] 93)).cell? (a.add j)=AI u):=by
   intro j u hj;rcases h with h|⟨b,off,h,hb,hr⟩
   .subst h;simp[fl] at hj
   .cases h
    have VD:j<ms.length*9:=by rw[<- pD];exact(I7.1 hj).1
    have h1:=rz ms (j/9) (by omega) (j%9) (by omega);rw[show j/9*9+j%9=j by omega,hj] at h1;rw[I4,Oc (w:=w) _ b _ hb];obtain⟨c0,c1,c2,c3,c4,c5,c6,c7,c8⟩:=hr (j/9) (by omega);have oH:j%9=0\/j%9=1\/j%9=2\/j%9=3\/j%9=4\/j%9=5\/j%9=6\/j%9=7\/j%9=8:=by omega
    rcases oH with e|e|e|e|e|e|e|e|e
    .rw[show off+j=off+j/9*9 by omega,c0];rw[e] at h1;simpa[nj.cs] using h1.symm
    .rw[show off+j=off+j/9*9+1 by omega,c1];rw[e] at h1;simpa[nj.cs] using h1.symm
    .rw[show off+j=off+j/9*9+2 by omega,c2];rw[e] at h1;simpa[nj.cs] using h1.symm
    .rw[show off+j=off+j/9*9+3 by omega,c3];rw[e] at h1;simpa[nj.cs] using h1.symm
    .rw[show off+j=off+j/9*9+4 by omega,c4];rw[e] at h1;simpa[nj.cs] using h1.symm
    .rw[show off+j=off+j/9*9+5 by omega,c5];rw[e] at h1;simpa[nj.cs] using h1.symm
    .rw[show off+j=off+j/9*9+6 by omega,c6];rw[e] at h1;simpa[nj.cs] using h1.symm
    .rw[show off+j=off+j/9*9+7 by omega,c7];rw[e] at h1;simpa[nj.cs] using h1.symm
    .rw[show off+j=off+j/9*9+8 by omega,c8];rw[e] at h1;simpa[nj.cs] using h1.symm
  have HO:Hid ((w.alloc (Ib #[] 93)).ownsRow w.heap.size 93 9 (sh (AI ⟨w.heap.size,0,U⟩) 0 0) 0 []):=Qv w #[] 0 (By _) (by unfold Il;omega) rfl;clear h hs;go_enter func92,ntmps92;go_wp2_with (at_builtin;refine IY _ rfl _ _ 24 rfl w.heap.size 93 i0 _ 9 104 Oz qg oS so sf rfl (by omega) _ 0 [] rfl HO.out a ms.length cap (fl ms) rfl (pD ms) hnews.out (tA ms) (by unfold Il;omega) (by omega) (by simp) ?_);intro v' w' r1 r2 r3;go_wp2_with fail;go_ret;refine⟨v',rfl,?_,?_⟩
  .simpa using r1
  .exact((If _ _).alloc (By _) _).grown r2 (by simp) (λk hk=>by simp[Jb] at hk;omega)
end Sv
namespace Gw
open Go.RowKit
theorem sY(ms:List pU)(v:Value)(w:World)(h:Sl w v ms)(hn:ms.length<=1000) :
 ni 93 #[v] w λe w'=>∃v',e=Ia v'/\Own w.heap.size w' v' ms/\Below w.heap.size w w':=by
 obtain⟨a,cap,rfl,hs,h⟩:=h;obtain⟨i0,qg,oS,so,sf⟩:=Jc Tryz.ako;cases a with
 |none=>
  have he:ms=[]:=by
   rcases h with h|⟨b,off,h,_⟩
   .exact h
   .cases h
  subst he;clear h hs;have uI:=λ(w:World)=>JB (P:=AT) w 25 72 U 0 cap 0 0 underlying25;simp only[OH,Qs] at uI ⊢;go_enter func93,ntmps93;go_wp2_with fail;go_ret;exact⟨_,rfl,nh _ _,If _ _⟩
 |some a=>
  have uI:=λ(w:World)=>JB (P:=AT) w 25 72 (AI a) ms.length cap 0 0 underlying25;simp only[Qt] at uI;have hnews:Hid (∀j u,(fl ms)[j]?=AI u->(w.alloc (Ib #[] 72)).cell? (a.add j)=AI u):=by
   intro j u hj;rcases h with h|⟨b,off,h,hb,hr⟩
   .subst h;simp[fl] at hj
   .cases h
    have VD:j<ms.length*3:=by rw[<- pD];exact(I7.1 hj).1
    have h1:=rz ms (j/3) (by omega) (j%3) (by omega);rw[show j/3*3+j%3=j by omega,hj] at h1;rw[I4,Oc (w:=w) _ b _ hb];obtain⟨c0,c1,c2⟩:=hr (j/3) (by omega);have oH:j%3=0\/j%3=1\/j%3=2:=by omega
    rcases oH with e|e|e
    .rw[show off+j=off+j/3*3 by omega,c0];rw[e] at h1;simpa[pU.cs] using h1.symm
    .rw[show off+j=off+j/3*3+1 by omega,c1];rw[e] at h1;simpa[pU.cs] using h1.symm
    .rw[show off+j=off+j/3*3+2 by omega,c2];rw[e] at h1;simpa[pU.cs] using h1.symm
  have HO:Hid ((w.alloc (Ib #[] 72)).ownsRow w.heap.size 72 3 (sh (AI ⟨w.heap.size,0,U⟩) 0 0) 0 []):=Qv w #[] 0 (By _) (by unfold Il;omega) rfl;clear h hs;go_enter func93,ntmps93;go_wp2_with (at_builtin;refine IY _ rfl _ _ 25 rfl w.heap.size 72 i0 _ 3 32 underlying25 qg oS so sf rfl (by omega) _ 0 [] rfl HO.out a ms.length cap (fl ms) rfl (pD ms) hnews.out (tA ms) (by unfold Il;omega) (by omega) (by simp) ?_);intro v' w' r1 r2 r3;go_wp2_with fail;go_ret;refine⟨v',rfl,?_,?_⟩
  .simpa using r1
  .exact((If _ _).alloc (By _) _).grown r2 (by simp) (λk hk=>by simp[Jb] at hk;omega)
end Gw
namespace Pc
open Go.RowKit
structure Ao where
 x:Int
 y:Int
 z:Int
 h:Int
 s:Int
def dm:Ao:=⟨0,0,0,0,0⟩
abbrev As(w:World)(b o:Nat)(m:Ao):Prop:=w.cell? ⟨b,o,U⟩=AI (O J m.x)/\w.cell? ⟨b,o+1,U⟩=AI (O J m.y)/\w.cell? ⟨b,o+2,U⟩=AI (O J m.z)/\w.cell? ⟨b,o+3,U⟩=AI (O J m.h)/\w.cell? ⟨b,o+4,U⟩=AI (O J m.s)
def Row(w:World)(b off:Nat)(ms:List Ao):Prop:=∀j,j<ms.length->As w b (off+j*5) (ms.getD j dm)
def Ao.cs(m:Ao):List Value:=[O J m.x,O J m.y,O J m.z,O J m.h,O J m.s]
def fl(ms:List Ao):List Value:=ms.flatMap Ao.cs
theorem oj(m:Ao):m.cs.length=5:=rfl
theorem oq(m:Ao)(r:List Ao):fl (m::r)=m.cs++fl r:=by simp[fl]
theorem rV(a b:List Ao):fl (a++b)=fl a++fl b:=by simp[fl]
theorem pD:∀ms:List Ao,(fl ms).length=ms.length*5
 |[]=>rfl
 |m::r=>by rw[oq,Iq,pD r,oj,Je];omega
theorem pX(m:Ao):∀v∈m.cs,v.oneCell'=true:=by
 intro v hv;simp[Ao.cs] at hv;rcases hv with rfl|rfl|rfl|rfl|rfl<;>rfl
theorem tA(ms:List Ao):∀v∈fl ms,v.oneCell'=true:=by
 intro v hv;obtain⟨m,_,h⟩:=O0.1 hv;exact pX m v h
theorem rz(ms:List Ao)(j:Nat)(hj:j<ms.length)(t:Nat)(ht:t<5):(fl ms)[j*5+t]?=(ms.getD j dm).cs[t]?:=by
 induction ms generalizing j with
 |nil=>simp at hj
 |cons m r ih=>
  rw[oq];cases j with
  |zero=>rw[Js (by rw[oj];omega)];simp
  |succ j=>
   rw[JS (by rw[oj];omega),oj,show(j+1)*5+t-5=j*5+t by omega,ih j (by simpa using hj)];simp
abbrev Own(base:Nat)(w:World)(v:Value)(ms:List Ao):Prop:=w.ownsRow base 27 5 v ms.length (fl ms)
theorem Own.below{base:Nat}{w w':World}{v:Value}{ms:List Ao}(h:Own base w v ms)(hb:Below w.heap.size w w'):Own base w' v ms:=by
 rcases h.2 with⟨rfl,h0⟩|⟨g,c,cur,rfl,qa,hg,rF,qw,oH,nA⟩
 .exact⟨h.1,.inl ⟨rfl,h0⟩⟩
 .have mS:=(Ig.1 hg).1
  exact⟨h.1,.inr ⟨g,c,cur,rfl,qa,(hb.block g mS).trans hg,rF,qw,oH,nA⟩⟩
theorem Own.lt{base:Nat}{w:World}{v:Value}{ms:List Ao}(h:Own base w v ms)(k:Nat)(hk:v.ownBlock=AI k):base<=k/\k<w.heap.size:=I3 h k hk
theorem zl{base g c:Nat}{w:World}{ms:List Ao}(h:Own base w (sh (AI ⟨g,0,U⟩) ms.length c) ms)(j:Nat)(hj:j<ms.length) :
 As w g (j*5) (ms.getD j dm):=by
 rcases h.2 with⟨h1,_⟩|⟨g',c',cur,h1,qa,hg,rF,qw,oH,nA⟩
 .cases h1
 .simp only[IM,Jd,Addr.mk.injEq] at h1
  obtain⟨⟨rfl,_,_⟩,_,_⟩:=h1;have hc:∀t,t<5->w.cell? ⟨g,j*5+t,U⟩=(ms.getD j dm).cs[t]?:=λt ht=>by
   rw[fi hg,<- rz ms j hj t ht,<- nA,IQ (by omega)];simp
  exact⟨hc 0 (by omega),hc 1 (by omega),hc 2 (by omega),hc 3 (by omega),hc 4 (by omega)⟩
theorem wV{base:Nat}{w:World}{v:Value}{ms:List Ao}(h:Own base w v ms)(p:Nat)(hp:p<ms.length):∃g c,v=sh (AI ⟨g,0,U⟩) ms.length c:=by
 rcases h.2 with⟨_,h0⟩|⟨g,c,cur,h1,_⟩
 .omega
 .exact⟨g,c,h1⟩
theorem nh(base:Nat)(w:World):Own base w (sh U 0 0) []:=Jz w base 27 5
theorem qC{base:Nat}{w:World}{v:Value}{L:List Ao}{m:Ao}(h:w.ownsRow base 27 5 v (L.length+1) (fl L++m.cs)):Own base w v (L++[m]):=by
 have e:fl (L++[m])=fl L++m.cs:=by rw[rV,oq];simp[fl]
 show w.ownsRow base 27 5 v (L++[m]).length (fl (L++[m]));rw[e,Iq];exact h
end Pc
end Go.Proofs.YtipbebleapjcjaaGreatDoor
namespace Go.Proofs.YtipbebleapjcjaaGreatDoor
open Go.RowKit
theorem Tryz.Sk:(Tryz.prog.info? 27).map (λi=>(i.zero,i.size,i.bytes))=AI (AI (Iu #[O J 0,O J 0,O J 0,O J 0,O J 0]),5,40):=by kernel_rfl
def yh(m:Wh.nZ):Pc.Ao:=⟨m.x,m.y,m.z,m.h,m.s⟩
def oN(ms:List Wh.nZ):List Pc.Ao:=ms.map yh
theorem Xo{ms:List Wh.nZ}{k:Nat}(hk:k<ms.length):oN (ms.take (k+1))=oN (ms.take k)++[yh (ms.getD k Wh.dm)]:=by
 rw[oN,oN,Iz hk,OI];simp[Ip,Ih hk]
theorem yA(ms:List Wh.nZ):(oN ms).length=ms.length:=by simp[oN]
theorem E9(ms:List Wh.nZ)(v:Value)(w:World)(hv:Wh.Sl w v ms)(hn:ms.length<=100) :
 Calls AT 297 #[v] w λe w'=>∃v',e=Ia v'/\Pc.Own w.heap.size w' v' (oN ms)/\Below w.heap.size w w':=by
 obtain⟨i0,qg,oS,so,sf⟩:=Jc Tryz.Sk;obtain⟨pa,ca,rfl,_,ha⟩:=hv;have HA:Hid (ms=[]\/∃b off,pa=AI ⟨b,off,U⟩/\b<w.heap.size/\Wh.Row w b off ms):=ha;clear ha;generalize Ap:ms.length=n at *;have HN:Hid (ms.length=n):=Ap;clear Ap;go_enter func297,ntmps297;go_wp2_with fail;go_loopw [3,8] (λo i w'=>∃k:Nat,k<=n/\i=O J k/\Below w.heap.size w w'/\Hid (Pc.Own w.heap.size w' o (oN (ms.take k)))) (λ_ i _=>n-(intOf i).toNat)
 case atStart=>exact⟨0,Iw _,rfl,If _ _,Pc.nh _ _⟩
 case round=>
  obtain⟨k,hk,rfl,nE,HO⟩:=hrel;have od:=nE.size;have hll:(oN (ms.take k)).length<=100:=by rw[yA];have h2:(ms.take k).length<=k:=List.length_take_le _ _;omega
  by_cases mS:k<n
  .obtain⟨b1,o1,tr,o8,wT⟩:∃b off,pa=AI ⟨b,off,U⟩/\b<w.heap.size/\Wh.Row w b off ms:=by
    rcases HA.out with h|h
    .have:=HN.out;rw[h] at this;simp at this;omega
    .exact h
   subst tr;obtain⟨rM,Ai⟩:=pd nE;obtain⟨c0,c1,c2,c3,c4,c5⟩:=wT k (by rw[HN.out];exact mS);have yB:Hid (oN (ms.take (k+1))=oN (ms.take k)++[yh (ms.getD k Wh.dm)]):=Xo (by rw[HN.out];exact mS);clear wT;generalize hL2:oN (ms.take (k+1))=L2 at *;have HL2:Hid (oN (ms.take (k+1))=L2):=hL2;clear hL2;generalize oN (ms.take k)=L at *;generalize ms.getD k Wh.dm=m at *;obtain⟨nd,x,y,z,h,s⟩:=m;simp only[yh] at *;go_wp2_with (at_builtin;refine IY _ rfl _ _ 325 rfl w.heap.size 27 i0 _ 5 40 QH qg oS so sf rfl (by omega) _ L.length (Pc.fl L) rfl ?hown ⟨wr.heap.size+1,0,U⟩ 1 1 (Pc.Ao.mk x y z h s).cs rfl rfl ?hnews (Pc.pX _) ?h63 ?hbytes ?hbase ?_)
   case hown=>exact HO.out.below (((If _ _).alloc (By _) _).alloc (by simp) _)
   case hnews=>(intro j u hj;rw[I4];exact(oY (by simp)).trans (by simpa[Pc.Ao.cs] using hj))
   case h63=>(unfold Il;omega)
   case hbytes=>omega
   case hbase=>(simp;omega)
   intro v' w2 r1 r2 r3;have vh:Hid (Below w.heap.size w w2):=((nE.alloc od _).alloc (by simp;omega) _).grown r2 (by simp;omega) (λj hj=>(HO.out.lt j hj).1);have HOX:Hid (Pc.Own w.heap.size w2 v' (L++[⟨x,y,z,h,s⟩])):=Pc.qC r1;clear r1 r2 r3;go_wp2_with fail;exact⟨⟨k+1,by omega,by go_num,vh.out,by rw[HL2.out,yB.out];exact HOX.out⟩,by simp[intOf];omega⟩
  .have tp:k=n:=by omega
   subst tp;have HFO:Hid (Pc.Own w.heap.size wr u3 (oN ms)):=by
    have h:=HO.out;rw[IJ (by rw[HN.out];exact By _)] at h;exact h
   go_wp2_with fail;go_ret;exact⟨u3,rfl,HFO.out,nE⟩
def oJ(m:Pc.Ao):Pl:=⟨m.x,m.y,m.z,m.h,m.s⟩
theorem agE{w:World}{b off:Nat}{ms:List Pc.Ao}(h:Pc.Row w b off ms):Cz w b off (ms.map oJ):=λk hk=>by
 have hk':k<ms.length:=by simpa using hk
 have e:(ms.map oJ).getD k dp=oJ (ms.getD k Pc.dm):=by simp[Ip,Ih hk']
 obtain⟨h0,h1,h2,h3,h4⟩:=h k hk';rw[e];exact⟨h0,h1,h2,h3,h4⟩
theorem Xp(p:Pl)(a1 a2:Option Addr)(n m c1 c2:Nat)(w:World)(h:100<n\/100<m) :
 Calls AT 288 #[Iu #[O J p.x,O J p.y,O J p.z,O J p.h,O J p.s],sh a1 n c1,sh a2 m c2] w λe w'=>e=Ia (Ir #[sh U 0 0,O J 2])/\Below w.heap.size w w':=by
 have hc:decide (100<(n:Int))=true\/(decide (100<(n:Int))=false/\decide (100<(m:Int))=true):=by
  simp only[decide_eq_true_eq,decide_eq_false_iff_not];omega
 clear h;rcases hc with h1|⟨h1,h2⟩;all_goals
  go_enter func288,ntmps288;go_wp2_with fail;go_ret2;exact⟨rfl,(If _ _).alloc (By _) _⟩
abbrev Pl.v5(p:Pl):List Value:=[O J p.x,O J p.y,O J p.z,O J p.h,O J p.s]
theorem MV{base g c n:Nat}{w:World}{p:Pl}{ms:List Pc.Ao}(hn:ms.length=n)(h:w.ownsRow base 27 5 (sh (AI ⟨g,0,U⟩) (1+n) c) (1+n) (p.v5++Pc.fl ms)):Cz w g 0 (p::ms.map oJ):=by
 have e:p.v5++Pc.fl ms=Pc.fl (⟨p.x,p.y,p.z,p.h,p.s⟩::ms):=by rw[Pc.oq];rfl
 rw[e] at h;have h2:Pc.Own base w (sh (AI ⟨g,0,U⟩) (Pc.Ao.mk p.x p.y p.z p.h p.s::ms).length c) (⟨p.x,p.y,p.z,p.h,p.s⟩::ms):=by
  show Oy _ _ _ _ _ _ _;rw[show(Pc.Ao.mk p.x p.y p.z p.h p.s::ms).length=1+n by rw[Je,hn];omega];exact h
 have h3:Pc.Row w g 0 (⟨p.x,p.y,p.z,p.h,p.s⟩::ms):=λj hj=>by
  have:=Pc.zl h2 j hj;simpa only[I6] using this
 have h4:=agE h3;exact h4
theorem Bz{X:World}{p:Pl}{b base:Nat}(hX:X.heap[b]?=AI (Ib #[O J p.x,O J p.y,O J p.z,O J p.h,O J p.s] 27 (0,0)))(hb:base<=b):X.ownsRow base 27 5 (sh (AI ⟨b,0,U⟩) 1 1) 1 p.v5:=
 ⟨rfl,.inr ⟨b,1,_,rfl,hb,hX,By _,by decide,rfl,rfl⟩⟩
theorem tD{base g n c m s:Nat}{e:Ji}{w:World}{xs:List Value}(h:w.ownsRow base e s (sh (AI ⟨g,0,U⟩) n c) m xs):∀j u,xs[j]?=AI u->w.cell? (Addr.add ⟨g,0,U⟩ j)=AI u:=λj u hj=>by
 have hl:j<xs.length:=(I7.1 hj).1;rw[I4,I6];rcases h.2 with⟨h1,_⟩|⟨g',c',cur,h1,qa,hg,rF,qw,oH,nA⟩
 .cases h1
 .simp only[IM,Jd,Addr.mk.injEq] at h1
  obtain⟨⟨rfl,_,_⟩,_,_⟩:=h1;rw[fi hg,<- hj,<- nA,IQ (by rw[<- h.1];exact hl)];simp
theorem zt{W w3:World}{p:Pl}{H:Nat}(hs:W.heap.size=H)(h:Below (W.alloc (Ib #[O J p.x,O J p.y,O J p.z,O J p.h,O J p.s] 27)).drew.heap.size (W.alloc (Ib #[O J p.x,O J p.y,O J p.z,O J p.h,O J p.s] 27)).drew w3) :
 w3.heap[H]?=AI (Ib #[O J p.x,O J p.y,O J p.z,O J p.h,O J p.s] 27 (0,0)):=by
 rw[h.block H (by simp;omega),<- hs];exact Ii W _
theorem Xq(p:Pl)(ms:List Wh.nZ)(v:Value)(a2:Option Addr)(m c2:Nat)(w:World)(hv:Wh.Sl w v ms)(hn:ms.length<=100)(BA:0<ms.length)(hm:m<=100)(hb:pR (p::(oN ms).map oJ)=3) :
 Calls AT 288 #[Iu #[O J p.x,O J p.y,O J p.z,O J p.h,O J p.s],v,sh a2 m c2] w λe w'=>e=Ia (Ir #[sh U 0 0,O J 3])/\Below w.heap.size w w':=by
 obtain⟨i0,qg,oS,so,sf⟩:=Jc Tryz.Sk;have HV:Hid (Wh.Sl w v ms):=hv;have hpl:(oN ms).length=ms.length:=yA ms;have HP:Hid (∀W,Wh.Sl W v ms->Calls AT 297 #[v] W λe w'=>∃g c,e=Ia (sh (AI ⟨g,0,U⟩) ms.length c)/\Pc.Own W.heap.size w' (sh (AI ⟨g,0,U⟩) ms.length c) (oN ms)/\Below W.heap.size W w'):=λW h=>by
  refine(E9 ms v W h hn).mono ?_;rintro e w' ⟨v',rfl,ho,nE⟩;obtain⟨g,c,yq⟩:=Pc.wV ho 0 (by omega);subst yq;rw[hpl] at ho;exact⟨g,c,by rw[hpl],ho,nE⟩
 have HK:Hid (∀g c W,Cz W g 0 (p::(oN ms).map oJ)->Calls AT 296 #[sh (AI ⟨g,0,U⟩) (1+ms.length) c] W λe w'=>e=Ia (O J 3)/\Below W.heap.size W w'):=λg c W h=>by
  have h2:=uk (p::(oN ms).map oJ) g 0 (1+ms.length) c W (by simp[hpl];omega) h (by omega);rw[hb] at h2;exact h2
 obtain⟨pa,ca,yq,_,_⟩:=hv;subst yq;have h1:decide (100<(ms.length:Int))=false:=by simp;omega
 have h2:decide (100<(m:Int))=false:=by simp;omega
 clear hb;generalize Ap:ms.length=n at *;have HN:Hid (ms.length=n):=Ap;clear Ap;have Xr:Hid ((oN ms).length=n):=hpl;clear hpl;go_enter func288,ntmps288;go_wp2_with fail;obtain⟨W,hW⟩:∃W,W=w.alloc (Ib #[O J p.x,O J p.y,O J p.z,O J p.h,O J p.s] 27):=⟨_,rfl⟩;rw[<- hW];have rj:Below w.heap.size w W:=by rw[hW];exact(If _ _).alloc (By _) _
 have wY:W.heap[w.heap.size]?=AI (Ib #[O J p.x,O J p.y,O J p.z,O J p.h,O J p.s] 27 (0,0)):=by rw[hW];exact Ii w _
 have CB:W.heap.size=w.heap.size+1:=by rw[hW];simp
 have n0:W.cell? ⟨w.heap.size,0,U⟩=AI (O J p.x):=fi wY 0;have n1:W.cell? ⟨w.heap.size,1,U⟩=AI (O J p.y):=fi wY 1;have n2:W.cell? ⟨w.heap.size,2,U⟩=AI (O J p.z):=fi wY 2;have n3:W.cell? ⟨w.heap.size,3,U⟩=AI (O J p.h):=fi wY 3;have n4:W.cell? ⟨w.heap.size,4,U⟩=AI (O J p.s):=fi wY 4;have HVW:Hid (∀W',Below W.heap.size W W'->Wh.Sl W' (sh pa n ca) ms):=λW' h=>(HV.out.below rj).below h;have rW:Hid (Below w.heap.size w W):=rj;have e0:=Jn W _ n0;have e1:=Jn W _ n1;have e2:=Jn W _ n2;have e3:=Jn W _ n3;have e4:=Jn W _ n4;clear wY hW rj;have h63:1+n<=Il:=by unfold Il;omega
 have VU:(1+n)*40<=140737488355328:=by omega
 have uU:(Pc.fl (oN ms)).length=n*5:=by rw[Pc.pD,Xr.out]
 have hav:(Value.slice (AI ⟨w.heap.size+1,0,U⟩) 1 1).ownBlock≠AI w.heap.size:=λh=>by simp[Jb] at h
 go_region_held3 (λw'=>w'.cell? ⟨w.heap.size,0,U⟩=AI (O J p.x)/\w'.cell? ⟨w.heap.size,1,U⟩=AI (O J p.y)/\w'.cell? ⟨w.heap.size,2,U⟩=AI (O J p.z)/\w'.cell? ⟨w.heap.size,3,U⟩=AI (O J p.h)/\w'.cell? ⟨w.heap.size,4,U⟩=AI (O J p.s))
  (first
    |go_keep
    |(go_split_ands
      refine⟨?_,?_,?_,?_,?_⟩;all_goals ((rw[sZ.cell (by show w.heap.size<_;have h8:=oB.size;have h9:=nC.size;simp at h8 h9;omega)];assumption)))
    |(go_split_ands
      refine⟨?_,?_,?_,?_,?_⟩;all_goals ((rw[oB.cell_far _ (by show w.heap.size<_;have:=nC.size;simp at this ⊢;omega) (Ne.symm hav)];assumption)))
    |(go_split_ands
      refine⟨?_,?_,?_,?_,?_⟩;all_goals ((rw[oB.cell_far _ (by show w.heap.size<_;have:=nC.size;simp at this ⊢;omega) (by simp[Jb];have:=nC.size;simp at this;omega)];assumption)))
    |(go_split_ands
      refine⟨?_,?_,?_,?_,?_⟩;all_goals ((rw[nC.cell (by simp;omega)];first|assumption|simp[*])))
    )
  (first
    |(go_at_call 297;refine(HP.out _ (HVW.out _ ?_)).mono ?_;(focus (repeat(first|exact If _ _|refine Below.drew ?_|refine Below.alloc ?_ (by simp) _)));rintro e w3 ⟨g,c,rfl,AR,nC⟩)
    |(go_at_call 296;refine(HK.out _ _ _ (MV Xr.out uP)).mono ?_;rintro e w6 ⟨rfl,sZ⟩)
    |(refine Qm _ (by rfl) _ _ _ (by rfl) w.heap.size 27 i0 _ 5 40 QH qg oS so sf rfl (by omega) (sh (AI ⟨w.heap.size+1,0,U⟩) 1 1) 1 p.v5 (by rfl) (Bz (zt CB nC) (by omega)) ⟨g,0,U⟩ n c (Pc.fl (oN ms)) (by rfl) uU (tD AR) (Pc.tA _) BA h63 VU (by have:=nC.size;simp at this;omega) _ rfl ?_
      intro gg cap w5 uP oB qi mS)
    |(refine Qm _ (by rfl) _ _ _ (by rfl) w.heap.size 27 i0 _ 5 40 QH qg oS so sf rfl (by omega) (sh (AI ⟨w3.heap.size,0,U⟩) 1 1) 1 p.v5 (by rfl) (Bz (Ii w3 _) (by have:=nC.size;simp at this;omega)) ⟨g,0,U⟩ n c (Pc.fl (oN ms)) (by rfl) uU (tD (AR.below ((If _ _).alloc (By _) _))) (Pc.tA _) BA h63 VU (by have:=nC.size;simp at this ⊢;omega) _ rfl ?_
      intro gg cap w5 uP oB qi mS))
 all_goals
  have tq:Hid (Below w.heap.size w w6):=by
   first
    |exact((((rW.out.alloc (by omega) _).drew.trans (nC.mono (by simp;omega))).grown oB (by have:=nC.size;simp at this;omega) (λj hj=>by simp[Jb] at hj;omega))).trans (sZ.mono (by have h8:=oB.size;have h9:=nC.size;simp at h8 h9;omega))
    |exact(((rW.out.drew.trans (nC.mono (by simp;omega))).alloc (by have:=nC.size;simp at this;omega) _).grown oB (by have:=nC.size;simp at this ⊢;omega) (λj hj=>by simp[Jb] at hj;have:=nC.size;simp at this;omega)).trans (sZ.mono (by have h8:=oB.size;have h9:=nC.size;simp at h8 h9;omega))
  clear sZ oB uP qi mS nC AR hav;go_wp2_with fail;go_ret2;exact⟨rfl,tq.out⟩
theorem Dk(a:Option Addr)(c:Nat)(w:World) :
 Calls AT 297 #[sh a 0 c] w λe w'=>e=Ia (sh U 0 0)/\w'=w:=by
 go_enter func297,ntmps297;go_wp2_with fail;go_loopw [3,8] (λo i w'=>o=sh U 0 0/\i=O J 0/\w'=w) (λ_ _ _=>0)
 case atStart=>exact⟨rfl,rfl,rfl⟩
 case round=>
  obtain⟨rfl,rfl,hw⟩:=hrel;subst hw;go_wp2_with fail;go_ret;exact⟨rfl,rfl⟩
theorem zu{X:World}{p:Pl}{b:Nat}(hX:X.heap[b]?=AI (Ib #[O J p.x,O J p.y,O J p.z,O J p.h,O J p.s] 27 (0,0))):Cz X b 0 [p]:=λk hk=>by
 have:k=0:=by simpa using hk
 subst this;exact⟨fi hX 0,fi hX 1,fi hX 2,fi hX 3,fi hX 4⟩
theorem Xs(p:Pl)(a1 a2:Option Addr)(m c1 c2:Nat)(w:World)(hm:m<=100)(hb:pR [p]=3) :
 Calls AT 288 #[Iu #[O J p.x,O J p.y,O J p.z,O J p.h,O J p.s],sh a1 0 c1,sh a2 m c2] w λe w'=>e=Ia (Ir #[sh U 0 0,O J 3])/\Below w.heap.size w w':=by
 have HP:Hid (∀W,Calls AT 297 #[sh a1 0 c1] W λe w'=>e=Ia (sh U 0 0)/\Below W.heap.size W w'):=λW=>by
  refine(Dk a1 c1 W).mono ?_;rintro e w' ⟨rfl,rfl⟩;exact⟨rfl,If _ _⟩
 have HK:Hid (∀g W,Cz W g 0 [p]->Calls AT 296 #[sh (AI ⟨g,0,U⟩) 1 1] W λe w'=>e=Ia (O J 3)/\Below W.heap.size W w'):=λg W h=>by
  have h2:=uk [p] g 0 1 1 W rfl h (by omega);rw[hb] at h2;exact h2
 have h2:decide (100<(m:Int))=false:=by simp;omega
 clear hb;go_enter func288,ntmps288;go_wp2_with fail;obtain⟨W,hW⟩:∃W,W=w.alloc (Ib #[O J p.x,O J p.y,O J p.z,O J p.h,O J p.s] 27):=⟨_,rfl⟩;rw[<- hW];have rj:Below w.heap.size w W:=by rw[hW];exact(If _ _).alloc (By _) _
 have wY:W.heap[w.heap.size]?=AI (Ib #[O J p.x,O J p.y,O J p.z,O J p.h,O J p.s] 27 (0,0)):=by rw[hW];exact Ii w _
 have CB:W.heap.size=w.heap.size+1:=by rw[hW];simp
 have n0:W.cell? ⟨w.heap.size,0,U⟩=AI (O J p.x):=fi wY 0;have n1:W.cell? ⟨w.heap.size,1,U⟩=AI (O J p.y):=fi wY 1;have n2:W.cell? ⟨w.heap.size,2,U⟩=AI (O J p.z):=fi wY 2;have n3:W.cell? ⟨w.heap.size,3,U⟩=AI (O J p.h):=fi wY 3;have n4:W.cell? ⟨w.heap.size,4,U⟩=AI (O J p.s):=fi wY 4;have rW:Hid (Below w.heap.size w W):=rj;have e0:=Jn W _ n0;have e1:=Jn W _ n1;have e2:=Jn W _ n2;have e3:=Jn W _ n3;have e4:=Jn W _ n4;clear wY hW rj;go_region_held3 (λw'=>w'.cell? ⟨w.heap.size,0,U⟩=AI (O J p.x)/\w'.cell? ⟨w.heap.size,1,U⟩=AI (O J p.y)/\w'.cell? ⟨w.heap.size,2,U⟩=AI (O J p.z)/\w'.cell? ⟨w.heap.size,3,U⟩=AI (O J p.h)/\w'.cell? ⟨w.heap.size,4,U⟩=AI (O J p.s))
  (first
    |go_keep
    |(go_split_ands
      refine⟨?_,?_,?_,?_,?_⟩;all_goals ((rw[sZ.cell (by show w.heap.size<_;have h9:=nC.size;simp at h9 ⊢;omega)];first|assumption|simp[*])))
    |(go_split_ands
      refine⟨?_,?_,?_,?_,?_⟩;all_goals ((rw[nC.cell (by simp;omega)];first|assumption|simp[*])))
    )
  (first
    |(go_at_call 297;refine(HP.out _).mono ?_;rintro e w3 ⟨rfl,nC⟩)
    |(go_at_call 296;refine(HK.out _ _ (zu (zt CB nC))).mono ?_;rintro e w6 ⟨rfl,sZ⟩)
    |(go_at_call 296;refine(HK.out _ _ (zu (Ii w3 _))).mono ?_;rintro e w6 ⟨rfl,sZ⟩))
 all_goals
  have tq:Hid (Below w.heap.size w w6):=by
   first
    |exact((rW.out.alloc (by omega) _).drew.trans (nC.mono (by simp;omega))).trans (sZ.mono (by have h9:=nC.size;simp at h9;omega))
    |exact((rW.out.drew.trans (nC.mono (by simp;omega))).alloc (by have:=nC.size;simp at this;omega) _).trans (sZ.mono (by have h9:=nC.size;simp at h9 ⊢;omega))
  clear sZ nC;go_wp2_with fail;go_ret2;exact⟨rfl,tq.out⟩
end Go.Proofs.YtipbebleapjcjaaGreatDoor
namespace Go.Proofs.YtipbebleapjcjaaGreatDoor
open Go.RowKit Go.WideMaps Go.Maps
def wZ(f:Wh.nZ->Int)(ms:List Wh.nZ)(s:ByteArray):Option Int:=(ms.find? λm=>decide (m.node=s)).map f
theorem Xt(f:Wh.nZ->Int)(l:List Wh.nZ)(m:Wh.nZ)(s:ByteArray):wZ f (l++[m]) s=if(wZ f l s).isSome=true then wZ f l s else if m.node=s then AI (f m) else U:=by
 unfold wZ;rw[List.find?_append];cases h:l.find? (λm=>decide (m.node=s)) with
 |some x=>simp
 |none=>
  by_cases hm:m.node=s
  .simp[hm]
  .simp[hm]
theorem acC{f:Wh.nZ->Int}{ms:List Wh.nZ}{s:ByteArray}{d:Int}(h:wZ f ms s=AI d):∃m∈ms,m.node=s/\f m=d:=by
 unfold wZ at h;cases hf:ms.find? (λm=>decide (m.node=s)) with
 |none=>rw[hf] at h;cases h
 |some m=>
  rw[hf] at h;simp only[Option.map_some,Jd] at h;have:=List.find?_some hf;exact⟨m,List.mem_of_find?_eq_some hf,by simpa using this,h⟩
def Dd(f:Wh.nZ->Int)(ms:List Wh.nZ):Nat->DataW Unit
 |0=>.map []
 |k+1=>if OG (Dd f ms k) (kS (ms.getD k Wh.dm).node)=true then Dd f ms k else(Dd f ms k).put (kS (ms.getD k Wh.dm).node) (.lit (.int J (f (ms.getD k Wh.dm))))
theorem Em(f:Wh.nZ->Int)(ms:List Wh.nZ):∀k,Tidy (Dd f ms k)
 |0=>tidy_empty
 |k+1=>by
  rw[Dd];split
  .exact Em f ms k
  .exact(Em f ms k).put (vt _) _
theorem aiS(f:Wh.nZ->Int)(ms:List Wh.nZ)(s:ByteArray)(z:DataW Unit):∀k,k<=ms.length->OG (Dd f ms k) (kS s)=(wZ f (ms.take k) s).isSome/\(∀d,wZ f (ms.take k) s=AI d->(Dd f ms k).atKey (kS s) z=.lit (.int J d))
 |0,_=>by simp[Dd,OG,wZ]
 |k+1,hk=>by
  have hk':k<ms.length:=by omega
  obtain⟨h1,h2⟩:=aiS f ms s z k (by omega);have e:ms.take (k+1)=ms.take k++[ms.getD k Wh.dm]:=by
   rw[Iz hk'];simp[Ip,Ih hk']
  rw[e,Xt,Dd];by_cases hn:(ms.getD k Wh.dm).node=s
  .rw[hn]
   by_cases hh:(wZ f (ms.take k) s).isSome=true
   .rw[h1,if_pos hh,if_pos hh]
    exact⟨h1,h2⟩
   .rw[h1,if_neg hh,if_neg hh,if_pos rfl]
    refine⟨by rw[has_put_same (Em f ms k).isMap (vt _)];rfl,λd hd=>?_⟩;rw[atKey_put_same (Em f ms k).isMap (vt _)];simp only[Jd] at hd;rw[hd]
  .have hc:(if(wZ f (ms.take k) s).isSome=true then wZ f (ms.take k) s else if(ms.getD k Wh.dm).node=s then AI (f (ms.getD k Wh.dm)) else U)=wZ f (ms.take k) s:=by
    rw[if_neg hn];cases wZ f (ms.take k) s<;>simp
   rw[hc];split
   .exact⟨h1,h2⟩
   .rw[has_put_other (Dg (λe=>hn e.symm))]
    refine⟨h1,λd hd=>?_⟩;rw[atKey_put_other (Dg (λe=>hn e.symm))];exact h2 d hd
theorem aiT:Keyed AT 9:=string_keyed IF
theorem agF(w:World):(zeroValue 3).run AT w=.ok (O J 0) w:=by kernel_rfl
theorem CC(n:Int)(w:World):(Instr.makeMap 164 (AI (O J n))).run AT w=.ok (.map (AI w.heap.size)) (w.alloc (.map #[] 0)):=by
 have h:=Qo JQ;simp[Instr.makeMap,h,asInt,newObj];rfl
theorem Hy{w:World}{b n:Nat}{D:DataW Unit}(h:w.ownsMap AT 9 (JK (H:=Unit) AT 3) b n D){s:ByteArray}(hs:s.size<=Il) :
 ∃c:Int,(Instr.lookup 164 (.map (AI b)) (I s) true).run AT w=.ok (Ir #[O J c,Ic (OG D (kS s))]) w/\D.atKey (kS s) (.lit (.int J 0))=.lit (.int J c):=by
 obtain⟨v,ps,tP,hv⟩:=h.look_ok aiT JQ (agF _) (plainElem_int IH (by decide)) (keyOf_string_mk IF hs);obtain⟨c,rfl,hc,_⟩:=plainElem_int_inv IH hv;exact⟨c,tP,congrArg Prod.fst hc⟩
def qR(p:Pl)(m:Wh.nZ):Int:=K6 p (oJ (yh m))
theorem VV{p:Pl}{m:Wh.nZ}(hp:zj p)(hm:zj (oJ (yh m))):0<=qR p m/\qR p m<=1000000000:=by
 obtain⟨h1,h2⟩:=CA hp hm;have h3:qR p m=sq p (oJ (yh m))+p.h+(oJ (yh m)).h:=rfl;have h4:=hp.h0;have h5:=hp.h1;have h6:=hm.h0;have h7:=hm.h1;omega
theorem aoj{d:Int}(h0 : -9223372036854775808<=d)(h1:d<=9223372036854775807):(Lit.int .i64 d).wf=true:=by
 show(decide (IntKind.i64.min<=d)&&decide (d<=IntKind.i64.max))=true;rw[IP,decide_eq_true_eq,decide_eq_true_eq];exact⟨h0,h1⟩
theorem zv{w w':World}{b n:Nat}{D:DataW Unit}(h:w.ownsMap AT 9 (JK (H:=Unit) AT 3) b n D)(hb:Below w.heap.size w w'):w'.ownsMap AT 9 (JK (H:=Unit) AT 3) b n D:=by
 have hl:=h.lt;obtain⟨es,clock,h1,h2⟩:=h;exact⟨es,clock,(hb.block b hl).trans h1,h2⟩
theorem GK(p:Pl)(ms:List Wh.nZ)(v:Value)(w:World)(hv:Wh.Sl w v ms)(hn:ms.length<=100)(hp:zj p)(tR:∀j,j<ms.length->zj (oJ (yh (ms.getD j Wh.dm)))) :
 Calls AT 298 #[Iu #[O J p.x,O J p.y,O J p.z,O J p.h,O J p.s],v] w λe w'=>∃g,e=Ia (.map (AI g))/\w'.ownsMap AT 9 (JK (H:=Unit) AT 3) g ms.length (Dd (qR p) ms ms.length)/\w.heap.size<=g/\g<w'.heap.size/\Below w.heap.size w w':=by
 obtain⟨pa,ca,rfl,od,ha⟩:=hv;have HA:Hid _:=ha;have HS:Hid _:=od;have xY:Hid _:=tR;have HPO:Hid _:=hp;clear ha od tR hp;generalize hN:ms.length=n at *;have HN:Hid _:=hN;clear hN;have yr:=CC;go_enter func298,ntmps298;go_wp2_with fail;have wY:((w.alloc (Ib #[O J p.x,O J p.y,O J p.z,O J p.h,O J p.s] 27)).alloc (.map #[] 0)).heap[w.heap.size]?=AI (Ib #[O J p.x,O J p.y,O J p.z,O J p.h,O J p.s] 27 (0,0)):=by
  rw[Iv _ _ _ (by simp)];exact Ii w _
 have rW:Hid (Below w.heap.size w ((w.alloc (Ib #[O J p.x,O J p.y,O J p.z,O J p.h,O J p.s] 27)).alloc (.map #[] 0))):=((If _ _).alloc (By _) _).alloc (by simp) _;have Rh:Hid (((w.alloc (Ib #[O J p.x,O J p.y,O J p.z,O J p.h,O J p.s] 27)).alloc (.map #[] 0)).ownsMap AT 9 (JK (H:=Unit) AT 3) (w.heap.size+1) 0 (.map [])):=by
  have h:=World.ownsMap_made (w.alloc (Ib #[O J p.x,O J p.y,O J p.z,O J p.h,O J p.s] 27)) AT 9 (JK (H:=Unit) AT 3);rw[show(w.alloc (Ib #[O J p.x,O J p.y,O J p.z,O J p.h,O J p.s] 27)).heap.size=w.heap.size+1 by simp] at h;exact h
 generalize(w.alloc (Ib #[O J p.x,O J p.y,O J p.z,O J p.h,O J p.s] 27)).alloc (.map #[] 0)=W at *;go_loopw [15] (λi wr=>∃k:Nat,k<=n/\i=O J k/\Hid (wr.ownsMap AT 9 (JK (H:=Unit) AT 3) (w.heap.size+1) k (Dd (qR p) ms k))/\Hid (Below w.heap.size w wr)/\Hid (wr.heap[w.heap.size]?=AI (Ib #[O J p.x,O J p.y,O J p.z,O J p.h,O J p.s] 27 (0,0)))) (λi _=>n-(intOf i).toNat)
 case atStart=>exact⟨0,Iw _,rfl,Rh,rW,wY⟩
 case round=>
  obtain⟨k,hk,rfl,HO,HB,HG⟩:=hrel;have hlm:=HO.out.lt;by_cases mS:k<n
  .obtain⟨b,off,tr,o8,hr⟩:∃b off,pa=AI ⟨b,off,U⟩/\b<w.heap.size/\Wh.Row w b off ms:=by
    rcases HA.out with h|h
    .have:=HN.out;rw[h] at this;simp at this;omega
    .exact h
   subst tr;obtain⟨c0,c1,c2,c3,c4,c5⟩:=hr.later HB.out o8 k (by rw[HN.out];exact mS);have od:=HS.out k;have Sm:keyOf AT 9 (I (ms.getD k Wh.dm).node)=AI (kS (ms.getD k Wh.dm).node):=keyOf_string_mk IF od;obtain⟨lc,hlk,_⟩:=Hy (HO.out.alloc (Ib #[I (ms.getD k Wh.dm).node,O J (ms.getD k Wh.dm).x,O J (ms.getD k Wh.dm).y,O J (ms.getD k Wh.dm).z,O J (ms.getD k Wh.dm).h,O J (ms.getD k Wh.dm).s] 97)) od;have HOM:Hid (zj (oJ (yh (ms.getD k Wh.dm)))):=xY.out k mS;have K7:Hid (Dd (qR p) ms (k+1)=if OG (Dd (qR p) ms k) (kS (ms.getD k Wh.dm).node)=true then Dd (qR p) ms k else(Dd (qR p) ms k).put (kS (ms.getD k Wh.dm).node) (.lit (.int J (qR p (ms.getD k Wh.dm))))):=rfl;generalize hD2:Dd (qR p) ms (k+1)=D2 at *;have xK:Hid (Dd (qR p) ms (k+1)=D2):=hD2;clear hD2 hr;generalize Dd (qR p) ms k=D at *;generalize ms.getD k Wh.dm=m at *;rcases hhas:OG D (kS m.node) with _|_
   .rw[hhas] at hlk
    have HDP:Hid (D2=D.put (kS m.node) (.lit (.int J (qR p m)))):=by have h:=K7.out;rw[hhas] at h;exact h
    clear K7;have atO:Hid (∀W,Calls AT 307 #[Iu #[O J p.x,O J p.y,O J p.z,O J p.h,O J p.s],Iu #[O J m.x,O J m.y,O J m.z,O J m.h,O J m.s]] W λe w'=>e=Ia (O J (qR p m))/\Below W.heap.size W w'):=λW=>agD p (oJ (yh m)) W HPO.out HOM.out;have hfb:=VV HPO.out HOM.out;have HEL:Hid (JK (H:=Unit) AT 3 (O J (qR p m))=AI (.lit (.int J (qR p m)),[])):=plainElem_int IH (aoj (by omega) (by omega));generalize qR p m=fd at *;obtain⟨nd,x,y,z,h,s⟩:=m;simp only at *;go_wp2_with fail;obtain⟨X,hX⟩:∃X,X=wr.alloc (Ib #[I nd,O J x,O J y,O J z,O J h,O J s] 97):=⟨_,rfl⟩;rw[<- hX];have hbX:Below wr.heap.size wr X:=by rw[hX];exact(If _ _).alloc (By _) _
    have rX:X.heap[wr.heap.size]?=AI (Ib #[I nd,O J x,O J y,O J z,O J h,O J s] 97 (0,0)):=by rw[hX];exact Ii wr _
    have hsX:X.heap.size=wr.heap.size+1:=by rw[hX];simp
    have hgf:X.heap[w.heap.size]?=AI (Ib #[O J p.x,O J p.y,O J p.z,O J p.h,O J p.s] 27 (0,0)):=(hbX.block _ (by omega)).trans HG.out;have HOX:Hid (X.ownsMap AT 9 (JK (H:=Unit) AT 3) (w.heap.size+1) k D):=zv HO.out hbX;have vh:Hid (Below w.heap.size w X):=HB.out.trans (hbX.mono HB.out.size);have f0:X.cell? ⟨w.heap.size,0,U⟩=AI (O J p.x):=fi hgf 0;have f1:X.cell? ⟨w.heap.size,1,U⟩=AI (O J p.y):=fi hgf 1;have f2:X.cell? ⟨w.heap.size,2,U⟩=AI (O J p.z):=fi hgf 2;have f3:X.cell? ⟨w.heap.size,3,U⟩=AI (O J p.h):=fi hgf 3;have f4:X.cell? ⟨w.heap.size,4,U⟩=AI (O J p.s):=fi hgf 4;have q0:X.cell? ⟨wr.heap.size,0,U⟩=AI (I nd):=fi rX 0;have q1:X.cell? ⟨wr.heap.size,1,U⟩=AI (O J x):=fi rX 1;have q2:X.cell? ⟨wr.heap.size,2,U⟩=AI (O J y):=fi rX 2;have q3:X.cell? ⟨wr.heap.size,3,U⟩=AI (O J z):=fi rX 3;have q4:X.cell? ⟨wr.heap.size,4,U⟩=AI (O J h):=fi rX 4;have q5:X.cell? ⟨wr.heap.size,5,U⟩=AI (O J s):=fi rX 5;have HGF:Hid (X.heap[w.heap.size]?=AI (Ib #[O J p.x,O J p.y,O J p.z,O J p.h,O J p.s] 27 (0,0))):=hgf;have K8:k<Il:=by unfold Il;omega
    clear hX hbX rX hgf HG HO;go_region_held3 (λw'=>w'.cell? ⟨w.heap.size,0,U⟩=AI (O J p.x)/\w'.cell? ⟨w.heap.size,1,U⟩=AI (O J p.y)/\w'.cell? ⟨w.heap.size,2,U⟩=AI (O J p.z)/\w'.cell? ⟨w.heap.size,3,U⟩=AI (O J p.h)/\w'.cell? ⟨w.heap.size,4,U⟩=AI (O J p.s)/\w'.cell? ⟨wr.heap.size,0,U⟩=AI (I nd)/\w'.cell? ⟨wr.heap.size,1,U⟩=AI (O J x)/\w'.cell? ⟨wr.heap.size,2,U⟩=AI (O J y)/\w'.cell? ⟨wr.heap.size,3,U⟩=AI (O J z)/\w'.cell? ⟨wr.heap.size,4,U⟩=AI (O J h)/\w'.cell? ⟨wr.heap.size,5,U⟩=AI (O J s))
     (first
       |go_keep
       |(go_split_ands
         refine⟨?_,?_,?_,?_,?_,?_,?_,?_,?_,?_,?_⟩;all_goals ((rw[qD.cell_far _ (by first|(show w.heap.size<_;have h9:=Dl.size;simp at h9;omega)|(show wr.heap.size<_;have h9:=Dl.size;simp at h9;omega)) (by intro e;have e2:=Jq e;first|omega|(simp only at e2;omega))];assumption)))
       |(go_split_ands
         refine⟨?_,?_,?_,?_,?_,?_,?_,?_,?_,?_,?_⟩;all_goals ((rw[Dl.cell (by first|(show w.heap.size<_;simp;omega)|(show wr.heap.size<_;simp;omega))];first|assumption|simp[*]))))
     (first
       |(go_at_call 307;refine(atO.out _).mono ?_;rintro e w8 ⟨rfl,Dl⟩;obtain⟨w9,aok,vZ,qD⟩:=(zv (show X.drew.ownsMap _ _ _ _ _ _ from HOX.out.drew) Dl).update aiT JQ K8 Sm HEL.out))
    have h8s:X.heap.size<=w8.heap.size:=by have h9:=Dl.size;simpa using h9
    have uy:Hid _:=(vh.out.drew.trans (Dl.mono (by simp;omega))).grown qD (by omega) (λj hj=>by cases hj;omega);have HG9:Hid (w9.heap[w.heap.size]?=AI (Ib #[O J p.x,O J p.y,O J p.z,O J p.h,O J p.s] 27 (0,0))):=by
     have h1:=qD.block w.heap.size (by omega) (by intro e;have e2:=Jq e;omega);have h2:=Dl.block w.heap.size (by simp;omega);exact h1.trans (h2.trans HGF.out)
    have HO9:Hid (w9.ownsMap _ _ _ _ _ _):=vZ;clear Dl aok vZ qD;go_wp2_with fail;exact⟨⟨k+1,by omega,by go_num,by rw[xK.out,HDP.out];exact HO9.out,uy,HG9⟩,by simp[intOf];omega⟩
   .rw[hhas] at hlk
    have HDP:Hid (D2=D):=by have h:=K7.out;rw[hhas] at h;exact h
    clear K7;obtain⟨nd,x,y,z,h,s⟩:=m;simp only at *;go_wp2_with fail;have hba:Below wr.heap.size wr (wr.alloc (Ib #[I nd,O J x,O J y,O J z,O J h,O J s] 97)):=(If _ _).alloc (By _) _;exact⟨⟨k+1,by omega,by go_num,by rw[xK.out,HDP.out];exact(HO.out.alloc _).mono (by omega),HB.out.alloc HB.out.size _,(hba.block _ (by omega)).trans HG.out⟩,by simp[intOf];omega⟩
  .have tp:k=n:=by omega
   subst tp;go_wp2_with fail;go_ret;exact⟨_,rfl,HO.out,by omega,hlm,HB.out⟩
def Fa(a b:Int):Int:=if a<b then -1 else if b<a then 1 else 0
theorem GL(a b:Int)(w:World) :
 Calls AT 210 #[O J a,O J b] w λe w'=>e=Ia (O J (Fa a b))/\w'=w:=by
 go_enter func210,ntmps210;go_wp2;all_goals
  go_ret;exact⟨mN (by unfold Fa;(repeat' split)<;>omega),rfl⟩
def acE(a b:Int):Int:=if a=0 then b else a
theorem agH(a b:Int)(g:Nat)(c:Nat)(w:World)(h0:w.cell? ⟨g,0,U⟩=AI (O J a))(h1:w.cell? ⟨g,1,U⟩=AI (O J b)) :
 Calls AT 165 #[sh (AI ⟨g,0,U⟩) 2 c] w λe w'=>e=Ia (O J (acE a b))/\w'=w:=by
 by_cases ha:a=0
 .subst ha
  by_cases hb:b=0
  .subst hb
   go_enter Qz,Qg;go_wp2_with fail;refine J2 3 ?_;rw[JF];go_wp2_with fail;rw[JF];go_wp2_with fail;rw[JF];go_wp2_with fail;go_ret;exact⟨rfl,rfl⟩
  .have hb':(b !=0)=true:=by simpa using hb
   go_enter Qz,Qg;go_wp2_with fail;refine J2 3 ?_;rw[JF];go_wp2_with fail;rw[JF];go_wp2_with fail;go_ret;exact⟨rfl,rfl⟩
 .have ha':(a !=0)=true:=by simpa using ha
  go_enter Qz,Qg;go_wp2_with fail;refine J2 3 ?_;rw[JF];go_wp2_with fail;go_ret;exact⟨mN (by unfold acE;rw[if_neg ha]),rfl⟩
def dV(D:DataW Unit)(s:ByteArray):Int:=if OG D (kS s)=true then(match D.atKey (kS s) (.lit (.int J 0)) with | .lit (.int _ c)=>c|_=>0) else 9223372036854775807
theorem aol(f:Wh.nZ->Int)(ms:List Wh.nZ)(s:ByteArray):dV (Dd f ms ms.length) s=(wZ f ms s).getD 9223372036854775807:=by
 obtain⟨h1,h2⟩:=aiS f ms s (.lit (.int J 0)) ms.length (By _);rw[JU] at h1 h2;unfold dV;rw[h1];cases hd:wZ f ms s with
 |none=>rfl
 |some d=>rw[h2 d hd];rfl
theorem acF(s:ByteArray)(kb g n:Nat)(D:DataW Unit)(w:World)(hs:s.size<=Il)(hk:w.cell? ⟨kb,0,U⟩=AI (.map (AI g)))(hm:w.ownsMap AT 9 (JK (H:=Unit) AT 3) g n D) :
 Calls AT 299 #[I s,Ik (AI ⟨kb,0,U⟩)] w λe w'=>e=Ia (O J (dV D s))/\w'=w:=by
 obtain⟨c,hl,hc⟩:=Hy hm hs;have HV:Hid (dV D s=if OG D (kS s)=true then c else 9223372036854775807):=by
  show dV D s=_;unfold dV;rw[hc]
 clear hc hm;rcases hh:OG D (kS s) with _|_
 .rw[hh] at hl
  have HV2:Hid (dV D s=9223372036854775807):=by have h:=HV.out;rw[hh] at h;exact h
  clear HV;go_enter func299,ntmps299;go_wp2_with fail;go_ret;exact⟨mN HV2.out.symm,rfl⟩
 .rw[hh] at hl
  have HV2:Hid (dV D s=c):=by have h:=HV.out;rw[hh] at h;exact h
  clear HV;go_enter func299,ntmps299;go_wp2_with fail;go_ret;exact⟨mN HV2.out.symm,rfl⟩
theorem acG(a b:ByteArray)(db kb g n:Nat)(D:DataW Unit)(w:World)(ha:a.size<=Il)(hb:b.size<=Il)(hd:w.cell? ⟨db,0,U⟩=AI (JD (.func 299) #[] #[Ik (AI ⟨kb,0,U⟩)]))(hk:w.cell? ⟨kb,0,U⟩=AI (.map (AI g)))(hm:w.ownsMap AT 9 (JK (H:=Unit) AT 3) g n D) :
 Calls AT 302 #[I a,I b,Ik (AI ⟨db,0,U⟩)] w λe w'=>e=Ia (O J (acE (Fa (dV D a) (dV D b)) (oh a b)))/\w'=(w.alloc (Ib #[O J (Fa (dV D a) (dV D b)),O J (oh a b)] 3)).drew:=by
 have HD:Hid (∀s:ByteArray,(s=a\/s=b)->∀W:World,W.heap=w.heap->Calls AT 299 #[I s,Ik (AI ⟨kb,0,U⟩)] W λe w'=>e=Ia (O J (dV D s))/\w'=W):=λs hs W hW=>by
  have od:s.size<=Il:=by rcases hs with rfl|rfl<;>assumption
  refine acF s kb g n D W od ?_ ?_
  .rw[<- hk];unfold World.cell?;rw[hW]
  .obtain⟨es,cl,h1,h2⟩:=hm
   exact⟨es,cl,by rw[hW];exact h1,h2⟩
 have h1:=Jn w _ hd;clear hm hk;go_enter func302,ntmps302;go_wp2_with fail;go_region_held3 (λw'=>w'.cell? ⟨db,0,U⟩=AI (JD (.func 299) #[] #[Ik (AI ⟨kb,0,U⟩)])) (go_keep) (first|(go_at_call 299;refine(HD.out _ ?_ _ ?_).mono ?_;(focus simp);(focus rfl);rintro e w' ⟨rfl,rfl⟩)|(go_at_call 210;refine(GL _ _ _).mono ?_;rintro e w' ⟨rfl,rfl⟩)|(go_at_call 104;refine(sV _ _ _).mono ?_;rintro e w' ⟨rfl,rfl⟩)|(go_at_call 165;refine(agH (Fa (dV D a) (dV D b)) (oh a b) _ _ _ (oY rfl) (oY rfl)).mono ?_;rintro e w' ⟨rfl,rfl⟩))
 go_wp2_with fail;go_ret;exact⟨rfl,rfl⟩
end Go.Proofs.YtipbebleapjcjaaGreatDoor
namespace Go.Proofs.YtipbebleapjcjaaGreatDoor
open Go.RowKit
theorem Tryz.AU:(Tryz.prog.info? 9).map (λi=>(i.zero,i.size,i.bytes))=AI (AI (I ⟨#[]⟩),1,16):=by kernel_rfl
abbrev nD(base:Nat)(w:World)(v:Value)(l:List ByteArray):Prop:=w.ownsRow base 9 1 v l.length (l.map I)
theorem tW(base:Nat)(w:World):nD base w (sh U 0 0) []:=Jz w base 9 1
theorem nD.below{base:Nat}{w w':World}{v:Value}{l:List ByteArray}(h:nD base w v l)(hb:Below w.heap.size w w'):nD base w' v l:=by
 rcases h.2 with⟨rfl,h0⟩|⟨g,c,cur,rfl,qa,hg,rF,qw,oH,nA⟩
 .exact⟨h.1,.inl ⟨rfl,h0⟩⟩
 .have mS:g<w.heap.size:=(Ig.1 hg).1
  exact⟨h.1,.inr ⟨g,c,cur,rfl,qa,(hb.block g mS).trans hg,rF,qw,oH,nA⟩⟩
theorem nD.lt{base:Nat}{w:World}{v:Value}{l:List ByteArray}(h:nD base w v l)(k:Nat)(hk:v.ownBlock=AI k):base<=k/\k<w.heap.size:=I3 h k hk
theorem rO{base:Nat}{w:World}{v:Value}{l:List ByteArray}{s:ByteArray}(h:w.ownsRow base 9 1 v (l.length+1) (l.map I++[I s])):nD base w v (l++[s]):=by
 show w.ownsRow base 9 1 v (l++[s]).length ((l++[s]).map I);rw[Iq,OI];exact h
theorem qj(ss:List ByteArray):∀v∈ss.map I,v.oneCell'=true:=by
 intro v hv;obtain⟨s,_,rfl⟩:=Ot.1 hv;rfl
theorem nD.form{base:Nat}{w:World}{v:Value}{l:List ByteArray}(h:nD base w v l):(v=sh U 0 0/\l=[])\/∃g c,v=sh (AI ⟨g,0,U⟩) l.length c/\l.length<=c/\base<=g/\g<w.heap.size/\∀j,j<l.length->w.cell? ⟨g,j,U⟩=AI (I (l.getD j Ie)):=by
 rcases h.2 with⟨hv,h0⟩|⟨g,c,cur,hv,qa,hg,rF,_⟩
 .exact .inl ⟨hv,List.length_eq_zero_iff.1 h0⟩
 .refine .inr ⟨g,c,hv,rF,qa,(Ig.1 hg).1,λj hj=>?_⟩
  subst hv;rw[ON h j (by omega)];simp[Ip,Ih hj]
theorem below_drewN{B:Nat}{w w1:World}(h:Below B w w1)(m:Nat):Below B w (w1.drewN m):=⟨h.os,h.tape,h.output,h.size,h.block⟩
def acH(w:World)(b off:Nat)(ss:List ByteArray):Prop:=∀j,j<ss.length->w.cell? ⟨b,off+j,U⟩=AI (I (ss.getD j Ie))
def Bi(w:World)(v:Value)(ss:List ByteArray):Prop:=
 ∃(a:Option Addr) (cap:Nat),v=sh a ss.length cap/\(∀j,(ss.getD j Ie).size<=Il)/\(ss=[]\/∃b off,a=AI ⟨b,off,U⟩/\b<w.heap.size/\acH w b off ss)
theorem Bi.below{w w':World}{v:Value}{ss:List ByteArray}(h:Bi w v ss)(hb:Below w.heap.size w w'):Bi w' v ss:=by
 obtain⟨a,c,hv,hn,h⟩:=h;refine⟨a,c,hv,hn,?_⟩;rcases h with h|⟨b,off,ha,mS,hr⟩
 .exact .inl h
 .exact .inr ⟨b,off,ha,Ix mS hb.size,λj hj=>(hb.cell (p:=⟨b,off+j,U⟩) mS).trans (hr j hj)⟩
theorem Sn(ss:List ByteArray)(v:Value)(w:World)(h:Bi w v ss)(hn:ss.length<=1000) :
 Calls AT 300 #[v] w λe w'=>∃v',e=Ia v'/\nD w.heap.size w' v' ss/\Below w.heap.size w w':=by
 obtain⟨a,cap,rfl,hs,h⟩:=h;obtain⟨i0,qg,oS,so,sf⟩:=Jc Tryz.AU;cases a with
 |none=>
  have he:ss=[]:=by
   rcases h with h|⟨b,off,h,_⟩
   .exact h
   .cases h
  subst he;clear h hs;have uI:=λ(w:World)=>JB (P:=AT) w 107 9 U 0 cap 0 0 IS;simp only[OH,Qs] at uI ⊢;go_enter func300,ntmps300;go_wp2_with fail;go_ret;exact⟨_,rfl,tW _ _,If _ _⟩
 |some a=>
  have uI:=λ(w:World)=>JB (P:=AT) w 107 9 (AI a) ss.length cap 0 0 IS;simp only[Qt] at uI;have hnews:Hid (∀j u,(ss.map I)[j]?=AI u->(w.alloc (Ib #[] 9)).cell? (a.add j)=AI u):=by
   intro j u hj;rcases h with h|⟨b,off,h,hb,hr⟩
   .subst h;simp at hj
   .cases h
    have hl:j<ss.length:=by have:=(I7.1 hj).1;simpa using this
    rw[I4,Oc (w:=w) _ b _ hb,hr j hl];simpa[Ip,Ih hl] using hj
  have HO:Hid ((w.alloc (Ib #[] 9)).ownsRow w.heap.size 9 1 (sh (AI ⟨w.heap.size,0,U⟩) 0 0) 0 []):=Qv w #[] 0 (By _) (by unfold Il;omega) rfl;clear h hs;go_enter func300,ntmps300;go_wp2_with (at_builtin;refine IY _ rfl _ _ 107 rfl w.heap.size 9 i0 _ 1 16 IS qg oS so sf rfl (by omega) _ 0 [] rfl HO.out a ss.length cap (ss.map I) rfl (by simp) hnews.out (qj ss) (by unfold Il;omega) (by omega) (by simp) ?_);intro v' w' r1 r2 r3;go_wp2_with fail;go_ret;refine⟨v',rfl,?_,?_⟩
  .simpa using r1
  .exact((If _ _).alloc (By _) _).grown r2 (by simp) (λk hk=>by simp[Jb] at hk;omega)
end Go.Proofs.YtipbebleapjcjaaGreatDoor
namespace Go.Proofs.YtipbebleapjcjaaGreatDoor
namespace So
open Go.Sort
section
variable {α:Type}
abbrev Up(lt:α->α->Bool)(l:List α):Prop:=l.Pairwise λa b=>lt b a=false
theorem aiV{lt:α->α->Bool}(ha:∀a b,lt a b=false->lt b a=false->a=b):∀{l m:List α},l.Perm m->Up lt l->Up lt m->l=m
 |[],m,hp,_,_=>(List.Perm.nil_eq hp)
 |a::l,[],hp,_,_=>by have:=hp.length_eq;simp at this
 |a::l,b::m,hp,h1,h2=>by
  have RI:=JO.1 h1;have DR:=JO.1 h2;have VW:a=b:=by
   have m1:a∈b::m:=hp.mem_iff.1 (Jg ..);have m2:b∈a::l:=hp.mem_iff.2 (Jg ..);rcases Jx.1 m1 with e|e
   .exact e
   .rcases Jx.1 m2 with f|f
    .exact f.symm
    .exact ha a b (DR.1 a e) (RI.1 b f)
  subst VW;rw[aiV ha (List.Perm.cons_inv hp) RI.2 DR.2]
def pos(lt:α->α->Bool)(x:α):List α->Nat
 |[]=>0
 |y::r=>if lt x y=false then pos lt x r+1 else 0
theorem acI(lt:α->α->Bool)(x:α):∀l:List α,pos lt x l<=l.length
 |[]=>By _
 |y::r=>by rw[pos];split<;>simp[acI lt x r]
def ins(lt:α->α->Bool)(x:α)(l:List α):List α:=l.take (pos lt x l)++x::l.drop (pos lt x l)
theorem acJ{lt:α->α->Bool}{x d:α}:∀{l:List α} {k:Nat},k<pos lt x l->lt x (l.getD k d)=false
 |[],k,h=>by simp[pos] at h
 |y::r,k,h=>by
  rw[pos] at h;split at h
  .rename_i hy
   cases k with
   |zero=>simpa using hy
   |succ k=>have:=acJ (lt:=lt) (x:=x) (d:=d) (l:=r) (k:=k) (by omega);simpa using this
  .omega
theorem pos_at{lt:α->α->Bool}{x d:α}:∀{l:List α},pos lt x l<l.length->lt x (l.getD (pos lt x l) d)=true
 |[],h=>by simp[pos] at h
 |y::r,h=>by
  by_cases hy:lt x y=false
  .have e:pos lt x (y::r)=pos lt x r+1:=by rw[pos,if_pos hy]
   rw[e] at h ⊢;have:=pos_at (lt:=lt) (x:=x) (d:=d) (l:=r) (by simpa using h);simpa using this
  .have e:pos lt x (y::r)=0:=by rw[pos,if_neg hy]
   rw[e];simpa using hy
theorem acK{lt:α->α->Bool}{x d:α}{l:List α}{k:Nat}(hk:k<=l.length)(h1:∀j,j<k->lt x (l.getD j d)=false)(h2:k<l.length->lt x (l.getD k d)=true):pos lt x l=k:=by
 rcases Nat.lt_trichotomy (pos lt x l) k with h|h|h
 .have h3:=pos_at (lt:=lt) (x:=x) (d:=d) (l:=l) (by omega)
  rw[h1 _ h] at h3;cases h3
 .exact h
 .have h3:=acJ (lt:=lt) (x:=x) (d:=d) h
  have h4:=h2 (by have:=acI lt x l;omega);rw[h3] at h4;cases h4
theorem Fb(lt:α->α->Bool)(x:α)(l:List α):(ins lt x l).Perm (x::l):=by
 unfold ins;refine List.perm_middle.trans ?_;rw[O3]
theorem acL(lt:α->α->Bool)(x y:α)(r:List α):ins lt x (y::r)=if lt x y=false then y::ins lt x r else x::y::r:=by
 unfold ins;by_cases h:lt x y=false
 .rw[if_pos h,pos,if_pos h];rfl
 .rw[if_neg h,pos,if_neg h];rfl
theorem acM{lt:α->α->Bool}(hs:SWO lt)(x:α):∀{l:List α},Up lt l->Up lt (ins lt x l)
 |[],_=>by simp[ins,pos]
 |y::r,h=>by
  have h':=JO.1 h;rw[acL];split
  .rename_i hy
   refine JO.2 ⟨λz hz=>?_,acM hs x h'.2⟩;rcases Jx.1 ((Fb lt x r).mem_iff.1 hz) with rfl|hz
   .exact hy
   .exact h'.1 z hz
  .rename_i hy
   have hy':lt x y=true:=by simpa using hy
   have hyx:lt y x=false:=by
    cases h2:lt y x
    .rfl
    .have:=hs.trans x y x hy' h2
     rw[hs.irrefl x] at this;cases this
   refine JO.2 ⟨λz hz=>?_,h⟩;rcases Jx.1 hz with rfl|hz
   .exact hyx
   .exact hs.ntrans z y x (h'.1 z hz) hyx
def oU(lt:α->α->Bool)(l:List α):List α:=l.foldl (λout x=>ins lt x out) []
theorem Dn(lt:α->α->Bool)(l:List α)(k:Nat)(d:α)(hk:k<l.length):oU lt (l.take (k+1))=ins lt (l.getD k d) (oU lt (l.take k)):=by
 rw[Iz hk,oU,List.foldl_append];simp[Ip,Ih hk,oU]
theorem xa{lt:α->α->Bool}(hs:SWO lt)(l:List α):∀k,Up lt (oU lt (l.take k))/\(oU lt (l.take k)).Perm (l.take k)
 |0=>by simp[oU]
 |k+1=>by
  obtain⟨h1,h2⟩:=xa hs l k;by_cases hk:k<l.length
  .rw[Dn lt l k l[k] hk]
   refine⟨acM hs _ h1,(Fb _ _ _).trans ?_⟩;rw[Iz hk];have e:l.getD k l[k]=l[k]:=by simp[Ip,Ih hk]
   rw[e];exact(List.Perm.cons _ h2).trans (List.perm_append_singleton _ _).symm
  .rw[IJ (by omega)]
   rw[IJ (by omega)] at h1 h2;exact⟨h1,h2⟩
theorem AV(lt:α->α->Bool)(l:List α)(hs:SWO lt)(k:Nat)(hk:k<=l.length):(oU lt (l.take k)).length=k:=by
 rw[(xa hs l k).2.length_eq,IA];omega
theorem Xu{lt:α->α->Bool}(hs:SWO lt)(ha:∀a b,lt a b=false->lt b a=false->a=b){l m:List α}(hp:m.Perm l)(hu:Up lt m):m=oU lt l:=by
 obtain⟨h1,h2⟩:=xa hs l l.length;rw[JU] at h1 h2;exact aiV ha (hp.trans h2.symm) hu h1
end
end So
end Go.Proofs.YtipbebleapjcjaaGreatDoor
namespace Go.Proofs.YtipbebleapjcjaaGreatDoor
open Go.RowKit Go.Sort Go.Lib Go.WideMaps Go.Maps
def cfN(d:ByteArray->Int)(a b:ByteArray):Int:=acE (Fa (d a) (d b)) (oh a b)
theorem agI(d:ByteArray->Int)(a b:ByteArray):cfN d a b<0↔d a<d b\/(d a=d b/\oh a b<0):=by
 unfold cfN acE Fa;generalize d a=x;generalize d b=y
 repeat' split
 all_goals omega
def Dp(d:ByteArray->Int)(a b:ByteArray):Bool:=decide (cfN d a b<0)
theorem MW(d:ByteArray->Int)(a b:ByteArray):Dp d a b=true↔d a<d b\/(d a=d b/\oh a b<0):=by
 rw[Dp,decide_eq_true_iff,agI]
theorem zx(d:ByteArray->Int)(a b:ByteArray):Dp d a b=false↔¬ (d a<d b\/(d a=d b/\oh a b<0)):=by
 rw[<- MW,Bool.not_eq_true]
theorem agJ{a b c:ByteArray}(h1:¬ oh a b<0)(h2:¬ oh b c<0):¬ oh a c<0:=λh=>by
 rcases Int.lt_trichotomy (oh a b) 0 with h3|h3|h3
 .exact h1 h3
 .have e:=(oQ a b).1 h3
  rw[e] at h;exact h2 h
 .exact h2 (AG b a c ((zh a b).1 h3) h)
theorem MX(d:ByteArray->Int):SWO (Dp d) where
 irrefl x:=by rw[zx,Hl];omega
 trans x y z h1 h2:=by
  rw[MW] at *;rcases h1 with h1|⟨h1,h3⟩
  .rcases h2 with h2|⟨h2,_⟩<;>omega
  .rcases h2 with h2|⟨h2,h4⟩
   .omega
   .exact .inr ⟨by omega,AG x y z h3 h4⟩
 ntrans x y z h1 h2:=by
  rw[zx] at *;rintro(h|⟨h,h3⟩)
  .omega
  .have hd:d x=d y/\d y=d z:=by omega
   exact agJ (λh4=>h1 (.inr ⟨hd.1,h4⟩)) (λh4=>h2 (.inr ⟨hd.2,h4⟩)) h3
theorem acN(d:ByteArray->Int)(a b:ByteArray)(h1:Dp d a b=false)(h2:Dp d b a=false):a=b:=by
 rw[zx] at *;have hd:d a=d b:=by omega
 have h3:¬ oh a b<0:=λh=>h1 (.inr ⟨hd,h⟩);have h4:¬ oh b a<0:=λh=>h2 (.inr ⟨hd.symm,h⟩);have h5:=zh a b;exact(oQ a b).1 (by omega)
def GD(p:Pl)(ms:List Wh.nZ)(ns:List ByteArray):List ByteArray:=So.oU (Dp (dV (Dd (qR p) ms ms.length))) ns
end Go.Proofs.YtipbebleapjcjaaGreatDoor
namespace Go.Proofs.YtipbebleapjcjaaGreatDoor
namespace Sv
open Go.RowKit
end Sv
end Go.Proofs.YtipbebleapjcjaaGreatDoor
namespace Go.Proofs.YtipbebleapjcjaaGreatDoor
open Go.RowKit
def tt:List UInt8->List (List UInt8)
 |[]=>[[]]
 |c::r=>if c=46 then[]::tt r else match tt r with
  |[]=>[[c]]
  |x::xs=>(c::x)::xs
def jn:List (List UInt8)->List UInt8
 |[]=>[]
 |[x]=>x
 |x::y::r=>x++46::jn (y::r)
theorem Sq:∀l,tt l≠[]
 |[]=>by simp[tt]
 |c::r=>by
  unfold tt;split
  .simp
  .split<;>simp
theorem K9(r:List UInt8):tt (46::r)=[]::tt r:=by rw[tt,if_pos rfl]
theorem BB{c:UInt8}(h:c≠46){r x:List UInt8}{xs:List (List UInt8)}(hr:tt r=x::xs):tt (c::r)=(c::x)::xs:=by
 rw[tt,if_neg h,hr]
theorem BC:∀(a b:List UInt8),46 ∉ a->tt (a++46::b)=a::tt b
 |[],b,_=>K9 b
 |c::a,b,h=>by
  have h1:c≠46:=λe=>h (by rw[e];exact Jg);have h2:46 ∉ a:=λe=>h (Jv _ e);rw[Jt];exact BB h1 (BC a b h2)
theorem xb:∀(a:List UInt8),46 ∉ a->tt a=[a]
 |[],_=>rfl
 |c::a,h=>by
  have h1:c≠46:=λe=>h (by rw[e];exact Jg);have h2:46 ∉ a:=λe=>h (Jv _ e);exact BB h1 (xb a h2)
theorem En:∀(l:List UInt8),(tt l).length=l.count 46+1
 |[]=>rfl
 |c::r=>by
  have ih:=En r;by_cases h:c=46
  .subst h
   rw[K9,Je,ih,List.count_cons_self]
  .obtain⟨x,xs,hr⟩:=List.exists_cons_of_ne_nil (Sq r)
   rw[BB h hr,Je,List.count_cons_of_ne h];rw[hr,Je] at ih;exact ih
theorem agK(c:UInt8)(x:List UInt8)(xs:List (List UInt8)):jn ((c::x)::xs)=c::jn (x::xs):=by
 cases xs<;>rfl
theorem acO:∀(l:List UInt8),jn (tt l)=l
 |[]=>rfl
 |c::r=>by
  have ih:=acO r;obtain⟨y,ys,hr⟩:=List.exists_cons_of_ne_nil (Sq r);by_cases h:c=46
  .subst h
   rw[K9,hr];rw[hr] at ih;show[]++46::jn (y::ys)=_;rw[ih];rfl
  .rw[BB h hr,agK,<- hr,ih]
theorem acP:∀(xs:List (List UInt8)),xs≠[]->(∀x∈xs,46 ∉ x)->tt (jn xs)=xs
 |[],h,_=>absurd rfl h
 |[x],_,h=>xb x (h x Jg)
 |x::y::r,_,h=>by
  show tt (x++46::jn (y::r))=_;rw[BC _ _ (h x Jg),acP (y::r) (by simp) (λz hz=>h z (Jv _ hz))]
theorem La:∀{l:List UInt8},JP l 46 = -1->46 ∉ l
 |[],_=>by simp
 |c::r,h=>by
  unfold JP at h;split at h
  .omega
  .rename_i hc
   split at h
   .rename_i h2
    intro hm;rcases Jx.1 hm with e|e
    .subst e;simp at hc
    .exact La (by simpa using h2) e
   .have:=Lib.indexByte_ge r 46;omega
theorem Eo:∀{l:List UInt8} {i:Nat},JP l 46=(i:Int)->i<l.length/\l=l.take i++46::l.drop (i+1)/\46 ∉ l.take i
 |[],i,h=>by unfold JP at h;omega
 |c::r,i,h=>by
  unfold JP at h;split at h
  .rename_i hc
   have:i=0:=by omega
   subst this
   have:c=46:=by simpa using hc
   subst this;simp
  .rename_i hc
   split at h
   .omega
   .rename_i h2
    have hg:=Lib.indexByte_ge r 46;obtain⟨j,rfl⟩:∃j,i=j+1:=⟨i-1,by have:JP r 46 ≠ -1:=(by simpa using h2);omega⟩;obtain⟨h3,h4,h5⟩:=Eo (l:=r) (i:=j) (by omega);refine⟨by simpa using h3,?_,?_⟩
    .simp only[Ud,List.drop_succ_cons,Jt]
     rw[<- h4]
    .simp only[Ud]
     intro hm;rcases Jx.1 hm with e|e
     .subst e;simp at hc
     .exact h5 e
def mk(l:List UInt8):ByteArray:=⟨l.toArray⟩
theorem mk_data(s:ByteArray):mk s.data.toList=s:=by cases s;simp[mk]
theorem BD(l:List UInt8):(mk l).data.toList=l:=by simp[mk]
theorem sJ(l:List UInt8):(mk l).size=l.length:=by simp[mk,JN]
def wF(l:List UInt8):Bool:=mT (mk l)
theorem Xv{l:List UInt8}(h:wF l=true):46 ∉ l:=λhm=>by
 unfold wF mT at h;simp only[IP,Od,BD] at h;have:=h.2 46 hm
 revert this;decide
theorem Xw{l:List UInt8}(h:wF l=true):1<=l.length/\l.length<=30:=by
 unfold wF mT at h;simp only[IP,decide_eq_true_eq,sJ] at h;exact h.1
def nS(s:ByteArray):Int:=
 if s.size=0 then 0 else if(tt s.data.toList).all wF=false then 1 else if 8<(tt s.data.toList).length\/120<s.size then 2 else 0
theorem wG{B:Nat}{w w1:World}(h:Below B w w1)(m:Nat):Below B w (w1.drewN m):=⟨h.os,h.tape,h.output,h.size,h.block⟩
theorem acQ(s:ByteArray)(i:Nat):s.extract 0 i=mk (s.data.toList.take i):=by
 rw[<- mk_data (s.extract 0 i),Lib.extract_from_zero]
theorem BE(s:ByteArray)(i:Nat):s.extract i s.size=mk (s.data.toList.drop i):=by
 rw[<- mk_data (s.extract i s.size),Lib.extract_to_end]
theorem Xx(s:ByteArray)(w:World)(h:JP s.data.toList 46 = -1) :
 Calls AT 221 #[I s,I ⟨#[46]⟩] w λe w'=>e=Ia (Ir #[I s,I ⟨#[]⟩,Ic false])/\w'=w:=by
 go_enter func221,ntmps221;go_wp2_with (go_at_call 222;refine(Tryz.stringslite_Index_one s 46 _).mono ?_;rintro e w' ⟨rfl,rfl⟩;rw[h]);go_ret3
 exact⟨rfl,rfl⟩
theorem Xy(s:ByteArray)(i:Nat)(w:World)(h:JP s.data.toList 46=(i:Int))(hs:s.size<=Il) :
 Calls AT 221 #[I s,I ⟨#[46]⟩] w λe w'=>e=Ia (Ir #[I (s.extract 0 i),I (s.extract (i+1) s.size),Ic true])/\∃n,w'=w.drewN n:=by
 have hi:i<s.size:=by have:=(Eo h).1;simpa using this
 unfold Il at hs;have h0:((i:Int)).toNat=i:=by omega
 have h1:IntKind.i64.wrap ((i:Int)+1)=((i+1:Nat):Int):=by rw[IW];omega
 have h2:(((i+1:Nat):Int)).toNat=i+1:=by omega
 have h3:((s.size:Int)).toNat=s.size:=by omega
 go_enter func221,ntmps221;go_wp2_with (go_at_call 222;refine(Tryz.stringslite_Index_one s 46 _).mono ?_;rintro e w' ⟨rfl,rfl⟩;rw[h]);go_quiet (fail)
 go_wp2_with fail;go_ret3
 exact⟨rfl,⟨_,rfl⟩⟩
theorem acR(s:ByteArray)(w:World)(h:JP s.data.toList 46 = -1) :
 Calls AT 178 #[I s,I ⟨#[46]⟩] w λe w'=>e=Ia (Ir #[I s,I ⟨#[]⟩,Ic false])/\Below w.heap.size w w':=by
 go_enter func178,ntmps178;go_wp2_with (go_at_call 221;refine(Xx s _ h).mono ?_;rintro e w' ⟨rfl,rfl⟩);go_ret3
 exact⟨rfl,If _ _⟩
theorem acS(s:ByteArray)(i:Nat)(w:World)(h:JP s.data.toList 46=(i:Int))(hs:s.size<=Il) :
 Calls AT 178 #[I s,I ⟨#[46]⟩] w λe w'=>e=Ia (Ir #[I (s.extract 0 i),I (s.extract (i+1) s.size),Ic true])/\Below w.heap.size w w':=by
 go_enter func178,ntmps178;go_wp2_with (go_at_call 221;refine(Xy s i _ h hs).mono ?_;rintro e w' ⟨rfl,n,rfl⟩);go_ret3
 exact⟨rfl,wG (If _ _) _⟩
theorem xL(s:ByteArray)(w:World)(hs:s.size<=Il) :
 Calls AT 133 #[I s] w λe w'=>e=Ia (Ic (!mT s))/\w'=w:=by
 go_enter func133,ntmps133;go_wp2_with (go_at_call 78;refine(nL _ _ hs).mono ?_;rintro e w' ⟨rfl,rfl⟩);go_ret;exact⟨rfl,rfl⟩
def agL:Value->Nat
 | I r=>r.size
 |_=>0
def tOf:Value->Nat
 | Ic true=>1
 |_=>0
theorem akF(r:ByteArray):agL (I ⟨#[]⟩)+tOf (Ic false)<agL (I r)+tOf (Ic true):=by
 show 0+0<r.size+1;omega
theorem Lc(s:ByteArray)(w:World)(hs:s.size<=Il) :
 Calls AT 134 #[I s,JD (.func 133) #[] #[]] w λe w'=>e=Ia (Ic (!(tt s.data.toList).all wF))/\Below w.heap.size w w':=by
 have H0:Hid ((tt s.data.toList).all wF=(tt s.data.toList).all wF):=rfl;have HS:Hid (∀r:ByteArray,r=s->r.size<=Il):=λr h=>by rw[h];exact hs
 have HS0:=HS.out s rfl;generalize yg:(tt s.data.toList).all wF=res at *;have H1:Hid (res=(tt s.data.toList).all wF):=yg.symm;clear yg H0 HS hs;go_enter func134,ntmps134;go_wp2_with fail;go_loopw [0,5] (λnm mo wr=>∃r:ByteArray,nm=I r/\r.size<=Il/\((mo=Ic true/\Hid (res=(tt r.data.toList).all wF))\/(mo=Ic false/\Hid (res=true)))/\Below w.heap.size w wr) (λnm mo _=>agL nm+tOf mo)
 case atStart=>exact⟨s,rfl,HS0,.inl ⟨rfl,H1⟩,If _ _⟩
 case round=>
  obtain⟨r,rfl,hr,Xz,nE⟩:=hrel;have HB:Hid (Below w.heap.size w wr):=nE;clear nE;rcases Xz with⟨rfl,yg⟩|⟨rfl,yg⟩
  .have Ep:=Lib.indexByte_ge r.data.toList 46
   by_cases hi:JP r.data.toList 46 = -1
   .have hL:res=mT r:=by rw[yg.out,xb _ (La hi)];simp[wF,mk_data]
    have HC:Hid (∀W,Calls AT 178 #[I r,I ⟨#[46]⟩] W λe w'=>e=Ia (Ir #[I r,I ⟨#[]⟩,Ic false])/\Below W.heap.size W w'):=λW=>acR r W hi;clear hi Ep yg;rcases hb:mT r with _|_
    .rw[hb] at hL
     have HL:Hid (res=false):=hL;clear hL;go_wp2_with (first|(go_at_call 178;refine(HC.out _).mono ?_;rintro e w1 ⟨rfl,mO⟩)|(go_at_call 133;refine(xL r _ hr).mono ?_;rintro e w2 ⟨rfl,rfl⟩;rw[hb]));go_ret;exact⟨mW (by rw[HL.out];rfl),HB.out.trans (mO.mono HB.out.size)⟩
    .rw[hb] at hL
     have HL:Hid (res=true):=hL;clear hL;go_wp2_with (first|(go_at_call 178;refine(HC.out _).mono ?_;rintro e w1 ⟨rfl,mO⟩)|(go_at_call 133;refine(xL r _ hr).mono ?_;rintro e w2 ⟨rfl,rfl⟩;rw[hb]));exact⟨⟨⟨#[]⟩,rfl,by decide,.inr ⟨rfl,HL⟩,HB.out.trans (mO.mono HB.out.size)⟩,akF r⟩
   .obtain⟨i,GM⟩:∃i:Nat,JP r.data.toList 46=(i:Int):=⟨(JP r.data.toList 46).toNat,by omega⟩
    obtain⟨h1,h2,h3⟩:=Eo GM;have mS:i<r.size:=by simpa using h1
    have hL:res=(mT (r.extract 0 i)&&(tt (r.extract (i+1) r.size).data.toList).all wF):=by
     rw[yg.out,acQ,BE,BD]
     conv=>lhs;rw[h2]
     rw[BC _ _ h3,List.all_cons];rfl
    have pC:(r.extract 0 i).size<=Il:=by rw[acQ,sJ,IA];simp;unfold Il at *;omega
    have xC:(r.extract (i+1) r.size).size<=Il:=by rw[BE,sJ,I9];simp;unfold Il at *;omega
    have zV:(r.extract (i+1) r.size).size<r.size:=by rw[BE,sJ,I9];simp;omega
    have HC:Hid (∀W,Calls AT 178 #[I r,I ⟨#[46]⟩] W λe w'=>e=Ia (Ir #[I (r.extract 0 i),I (r.extract (i+1) r.size),Ic true])/\Below W.heap.size W w'):=λW=>acS r i W GM hr;clear hi GM Ep yg h1 h2 h3;generalize r.extract 0 i=la at *;generalize r.extract (i+1) r.size=re at *;rcases hb:mT la with _|_
    .rw[hb] at hL
     have HL:Hid (res=false):=hL;clear hL;go_wp2_with (first|(go_at_call 178;refine(HC.out _).mono ?_;rintro e w1 ⟨rfl,mO⟩)|(go_at_call 133;refine(xL la _ pC).mono ?_;rintro e w2 ⟨rfl,rfl⟩;rw[hb]));go_ret;exact⟨mW (by rw[HL.out];rfl),HB.out.trans (mO.mono HB.out.size)⟩
    .rw[hb,Bool.true_and] at hL
     have HL:Hid (res=(tt re.data.toList).all wF):=hL;clear hL;go_wp2_with (first|(go_at_call 178;refine(HC.out _).mono ?_;rintro e w1 ⟨rfl,mO⟩)|(go_at_call 133;refine(xL la _ pC).mono ?_;rintro e w2 ⟨rfl,rfl⟩;rw[hb]));exact⟨⟨re,rfl,xC,.inl ⟨rfl,HL⟩,HB.out.trans (mO.mono HB.out.size)⟩,by simp[agL,tOf];omega⟩
  .go_wp2_with fail
   go_ret;exact⟨mW (by rw[yg.out];rfl),HB.out⟩
theorem oC{s:ByteArray}(h:s.size≠0):(s.toList==[])=false/\¬ s.toList=[]:=by
 have h3:¬ s.toList=[]:=λe=>h (by
  rw[IZ] at e
  have:s.data.toList.length=0:=by rw[e];rfl
  simpa using this)
 exact⟨by simpa using h3,h3⟩
theorem nB{s:ByteArray}(h:s.size=0):s=⟨#[]⟩:=by
 cases s with
 |mk a=>simp[JN] at h;subst h;rfl
theorem Ss{P:Prop}(h:P:=by
 go_enter func73,ntmps73;go_wp2_with (first|(go_at_call 134;refine(HL.out _).mono ?_;rintro e w1 ⟨rfl,mO⟩)|(go_at_call 135;refine(HCT.out _).mono ?_;rintro e w2 ⟨rfl,rfl⟩));go_ret;exact⟨mN HR.out.symm,mO⟩):P:=h
theorem uV(s:ByteArray)(w:World)(hs:s.size<=Il) :
 Calls AT 73 #[I s] w λe w'=>e=Ia (O J (nS s))/\Below w.heap.size w w':=by
 by_cases h0:s.size=0
 .have e0:nS s=0:=by unfold nS;rw[if_pos h0]
  rw[e0];have:=nB h0;subst this;clear e0 h0 hs;go_enter func73,ntmps73;go_wp2_with fail;go_ret;exact⟨rfl,If _ _⟩
 .obtain⟨n1,n2⟩:=oC h0
  have HL:Hid (∀W,Calls AT 134 #[I s,JD (.func 133) #[] #[]] W λe w'=>e=Ia (Ic (!(tt s.data.toList).all wF))/\Below W.heap.size W w'):=λW=>Lc s W hs;have HE:Hid (nS s=if(tt s.data.toList).all wF=false then 1 else if 8<(tt s.data.toList).length\/120<s.size then 2 else 0):=(show nS s=_ by unfold nS;rw[if_neg h0]);have hlen:=En s.data.toList;unfold Il at hs;clear h0;generalize nS s=r at *;cases qe:(tt s.data.toList).all wF with
  |false=>
   have HR:Hid (r=1):=(show r=1 by rw[HE.out,if_pos qe]);rw[qe] at HL;clear HE;go_enter func73,ntmps73;go_wp2_with (go_at_call 134;refine(HL.out _).mono ?_;rintro e w1 ⟨rfl,mO⟩);go_ret;exact⟨mN HR.out.symm,mO⟩
  |true=>
   rw[qe] at HL;have wm:Hid (r=if 8<s.data.toList.count 46+1\/120<s.size then 2 else 0):=(show r=_ by rw[HE.out,qe,hlen];rfl);have Aq:s.data.toList.count 46<=s.size:=by have:=List.count_le_length (a:=(46:UInt8)) (l:=s.data.toList);simpa using this
   clear HE hlen qe;have HCT:Hid (∀W,Calls AT 135 #[I s,I ⟨#[46]⟩] W λe w'=>e=Ia (O J ((s.data.toList.count 46:Nat):Int))/\w'=W):=λW=>Tryz.strings_Count_one s 46 W;generalize s.data.toList.count 46=cn at *;by_cases h1:8<=cn
   .have HR:Hid (r=2):=(show r=2 by rw[wm.out,if_pos (.inl (by omega))])
    clear wm;have h2:decide (8<=(cn:Int))=true:=by simp;omega
    exact Ss
   .have h2:decide (8<=(cn:Int))=false:=by simp;omega
    by_cases h3:120<s.size
    .have HR:Hid (r=2):=(show r=2 by rw[wm.out,if_pos (.inr h3)])
     clear wm;have h4:decide (120<(s.size:Int))=true:=by simp;omega
     exact Ss
    .have HR:Hid (r=0):=(show r=0 by rw[wm.out,if_neg (by omega)])
     clear wm;have h4:decide (120<(s.size:Int))=false:=by simp;omega
     exact Ss
end Go.Proofs.YtipbebleapjcjaaGreatDoor
namespace Go.Proofs
open Go.Shelf
def Tryz.Dq:OD:=⟨fun|156=>139|165=>183|166=>184|169=>185|240=>224|241=>225|276=>255|277=>256|n=>n,fun|31=>107|9=>9|3=>3|4=>4|0=>0|20=>20|72=>228|76=>232|70=>226|37=>139|75=>231|127=>271|164=>290|5=>5|80=>102|n=>n,fun|n=>n⟩
theorem Tryz.agM:Go.Proofs.Lays.n156 AT Tryz.Dq:={
 mixed:=by kernel_rfl
 f156:=Tryz.func139.trans (congrArg AI (by kernel_rfl))
 f165:=Tryz.func183.trans (congrArg AI (by kernel_rfl))
 f166:=Tryz.func184.trans (congrArg AI (by kernel_rfl))
 f169:=Tryz.func185.trans (congrArg AI (by kernel_rfl))
 f240:=Tryz.func224.trans (congrArg AI (by kernel_rfl))
 f241:=Tryz.func225.trans (congrArg AI (by kernel_rfl))
 f276:=Tryz.func255.trans (congrArg AI (by kernel_rfl))
 f277:=Tryz.func256.trans (congrArg AI (by kernel_rfl))
 t0:=Oe
 a0:=Qe
 z0:=OZ
 v0:=Oq
 t3:=IH
 a3:=No
 z3:=JY
 v3:=J0
 t4:=Jo
 a4:=OE
 z4:=Oo
 v4:=J1
 t9:=IF
 a9:=Oj
 z9:=J8
 v9:=Ob
 t20:=underlying20
 a20:=isAgg20
 z20:=sizeOf20
 v20:=Tryz.zeroValue20
 t31:=IS
 a31:=QN
 z31:=QD
 v31:=Qa
 t37:=Oa
 a37:=isAgg139
 z37:=sizeOf139
 v37:=Tryz.zeroValue139
 t70:=UA
 a70:=isAgg226
 z70:=sizeOf226
 v70:=Tryz.zeroValue226
 t72:=underlying228
 a72:=isAgg228
 z72:=sizeOf228
 v72:=Tryz.zeroValue228
 t75:=underlying231
 a75:=isAgg231
 z75:=sizeOf231
 v75:=Tryz.zeroValue231
 t76:=underlying232
 a76:=isAgg232
 z76:=sizeOf232
 v76:=Tryz.zeroValue232
 t127:=underlying271
 a127:=isAgg271
 z127:=sizeOf271
 v127:=Tryz.zeroValue271
 t164:=underlying290
 a164:=isAgg290
 z164:=sizeOf290
 v164:=Tryz.zeroValue290 }
theorem Tryz.BF:Builder.Extra AT Tryz.Dq:={
 sizeBuilder:=by kernel_rfl
 liesBuilder:=by kernel_rfl
 t5:=JA
 a5:=Qw
 z5:=Qd
 v5:=OF
 infoByte:=by kernel_rfl
 cellsByte:=by kernel_rfl
 sizeByte:=by kernel_rfl
 neB5:=by decide }
open Go.RowKit in
theorem Tryz.strings_Join(bk o c:Nat)(xs:List ByteArray)(sep:ByteArray)(w:World)(Su:∀(j:Nat) x,xs[j]?=AI x->w.cell? ⟨bk,o+j,U⟩=AI (I x))(Ld:bk<w.heap.size)(hN:xs.length<=140737488355328)(Le:xs.length<=c)(hlen:(Lib.join (xs.map (·.data.toList)) sep.data.toList).length<=140737488355328) :
 Calls AT 139 #[sh (AI ⟨bk,o,U⟩) xs.length c,I sep] w λe w'=>e=Ia (I ⟨(Lib.join (xs.map (·.data.toList)) sep.data.toList).toArray⟩)/\Below w.heap.size w w':=Any.strings_Join Tryz.agM Tryz.BF bk o c xs sep w Su Ld hN Le hlen
def Tryz.MY:OD:=⟨fun|146=>74|221=>136|268=>182|138=>135|143=>181|195=>179|197=>223|218=>180|219=>222|260=>254|217=>250|225=>251|224=>252|267=>253|266=>284|314=>285|n=>n,fun|9=>9|31=>107|3=>3|4=>4|0=>0|105=>269|21=>21|5=>5|46=>137|119=>315|139=>318|138=>317|146=>313|51=>256|n=>n,fun|1=>0|3=>1|4=>2|n=>n⟩
theorem Tryz.agN:Go.Proofs.Lays.n146 AT Tryz.MY:={
 mixed:=by kernel_rfl
 f138:=Tryz.func135.trans (congrArg AI (by kernel_rfl))
 f143:=Tryz.func181.trans (congrArg AI (by kernel_rfl))
 f146:=Tryz.func74.trans (congrArg AI (by kernel_rfl))
 f195:=Tryz.func179.trans (congrArg AI (by kernel_rfl))
 f197:=Tryz.func223.trans (congrArg AI (by kernel_rfl))
 f217:=Tryz.func250.trans (congrArg AI (by kernel_rfl))
 f218:=Tryz.func180.trans (congrArg AI (by kernel_rfl))
 f219:=Tryz.func222.trans (congrArg AI (by kernel_rfl))
 f221:=Tryz.func136.trans (congrArg AI (by kernel_rfl))
 f224:=Tryz.func252.trans (congrArg AI (by kernel_rfl))
 f225:=Tryz.func251.trans (congrArg AI (by kernel_rfl))
 f260:=Tryz.func254.trans (congrArg AI (by kernel_rfl))
 f266:=Tryz.func284.trans (congrArg AI (by kernel_rfl))
 f267:=Tryz.func253.trans (congrArg AI (by kernel_rfl))
 f268:=Tryz.func182.trans (congrArg AI (by kernel_rfl))
 f314:=Tryz.func285.trans (congrArg AI (by kernel_rfl))
 t0:=Oe
 a0:=Qe
 z0:=OZ
 v0:=Oq
 t3:=IH
 a3:=No
 z3:=JY
 v3:=J0
 t4:=Jo
 a4:=OE
 z4:=Oo
 v4:=J1
 t5:=JA
 a5:=Qw
 z5:=Qd
 v5:=OF
 t9:=IF
 a9:=Oj
 z9:=J8
 v9:=Ob
 t21:=underlying21
 a21:=isAgg21
 z21:=sizeOf21
 v21:=Tryz.zeroValue21
 t31:=IS
 a31:=QN
 z31:=QD
 v31:=Qa
 t46:=OK
 a46:=QB
 z46:=Qp
 v46:=OU
 t51:=OL
 a51:=QC
 z51:=Qq
 v51:=OV
 t105:=underlying269
 a105:=isAgg269
 z105:=sizeOf269
 v105:=Tryz.zeroValue269
 t119:=underlying315
 a119:=isAgg315
 z119:=sizeOf315
 t138:=underlying317
 a138:=isAgg317
 z138:=sizeOf317
 v138:=Tryz.zeroValue317
 t139:=underlying318
 a139:=isAgg318
 z139:=sizeOf318
 v139:=Tryz.zeroValue318
 t146:=Uy
 a146:=isAgg313
 z146:=sizeOf313
 v146:=Tryz.zeroValue313
 g1:=by kernel_rfl
 g3:=by kernel_rfl
 g4:=by kernel_rfl }
open Go.RowKit Go.Lib in
theorem Tryz.strings_Split(s sep:ByteArray)(m:Int)(w:World)(hs:s.size<4294967281)(hm:w.cell? ⟨0,0,U⟩=AI (O J m))(h1:1<=sep.size) :
 Calls AT 74 #[I s,I sep] w λe w'=>
  e=Ia (sh (AI ⟨w.heap.size,0,U⟩) (Lib.countB s sep+1) (Lib.countB s sep+1))/\w'=w.alloc (Ib ((Lib.splitB sep 0 (Lib.countB s sep) s).map I).toArray 9):=Any.strings_Split Tryz.agN (by kernel_rfl) s sep m w hs hm h1
def Tryz.MZ:OD:=⟨fun|110=>227|109=>257|n=>n,fun|31=>107|9=>9|4=>4|3=>3|0=>0|n=>n,fun|n=>n⟩
theorem Tryz.agO:Go.Proofs.Lays.n110 AT Tryz.MZ:={
 mixed:=by kernel_rfl
 f109:=Tryz.func257.trans (congrArg AI (by kernel_rfl))
 f110:=Tryz.func227.trans (congrArg AI (by kernel_rfl))
 t0:=Oe
 a0:=Qe
 z0:=OZ
 v0:=Oq
 t3:=IH
 a3:=No
 z3:=JY
 v3:=J0
 t4:=Jo
 a4:=OE
 z4:=Oo
 v4:=J1
 t9:=IF
 a9:=Oj
 z9:=J8
 v9:=Ob
 t31:=IS
 a31:=QN
 z31:=QD
 v31:=Qa }
open Go.Lib in
theorem Tryz.slices_Contains_string(b off n c:Nat)(zs:List ByteArray)(x:ByteArray)(w:World)(hz:n<=zs.length)(AW:n<=9223372036854775807)(hc:∀j,j<zs.length->w.cell? ⟨b,off+j,U⟩=AI (I (zs.getD j Ie))) :
 Calls AT 227 #[sh (AI ⟨b,off,U⟩) n c,I x] w λe w'=>e=Ia (Ic (Lib.containsS (zs.take n) x))/\w'=w:=Any.slices_Contains_string Tryz.agO b off n c zs x w hz AW hc
end Go.Proofs
namespace Go.Proofs.YtipbebleapjcjaaGreatDoor
open Go.RowKit
def oO(s:ByteArray):List ByteArray:=if s.size=0 then[] else(tt s.data.toList).map mk
theorem agP(s:ByteArray)(a b:Nat):s.extract a b=mk ((s.data.toList.drop a).take (b-a)):=by
 rw[<- mk_data (s.extract a b)];congr 1;rw[Lib.extract_data]
theorem XA{l:List UInt8}{a b:Nat}(VW:a<=b)(hb:b<l.length)(h:46 ∉ (l.drop a).take (b-a))(hc:l[b]≠46):46 ∉ (l.drop a).take (b+1-a):=by
 have e:b+1-a=(b-a)+1:=by omega
 have hl:b-a<(l.drop a).length:=by rw[I9];omega
 rw[e,Iz hl];intro hm;rcases List.mem_append.1 hm with h2|h2
 .exact h h2
 .simp only[List.mem_singleton,List.getElem_drop] at h2
  have:a+(b-a)=b:=by omega
  simp only[this] at h2;exact hc h2.symm
theorem acT{l:List UInt8}{a b:Nat}(VW:a<=b)(hb:b<l.length)(h:46 ∉ (l.drop a).take (b-a))(hc:l[b]=46):tt (l.drop a)=(l.drop a).take (b-a)::tt (l.drop (b+1)):=by
 have e:l.drop a=(l.drop a).take (b-a)++46::l.drop (b+1):=by
  have h1:(l.drop a).drop (b-a)=l.drop b:=by rw[List.drop_drop];congr 1;omega
  have h2:l.drop b=46::l.drop (b+1):=by rw[List.drop_eq_getElem_cons hb,hc]
  rw[<- h2,<- h1,O3]
 conv=>lhs;rw[e]
 exact BC _ _ h
theorem acU(s:ByteArray):(tt s.data.toList).length<=s.size+1:=by
 rw[En];have h5:s.data.toList.count 46<=s.data.toList.length:=List.count_le_length;have h6:s.data.toList.length=s.size:=by simp
 omega
theorem agQ{s:ByteArray}{k:Nat}(h:k<s.size)(hb:s[k]=46)(hl:k<s.data.toList.length):s.data.toList[k]=46:=by
 rw[<- hb];simp[UF]
theorem agR{s:ByteArray}{k:Nat}(h:k<s.size)(hb:s[k]≠46)(hl:k<s.data.toList.length):s.data.toList[k]≠46:=λe=>hb (by
 rw[<- e];simp[UF])
theorem toNat_ne{c:UInt8}(h:c≠46):((c.toNat:Int)==46)=false/\¬ (c.toNat:Int)=46:=by
 have h2:¬ (c.toNat:Int)=46:=λe=>h (UInt8.toNat_inj.1 (by have:c.toNat=46:=(by omega);rw[this];rfl));exact⟨by simpa using h2,h2⟩
theorem xM(s:ByteArray)(w:World)(hs:s.size<=2000000) :
 Calls AT 45 #[I s] w λe w'=>∃v,e=Ia v/\nD w.heap.size w' v (oO s)/\Below w.heap.size w w':=by
 by_cases h0:s.size=0
 .have e0:oO s=[]:=by unfold oO;rw[if_pos h0]
  rw[e0];have:=nB h0;subst this;clear e0 h0 hs;go_enter func45,ntmps45;go_wp2_with fail;go_ret;exact⟨_,rfl,tW _ _,If _ _⟩
 .obtain⟨n1,n2⟩:=oC h0
  obtain⟨i0,qg,oS,so,sf⟩:=Jc Tryz.AU;have HL:Hid (oO s=(tt s.data.toList).map mk):=(show oO s=_ by unfold oO;rw[if_neg h0]);have GN:Hid ((tt s.data.toList).length<=s.size+1):=acU s;generalize oO s=LS at *;clear h0;go_enter func45,ntmps45;go_wp2_with fail;go_loopw [3,4,5] (λo f i wr=>∃(a k:Nat) (D:List (List UInt8)),a<=k/\k<=s.size/\f=O J a/\i=O J k/\Hid (tt s.data.toList=D++tt (s.data.toList.drop a))/\Hid (46 ∉ (s.data.toList.drop a).take (k-a))/\Hid (Below w.heap.size w wr)/\Hid (nD w.heap.size wr o (D.map mk))) (λ_ _ i _=>s.size-(intOf i).toNat)
  case atStart=>exact⟨0,0,[],By _,Iw _,rfl,rfl,rfl,(show 46 ∉ _ by simp),If _ _,tW _ _⟩
  case round=>
   obtain⟨a,k,D,hak,hk,rfl,rfl,HS,Lf,HB,HO⟩:=hrel;have od:=HB.out.size;have hDl:D.length<=s.size+1:=by
    have h5:=GN.out;rw[HS.out,Iq] at h5;omega
   have ha1:(0:Int)<=(a:Int):=by omega
   have ha3:((a:Int)).toNat=a:=by omega
   have hk3:((k:Int)).toNat=k:=by omega
   by_cases mS:k<s.size
   .have aon:(a:Int)<=(k:Int):=by omega
    have hks:(k:Int)<=(s.size:Int):=by omega
    by_cases hb:s[k]=46
    .have atT:((s[k]).toNat:Int)=46:=by rw[hb];rfl
     have Bv:Hid (tt s.data.toList=(D++[(s.data.toList.drop a).take (k-a)])++tt (s.data.toList.drop (k+1))):=(show _=_ by
      have hlk:k<s.data.toList.length:=by simpa using mS
      rw[HS.out,acT hak hlk Lf.out (agQ mS hb hlk)];simp)
     have HX:Hid (mk ((s.data.toList.drop a).take (k-a))=s.extract a k):=(agP s a k).symm;clear HS Lf;go_wp2_with (at_builtin;refine IY _ rfl _ _ 107 rfl w.heap.size 9 i0 _ 1 16 IS qg oS so sf rfl (by omega) _ (D.map mk).length ((D.map mk).map I) rfl ?hown ⟨wr.heap.size,0,U⟩ 1 1 [I (s.extract a k)] rfl rfl ?hnews (qj [_]) ?h63 ?hbytes ?hbase ?_)
     case hown=>exact HO.out.below ((If _ _).alloc (By _) _)
     case hnews=>(intro j u hj;rw[I4];exact(oY (by simp)).trans (by simpa using hj))
     case h63=>(rw[I8];unfold Il;omega)
     case hbytes=>(rw[I8];omega)
     case hbase=>(simp;omega)
     intro v' w2 r1 r2 r3;have vh:Hid (Below w.heap.size w w2):=(HB.out.alloc od _).grown r2 (by simp;omega) (λj hj=>(HO.out.lt j hj).1);have HOX:Hid (nD w.heap.size w2 v' ((D++[(s.data.toList.drop a).take (k-a)]).map mk)):=(show nD _ _ _ _ by
      rw[OI,J4,Og,HX.out];exact rO (l:=D.map mk) (by rw[I8,List.map_map];exact r1))
     clear r1 r2 r3 hb atT;go_wp2_with fail;exact⟨⟨k+1,k+1,D++[(s.data.toList.drop a).take (k-a)],By _,by omega,by go_num,by go_num,Bv,(show 46 ∉ _ by simp),vh,HOX⟩,by simp[intOf];omega⟩
    .obtain⟨hn1,hn2⟩:=toNat_ne hb
     have zy:Hid (46 ∉ (s.data.toList.drop a).take (k+1-a)):=(show 46 ∉ _ by
      have hlk:k<s.data.toList.length:=by simpa using mS
      exact XA hak hlk Lf.out (agR mS hb hlk))
     clear hb Lf;go_wp2_with fail;exact⟨⟨a,k+1,D,by omega,by omega,rfl,by go_num,HS,zy,HB,HO⟩,by simp[intOf];omega⟩
   .have tp:k=s.size:=by omega
    have HX:Hid (mk (s.data.toList.drop a)=s.extract a s.size):=(BE s a).symm;have Bv:Hid (LS=D.map mk++[mk (s.data.toList.drop a)]):=(show LS=_ by
     have h46:46 ∉ s.data.toList.drop a:=by
      have h:=Lf.out
      rwa [IJ (by rw[I9];simp;omega)] at h
     rw[HL.out,HS.out,xb _ h46];simp)
    have has:(a:Int)<=(s.size:Int):=by omega
    clear HS Lf HL;go_wp2_with (at_builtin;refine IY _ rfl _ _ 107 rfl w.heap.size 9 i0 _ 1 16 IS qg oS so sf rfl (by omega) _ (D.map mk).length ((D.map mk).map I) rfl ?hown ⟨wr.heap.size,0,U⟩ 1 1 [I (s.extract a s.size)] rfl rfl ?hnews (qj [_]) ?h63 ?hbytes ?hbase ?_)
    case hown=>exact HO.out.below ((If _ _).alloc (By _) _)
    case hnews=>(intro j u hj;rw[I4];exact(oY (by simp)).trans (by simpa using hj))
    case h63=>(rw[I8];unfold Il;omega)
    case hbytes=>(rw[I8];omega)
    case hbase=>(simp;omega)
    intro v' w2 r1 r2 r3;have vh:Hid (Below w.heap.size w w2):=(HB.out.alloc od _).grown r2 (by simp;omega) (λj hj=>(HO.out.lt j hj).1);have HOX:Hid (nD w.heap.size w2 v' LS):=(show nD _ _ _ _ by
     rw[Bv.out,HX.out];exact rO (l:=D.map mk) (by rw[I8,List.map_map];exact r1))
    clear r1 r2 r3;go_wp2_with fail;go_ret;exact⟨v',rfl,HOX.out,vh.out⟩
theorem CD(s:ByteArray):nS s=if(oO s).all mT=false then 1 else if 8<(oO s).length\/120<s.size then 2 else 0:=by
 unfold nS oO;by_cases h0:s.size=0
 .rw[if_pos h0,if_pos h0];simp[h0]
 .rw[if_neg h0,if_neg h0]
  have e:((tt s.data.toList).map mk).all mT=(tt s.data.toList).all wF:=by rw[List.all_map];rfl
  rw[e,I8]
theorem acW(s:ByteArray):(oO s).length<=s.size+1:=by
 unfold oO;split
 .simp
 .rw[I8];exact acU s
theorem Hz:∀{xs:List (List UInt8)} {x:List UInt8},x∈xs->x.length<=(jn xs).length
 |[y],x,h=>by simp at h;subst h;exact By _
 |y::z::r,x,h=>by
  have e:(jn (y::z::r)).length=y.length+1+(jn (z::r)).length:=by
   show(y++46::jn (z::r)).length=_;simp;omega
  rcases Jx.1 h with rfl|h2
  .omega
  .have:=Hz h2;omega
theorem XB(s:ByteArray)(hs:s.size<=Il):∀j,((oO s).getD j Ie).size<=Il:=λj=>by
 by_cases hj:j<(oO s).length
 .rw[show(oO s).getD j Ie=(oO s)[j] by simp[Ip,Ih hj]]
  have hm:(oO s)[j]∈oO s:=IU hj
  revert hm
  generalize(oO s)[j]=x;unfold oO;split
  .simp
  .intro hm
   obtain⟨y,hy,rfl⟩:=Ot.1 hm;rw[sJ];have h:=Hz hy;rw[acO] at h;have h6:s.data.toList.length=s.size:=by simp
   omega
 .rw[show(oO s).getD j Ie=Ie by simp[Ip,IK (by omega:(oO s).length<=j)]];decide
theorem rP(s:ByteArray)(w:World)(hs:s.size<=2000000) :
 Calls AT 44 #[I s] w λe w'=>e=Ia (O J (nS s))/\Below w.heap.size w w':=by
 have HLO:Hid (Calls AT 45 #[I s] w λe w'=>∃v,e=Ia v/\nD w.heap.size w' v (oO s)/\Below w.heap.size w w'):=xM s w hs;have Ho:s.size<=Il:=by unfold Il;omega
 have HZ:Hid (∀j,((oO s).getD j Ie).size<=Il):=XB s Ho;have HE:Hid (nS s=if(oO s).all mT=false then 1 else if 8<(oO s).length\/120<s.size then 2 else 0):=CD s;have hln:=acW s;have H0:Hid ((∀j,j<(oO s).length->mT ((oO s).getD j Ie)=true)->(oO s).all mT=true):=λh=>by
  rw[Od];intro x hx;obtain⟨j,hj,rfl⟩:=I2 hx;have:=h j hj;simpa[Ip,Ih hj] using this
 have H1:Hid (∀j,j<(oO s).length->mT ((oO s).getD j Ie)=false->(oO s).all mT=false):=λj hj h=>by
  rw[QU];refine⟨(oO s)[j],IU hj,?_⟩;rw[show(oO s).getD j Ie=(oO s)[j] by simp[Ip,Ih hj]] at h;simp[h]
 generalize nS s=r at *;generalize oO s=L at *;generalize L.all mT=al at *;go_enter func44,ntmps44;go_wp2_with (go_at_call 45;refine HLO.out.mono ?_;rintro e w1 ⟨v,rfl,hO,mO⟩);have mY:Hid (Below w.heap.size w w1):=mO;obtain⟨p,c,hv,Aq⟩:∃p c,v=sh p L.length c/\Hid (0<L.length->∃g,p=AI ⟨g,0,U⟩/\∀j,j<L.length->w1.cell? ⟨g,j,U⟩=AI (I (L.getD j Ie))):=by
  rcases nD.form hO with⟨h1,h2⟩|⟨g,c,h1,_,_,_,h5⟩
  .exact⟨U,0,by rw[h1,h2];rfl,λh=>by rw[h2] at h;simp at h⟩
  .exact⟨_,c,h1,λ_=>⟨g,rfl,h5⟩⟩
 subst hv;clear hO mO HLO;generalize Ap:L.length=n at *;clear Ap;go_loop [4] (λi=>∃k:Nat,k<=n/\i=O J k/\Hid (∀j,j<k->mT (L.getD j Ie)=true)) (λi=>n-(intOf i).toNat)
 case atStart=>exact⟨0,Iw _,rfl,λj h=>absurd h (IV _)⟩
 case round=>
  obtain⟨k,hk,rfl,hz⟩:=hrel;by_cases mS:k<n
  .obtain⟨g,hp,hc⟩:=Aq.out (by omega)
   subst hp;have Mp:=hc k mS;have Ci:=HZ.out k;have o6:Hid (mT (L.getD k Ie)=true->∀j,j<k+1->mT (L.getD j Ie)=true):=λh j hj=>by
    rcases IL.1 hj with h2|rfl
    .exact hz.out j h2
    .exact h
   have Sw:Hid (mT (L.getD k Ie)=false->r=1):=λh=>by rw[HE.out,H1.out k mS h];rfl
   clear hc;generalize L.getD k Ie=x at *;rcases hl:mT x with _|_
   .have HR:Hid (r=1):=Sw.out hl
    go_wp2_with (go_at_call 11;refine(mV _ _ Ci).mono ?_;rintro e w' ⟨rfl,rfl⟩;rw[hl]);go_ret;exact⟨mN HR.out.symm,mY.out⟩
   .have tu:=o6.out hl
    have HZ4:Hid (∀j,j<k+1->mT (L.getD j Ie)=true):=tu;clear o6 Sw tu;go_wp2_with (go_at_call 11;refine(mV _ _ Ci).mono ?_;rintro e w' ⟨rfl,rfl⟩;rw[hl]);go_round
    case rel=>exact⟨k+1,by omega,by go_num,HZ4.out⟩
    case measure=>simp[intOf];omega
  .have HAL:al=true:=H0.out λj hj=>hz.out j (by omega)
   have HR0:Hid (r=if 8<n\/120<s.size then 2 else 0):=(show r=_ by rw[HE.out,HAL];rfl);clear hz HE HAL;by_cases h8:8<n
   .have HR:Hid (r=2):=(show r=2 by rw[HR0.out,if_pos (.inl h8)])
    have h9:decide (8<(n:Int))=true:=by simp;omega
    clear HR0;go_wp2_with fail;go_ret;exact⟨mN HR.out.symm,mY.out⟩
   .have h9:decide (8<(n:Int))=false:=by simp;omega
    by_cases h120:120<s.size
    .have HR:Hid (r=2):=(show r=2 by rw[HR0.out,if_pos (.inr h120)])
     have h10:decide (120<(s.size:Int))=true:=by simp;omega
     clear HR0;go_wp2_with fail;go_ret;exact⟨mN HR.out.symm,mY.out⟩
    .have HR:Hid (r=0):=(show r=0 by rw[HR0.out,if_neg (by omega)])
     have h10:decide (120<(s.size:Int))=false:=by simp;omega
     clear HR0;go_wp2_with fail;go_ret;exact⟨mN HR.out.symm,mY.out⟩
theorem ql(e:Int)(w:World) :
 Calls AT 124 #[Ic true,O J e] w λx w'=>x=Ia (Ir #[])/\w'=w:=by
 go_enter func124,ntmps124;go_wp2_with fail;simp[JM,results,results124]
theorem pP(e:Int)(w:World) :
 Calls AT 124 #[Ic false,O J e] w λx w'=>x=.panicked [{ v:=.iface 185 (Iu #[O J e]),recovered:=false }]/\w'=w:=by
 go_enter func124,ntmps124;go_wp2_with fail;exact⟨rfl,rfl,rfl⟩
theorem M0(g:Nat)(x e:Int)(ai0:List PanicEntry)(w:World)(hg:g<w.heap.size)(hc:w.cell? ⟨g,0,U⟩=AI (O J x))(hz:w.frozen? ⟨g,0,U⟩=false) :
 CallsD AT 132 #[Ik (AI ⟨g,0,U⟩)] (.panicking ({ v:=.iface 185 (Iu #[O J e]),recovered:=false } :: ai0)) w λr u' w'=>
  r=Ia (Ir #[])/\u'=.panicking ({ v:=.iface 185 (Iu #[O J e]),recovered:=true } :: ai0)/\w'.cell? ⟨g,0,U⟩=AI (O J e)/\Below g w w':=by
 have e0:g≠w.heap.size:=by omega
 have hta:∀W:World,Sem.run AT (Instr.typeAssert (.iface 185 (Iu #[O J e])) 20 185 true) W=.ok (Ir #[Iu #[O J e],Ic true]) W:=λ_=>by kernel_rfl
 have sj:(w.setCell ⟨g,0,U⟩ (O J 1)).cell? ⟨g,0,U⟩=AI (O J 1):=by simp[go_sem,hc]
 have AP:((w.setCell ⟨g,0,U⟩ (O J 1)).setCell ⟨g,0,U⟩ (O J e)).cell? ⟨g,0,U⟩=AI (O J e):=by simp[go_sem,hc]
 have HE:Hid (∀o,(((w.setCell ⟨g,0,U⟩ (O J 1)).setCell ⟨g,0,U⟩ (O J e)).alloc o).cell? ⟨g,0,U⟩=AI (O J e)):=λo=>by
  rw[Oc (w:=(w.setCell ⟨g,0,U⟩ (O J 1)).setCell ⟨g,0,U⟩ (O J e)) o g 0 (by simpa using hg)];exact AP
 have HB:Hid (∀o,Below g w (((w.setCell ⟨g,0,U⟩ (O J 1)).setCell ⟨g,0,U⟩ (O J e)).alloc o)):=λo=>
  (((If g w).setCell (p:=⟨g,0,U⟩) (By _) _).setCell (p:=⟨g,0,U⟩) (By _) _).alloc (by simp;omega) _
 clear sj AP;refine callsD_of_wpS func132 rfl λc₀ cs hu=>?_;apply wpS_seq;apply wpS_region;simp[wpOpsS,go_sem,recoverD,hu,ntmps132,Exit.thenS,Array.replicate];refine wpS_of_wp ?_;go_wp2_with fail;have h1:=HE.out (Ib #[O J e] 185);have h2:=HB.out (Ib #[O J e] 185);cases c₀
 simp[bodyPostS,results,results132];exact⟨h1,h2⟩
theorem Sx(p:Addr)(w:World) :
 CallsD AT 132 #[Ik (AI p)] .returning w λe u' w'=>e=Ia (Ir #[])/\u'=.returning/\w'=w:=by
 refine callsD_of_wpS func132 rfl λc₀ cs hu=>?_;apply wpS_seq;apply wpS_region;simp[wpOpsS,go_sem,recoverD,hu,ntmps132,Exit.thenS,Array.replicate];refine wpS_of_wp ?_;go_wp2_with fail;cases c₀
 simp_all [bodyPostS,results,results132]
theorem Fc(f:Nat)(DU:Array Value)(w:World)(R:World->Prop)(ef:∀args W,(Q6 f args).run AT W=.ok (.enter f args) W)(hw:Calls AT f DU (w.alloc (Ib #[O J 0] 31)) λr w'=>r=Ia (Ir #[])/\R w'/\w'.cell? ⟨w.heap.size,0,U⟩=AI (O J 0)/\w'.frozen? ⟨w.heap.size,0,U⟩=false/\w.heap.size<w'.heap.size) :
 Calls AT 72 #[JD (.func f) #[] DU] w λr w'=>r=Ia (O J 0)/\∃w1,R w1/\w.heap.size<w1.heap.size/\w'=w1.setCell ⟨w.heap.size,0,U⟩ (O J 0):=by
 have hmf:∀(fn:Fn) (first cap:Array Value) (w:World),(Instr.makeFunc fn first cap).run AT w=.ok (JD fn first cap) w:=λ_ _ _ _=>rfl;have HW:Hid (Calls AT f DU (w.alloc (Ib #[O J 0] 31)) λr w'=>r=Ia (Ir #[])/\Hid (R w')/\w'.cell? ⟨w.heap.size,0,U⟩=AI (O J 0)/\w'.frozen? ⟨w.heap.size,0,U⟩=false/\w.heap.size<w'.heap.size):=hw;clear hw;go_enter_defers func72,ntmps72
 go_wp2_with fail;refine HW.out.mono ?_;rintro e w1 ⟨rfl,HR,h1,h2,h3⟩;go_wp2_with fail;refine leaves_cons (f:=132) (args:=#[Ik (AI ⟨w.heap.size,0,U⟩)]) (by simp) (by simp[go_sem]) ?_;refine(Sx ⟨w.heap.size,0,U⟩ _).mono ?_;rintro e u' DQ ⟨rfl,rfl,rfl⟩;simp[Leaves,settle,results,results72,go_sem,h1];exact⟨w1,HR.out,h3,rfl⟩
theorem Fe(f:Nat)(DU:Array Value)(e:Int)(w:World)(R:World->Prop)(ef:∀args W,(Q6 f args).run AT W=.ok (.enter f args) W)(hw:Calls AT f DU (w.alloc (Ib #[O J 0] 31)) λr w'=>r=.panicked [{ v:=.iface 185 (Iu #[O J e]),recovered:=false }]/\R w'/\w'.cell? ⟨w.heap.size,0,U⟩=AI (O J 0)/\w'.frozen? ⟨w.heap.size,0,U⟩=false/\w.heap.size<w'.heap.size) :
 Calls AT 72 #[JD (.func f) #[] DU] w λr w'=>r=Ia (O J e)/\∃w1,R w1/\w.heap.size<w1.heap.size/\Below w.heap.size w1 w':=by
 have hmf:∀(fn:Fn) (first cap:Array Value) (w:World),(Instr.makeFunc fn first cap).run AT w=.ok (JD fn first cap) w:=λ_ _ _ _=>rfl;have HW:Hid (Calls AT f DU (w.alloc (Ib #[O J 0] 31)) λr w'=>r=.panicked [{ v:=.iface 185 (Iu #[O J e]),recovered:=false }]/\Hid (R w')/\w'.cell? ⟨w.heap.size,0,U⟩=AI (O J 0)/\w'.frozen? ⟨w.heap.size,0,U⟩=false/\w.heap.size<w'.heap.size):=hw;clear hw;go_enter_defers func72,ntmps72
 go_wp2_with fail;refine HW.out.mono ?_;rintro r w1 ⟨rfl,HR,h1,h2,h3⟩;refine leaves_cons (f:=132) (args:=#[Ik (AI ⟨w.heap.size,0,U⟩)]) (by simp) (by simp[go_sem]) ?_;refine(M0 w.heap.size 0 e [] w1 h3 h1 h2).mono ?_;rintro r u' DQ ⟨rfl,rfl,h4,h5⟩;simp[Leaves,settle,results,results72,go_sem,h4];exact⟨w1,HR.out,h3,h5⟩
theorem VX(g a n:Nat)(t:ByteArray)(w:World)(c0:w.cell? ⟨g,0,U⟩=AI (I t))(c1:w.cell? ⟨g,1,U⟩=AI (O J a))(hz:w.frozen? ⟨g,1,U⟩=false)(hs:t.size<=1000)(Ar:a+n<=t.size) :
 Calls AT 172 #[Ik (AI ⟨g,0,U⟩),O J n] w λe w'=>e=Ia (I (t.extract a (a+n)))/\∃m,w'=(w.setCell ⟨g,1,U⟩ (O J ((a:Int)+(n:Int)))).drew.drewN m:=by
 have h1:IntKind.i64.wrap ((t.size:Int)-(a:Int))=(t.size:Int)-(a:Int):=by rw[IW];omega
 have h2:decide ((n:Int)<=(t.size:Int)-(a:Int))=true:=by simp;omega
 have h3:IntKind.i64.wrap ((a:Int)+(n:Int))=((a+n:Nat):Int):=by rw[IW];omega
 have h4:IntKind.i64.wrap (((a+n:Nat):Int)-(n:Int))=(a:Int):=by rw[IW];omega
 go_enter func172,ntmps172;go_wp2_with fail;go_region_held3 (λw'=>w'.cell? ⟨g,0,U⟩=AI (I t)/\w'.cell? ⟨g,1,U⟩=AI (O J a)) (go_keep) (first|(go_at_call 124;refine(ql _ _).mono ?_;rintro e w5 ⟨rfl,rfl⟩)|fail)
 go_wp2_with fail;have qg:(0:Int)<=(a:Int):=by omega
 have XC:(a:Int)<=((a+n:Nat):Int):=by omega
 have GM:((a+n:Nat):Int)<=(t.size:Int):=by omega
 have hi3:((a:Int)).toNat=a:=by omega
 have hi4:(((a+n:Nat):Int)).toNat=a+n:=by omega
 go_quiet (fail)
 go_wp2_with fail;go_ret;exact⟨rfl,_,rfl⟩
theorem agT(g a:Nat)(t:ByteArray)(w:World)(c0:w.cell? ⟨g,0,U⟩=AI (I t))(c1:w.cell? ⟨g,1,U⟩=AI (O J a))(ha:a<t.size) :
 Calls AT 173 #[Ik (AI ⟨g,0,U⟩)] w λe w'=>e=Ia (O .u8 (t[a].toNat:Int))/\∃m,w'=w.drew.drewN m:=by
 have h2:decide ((a:Int)<(t.size:Int))=true:=by simp;omega
 have qg:(0:Int)<=(a:Int):=by omega
 have XC:(a:Int)<(t.size:Int):=by omega
 have hi3:((a:Int)).toNat=a:=by omega
 go_enter func173,ntmps173;go_wp2_with fail;go_region_held3 (λw'=>w'.cell? ⟨g,0,U⟩=AI (I t)/\w'.cell? ⟨g,1,U⟩=AI (O J a)) (go_keep) (first|(go_at_call 124;refine(ql _ _).mono ?_;rintro e w5 ⟨rfl,rfl⟩)|fail)
 go_wp2_with fail;go_quiet (fail)
 go_wp2_with fail;go_ret;exact⟨rfl,_,rfl⟩
def mP(t:ByteArray)(a:Nat):Nat->Nat
 |0=>0
 |k+1=>mP t a k*256+(t.data[a+k]?.getD 0).toNat
theorem wu(t:ByteArray)(a:Nat):∀k,mP t a k<256^k
 |0=>by simp[mP]
 |k+1=>by
  have h:=wu t a k;have h2:=(t.data[a+k]?.getD 0).toNat_lt;simp only[mP,Nat.pow_succ];omega
theorem agU(x b:Nat)(hx:x<4294967296)(hb:b<256):bits .or J ((x:Int)*256) (wrap64 (b:Int))=((x*256+b:Nat):Int):=by
 have h1:((x:Int)*256)=((x*256:Nat):Int):=by omega
 have h2:wrap64 (b:Int)=(b:Int):=by unfold wrap64;omega
 have h3:x*256 ||| b=x*256+b:=by
  rw[show x*256=2^8*x by omega,<- Nat.two_pow_add_eq_or_of_lt (i:=8) hb]
 rw[h1,h2];show IntKind.i64.wrap (((BitVec.ofInt 64 ((x*256:Nat):Int)) ||| (BitVec.ofInt 64 (b:Int))).toNat:Int)=_;rw[BitVec.toNat_or,BitVec.ofInt_natCast,BitVec.ofInt_natCast,BitVec.toNat_ofNat,BitVec.toNat_ofNat,Nat.mod_eq_of_lt (by omega),Nat.mod_eq_of_lt (by omega),h3,IW];omega
theorem Ff(w:World)(s:ByteArray):w.drew.alloc (Ib (bytesRow s (grownCap w s.size 0 5)) 5 ((bytesRow s (grownCap w s.size 0 5)).size,(bytesRow s (grownCap w s.size 0 5)).size+1))=O6 w 5 s:=by
 have h1:=QR (P:=AT) w 9 139 5 s (u:=.string) IF Oa JA;have h2:=run_bytes_of_string (P:=AT) w 9 139 5 s IF Oa JA;rw[h1] at h2;injection h2 with _ h;exact h.symm
theorem Fg(g a n:Nat)(t:ByteArray)(w:World)(c0:w.cell? ⟨g,0,U⟩=AI (I t))(c1:w.cell? ⟨g,1,U⟩=AI (O J a))(hz:w.frozen? ⟨g,1,U⟩=false)(hs:t.size<=1000)(Ar:a+n<=t.size)(hn:n<=4) :
 Calls AT 123 #[Ik (AI ⟨g,0,U⟩),O J n] w λe w'=>e=Ia (O J (mP t a n))/\(w.setCell ⟨g,1,U⟩ (O J ((a:Int)+(n:Int)))).Extends w':=by
 have HT:Hid (Calls AT 172 #[Ik (AI ⟨g,0,U⟩),O J n] w λe w'=>e=Ia (I (t.extract a (a+n)))/\∃m,w'=(w.setCell ⟨g,1,U⟩ (O J ((a:Int)+(n:Int)))).drew.drewN m):=VX g a n t w c0 c1 hz hs Ar;have od:(t.extract a (a+n)).size=n:=by simp;omega
 have hcv:=λw s=>QR (P:=AT) w 9 139 5 s (u:=.string) IF Oa JA;have hB:=λw j hj=>Lib.bytesWorld_cell w 5 (t.extract a (a+n)) j hj;go_enter func123,ntmps123;go_wp2_with fail;refine HT.out.mono ?_;rintro e w1 ⟨rfl,m,rfl⟩;go_wp2_with fail;obtain⟨W0,rm⟩:∃W0,W0=(w.setCell ⟨g,1,U⟩ (O J ((a:Int)+(n:Int)))).drewN (1+m):=⟨_,rfl⟩;rw[<- rm];have hB':∀j,j<n->(O6 W0 5 (t.extract a (a+n))).cell? ⟨W0.heap.size,j,U⟩=AI (O .u8 ((t.extract a (a+n)).data.toList.getD j 0).toNat):=λj hj=>hB W0 j (by omega);have hX:W0.Extends (O6 W0 5 (t.extract a (a+n))):=by
  rw[<- Ff W0 (t.extract a (a+n))];exact(World.Extends.refl W0).drew.alloc _
 have hX0:(w.setCell ⟨g,1,U⟩ (O J ((a:Int)+(n:Int)))).Extends W0:=by
  subst rm;generalize 1+m=q;exact⟨rfl,rfl,rfl,By _,λ_ _=>rfl,λ_ _=>rfl,λ_ _=>rfl⟩
 have hXX:=hX0.trans hX;obtain⟨W1,uj⟩:∃W1,W1=O6 W0 5 (t.extract a (a+n)):=⟨_,rfl⟩;have CB:W0.heap.size=w.heap.size:=by rw[rm];simp
 rw[CB] at hB';rw[<- uj] at hB' hXX ⊢;clear hB hcv hX hX0 uj rm;go_loop [5,13] (λvn vi=>∃(k:Nat) (x:Nat),vn=O J x/\vi=O J k/\k<=n/\Hid (x=mP t a k))
  (λ_ vi=>n-(intOf vi).toNat)
 case atStart=>exact⟨0,0,rfl,rfl,by omega,rfl⟩
 case round=>
  obtain⟨k,x,rfl,rfl,hk,hx⟩:=hrel;by_cases tp:k<n
  .have hc:decide ((k:Int)<(n:Int))=true:=by simp;omega
   have nG:=hB' k tp;have qg:(0:Int)<=(k:Int):=by omega
   have XC:(k:Int)<(n:Int):=by omega
   have GM:((k:Int)).toNat=k:=by omega
   have hxl:x<4294967296:=by
    have h:=wu t a k;have h3:(256:Nat)^k<=256^3:=Q9 (by omega) (by omega);rw[<- hx.out] at h;omega
   have Er:=agU x (t.data[a+k]?.getD 0).toNat hxl (UInt8.toNat_lt _);have hH:Hid (x*256+(t.data[a+k]?.getD 0).toNat=mP t a (k+1)):=by
    show _=_;rw[hx.out];rfl
   go_wp2_with fail;refine⟨⟨k+1,_,by simp,by simp,by omega,hH⟩,by simp[intOf];omega⟩
  .have hc:decide ((k:Int)<(n:Int))=false:=by simp;omega
   have agV:k=n:=by omega
   have hH:Hid (x=mP t a n):=by rw[<- agV];exact hx
   go_wp2_with fail;simp[JM,results,results123];exact⟨by rw[hH.out],hXX⟩
end Go.Proofs.YtipbebleapjcjaaGreatDoor
namespace Go.Proofs.YtipbebleapjcjaaGreatDoor
open Go.RowKit Go.Shelf Go.Lib
theorem Fh:∀(k:Nat) (l:List UInt8),l.count 46<=k->Lib.splitK [46] 0 k l=tt l
 |0,l,h=>by
  have:46 ∉ l:=λhm=>by have:=List.count_pos_iff.2 hm;omega
  rw[xb l this];rfl
 |k+1,l,h=>by
  have Ep:=Lib.indexByte_ge l 46;unfold Lib.splitK;rw[Lib.index_one];by_cases hi:JP l 46 = -1
  .rw[if_pos (by rw[hi];rfl),xb l (La hi)]
  .obtain⟨i,GM⟩:∃i:Nat,JP l 46=(i:Int):=⟨(JP l 46).toNat,by omega⟩
   obtain⟨h1,h2,h3⟩:=Eo GM;rw[if_neg (by rw[GM];simp),GM];have e:((i:Int)).toNat=i:=by omega
   rw[e];have hc:(l.drop (i+1)).count 46<=k:=by
    have h4:=congrArg (List.count 46) h2;rw[List.count_append,List.count_cons_self] at h4;omega
   show l.take (i+0)::Lib.splitK [46] 0 k (l.drop (i+1))=tt l;rw[Fh k _ hc,Nat.add_zero]
   conv=>rhs;rw[h2]
   rw[BC _ _ h3]
theorem Sy(s:ByteArray):Lib.splitB ⟨#[46]⟩ 0 (Lib.countB s ⟨#[46]⟩) s=(tt s.data.toList).map mk:=by
 have h:=Lib.splitB_data ⟨#[46]⟩ 0 (Lib.countB s ⟨#[46]⟩) s;have hc:Lib.countB s ⟨#[46]⟩=s.data.toList.count 46:=Lib.count_one 46 s.data.toList;rw[show(J9 #[46]).data.toList=[46] from rfl,Fh _ _ (by rw[hc];exact By _)] at h;rw[<- h,List.map_map];have e:(mk∘λx:ByteArray=>x.data.toList)=id:=by funext x;exact mk_data x
 rw[e,List.map_id]
def ML(w:World):Prop:=0<w.heap.size/\∃m,w.cell? ⟨0,0,U⟩=AI (O J m)
theorem ML.below{w w':World}(h:ML w)(hb:RowKit.Below w.heap.size w w'):ML w':=by
 obtain⟨h1,m,h2⟩:=h;exact⟨Ix h1 hb.size,m,(hb.cell (p:=⟨0,0,U⟩) h1).trans h2⟩
theorem Ka(s:ByteArray)(w:World)(hm:ML w)(hs:s.size<=1000) :
 Calls AT 74 #[I s,I ⟨#[46]⟩] w λe w'=>e=Ia (sh (AI ⟨w.heap.size,0,U⟩) (tt s.data.toList).length (tt s.data.toList).length)/\w'=w.alloc (Ib (((tt s.data.toList).map mk).map I).toArray 9):=by
 obtain⟨_,m,h2⟩:=hm;have h:=Tryz.strings_Split s ⟨#[46]⟩ m w (by omega) h2 (by decide);rw[Sy] at h;have hc:Lib.countB s ⟨#[46]⟩+1=(tt s.data.toList).length:=by
  rw[En];show Lib.count s.data.toList [46]+1=_;rw[Lib.count_one]
 rw[hc] at h;exact h
end Go.Proofs.YtipbebleapjcjaaGreatDoor
namespace Go.Proofs
open Go.Shelf
end Go.Proofs
namespace Go.Proofs.YtipbebleapjcjaaGreatDoor
open Go.RowKit
theorem Tryz.infoByte:(Tryz.prog.info? 5).map (λi=>(i.zero,i.size,i.bytes))=AI (AI (O .u8 0),1,1):=by kernel_rfl
theorem Tryz.sizeBuilder:(Tryz.prog.info? 228).map (·.size)=AI 2:=by kernel_rfl
theorem Tryz.Sz:liesAt AT Tryz.prog.depth 238 (2/Tryz.prog.cellsOf 238) 0 228 1=true:=by kernel_rfl
abbrev Ri(B b:Nat)(p:Value)(bs:List Value)(w:World):Prop:=Lib.BuilderAt 238 5 B b p bs w
def oZ(B b:Nat)(bs:List Value)(w:World):Prop:=Ri B b (Ik U) bs w\/Ri B b (Ik (AI ⟨b,0,U⟩)) bs w
def oV(w:World)(b:Nat):Option Nat:=(w.cell? ⟨b,1,U⟩).bind Jb
def Kq(b:Nat)(w w':World):Prop:=b<w.heap.size->(∀k,k<w.heap.size->k≠b->AI k≠oV w b->w'.heap[k]?=w.heap[k]?)/\(oV w' b=oV w b\/∀k,oV w' b=AI k->w.heap.size<=k)
structure Kp(B b:Nat)(w w':World):Prop where
 Mo:Below B w w'
 oth:Lib.OthersKept 5 (AI b) w w'
 kq:Kq b w w'
theorem Kq.refl(b:Nat)(w:World):Kq b w w:=λ_=>⟨λ_ _ _ _=>rfl,.inl rfl⟩
theorem Kq.trans{b:Nat}{w w1 w2:World}(h:Kq b w w1)(k:Kq b w1 w2)(hs:w.heap.size<=w1.heap.size):Kq b w w2:=λhb=>by
 obtain⟨h1,h2⟩:=h hb;obtain⟨k1,k2⟩:=k (Ix hb hs);refine⟨λj hj hjb Xg=>?_,?_⟩
 .refine(k1 j (Ix hj hs) hjb λe=>?_).trans (h1 j hj hjb Xg)
  rcases h2 with h2|h2
  .exact Xg (e.trans h2)
  .have:=h2 j e.symm;omega
 .rcases k2 with k2|k2
  .rcases h2 with h2|h2
   .exact .inl (k2.trans h2)
   .exact .inr λj hj=>h2 j (k2▸hj)
  .exact .inr λj hj=>IB hs (k2 j hj)
theorem Kp.refl(B b:Nat)(w:World):Kp B b w w:=⟨If _ _,Lib.OthersKept.refl _ _ _,Kq.refl b w⟩
theorem Kp.trans{B b:Nat}{w w1 w2:World}(h:Kp B b w w1)(k:Kp B b w1 w2):Kp B b w w2:=⟨h.Mo.trans k.Mo,h.oth.trans k.oth,h.kq.trans k.kq h.Mo.size⟩
theorem Kp.drew{B b:Nat}{w w1:World}(h:Kp B b w w1):Kp B b w w1.drew:=⟨h.Mo.drew,h.oth.drew,h.kq⟩
theorem Kp.size{B b:Nat}{w w1:World}(h:Kp B b w w1):w.heap.size<=w1.heap.size:=h.Mo.size
theorem Kq.step{b:Nat}{w1 w2:World}{p v v':Value}{T:Ji}(mO:w1.heap[b]?=AI (Ib #[p,v] T (0,0)))(mZ:w2.heap[b]?=AI (Ib #[p,v] T (0,0)))(hg:∀k,k<w1.heap.size->AI k≠v.ownBlock->w2.heap[k]?=w1.heap[k]?)(qi:v'.ownBlock=v.ownBlock\/∀k,v'.ownBlock=AI k->w1.heap.size<=k):Kq b w1 (w2.setCell ⟨b,1,U⟩ v'):=λ_=>by
 have e1:oV w1 b=v.ownBlock:=by unfold oV;rw[fi mO 1];rfl
 have e2:oV (w2.setCell ⟨b,1,U⟩ v') b=v'.ownBlock:=by unfold oV;rw[World.cell?_setCell_same _ _ _ (fi mZ 1:w2.cell? ⟨b,1,U⟩=AI v)];rfl
 rw[e1,e2];exact⟨λk hk hkb tp=>(IC w2 _ v' k hkb).trans (hg k hk tp),qi⟩
theorem Fi{B n:Nat}{w:World}{v:Value}{xs:List Value}(h:w.ownsRow B 5 1 v n xs):∀g,v.ownBlock=AI g->∃c fz,w.heap[g]?=AI (Ib c 5 fz):=by
 intro g hg;rcases h.2 with⟨rfl,_⟩|⟨g',cap,cur,rfl,_,hgg,_⟩
 .simp[Jb] at hg
 .simp[Jb] at hg
  subst hg;exact⟨cur,_,hgg⟩
theorem SH(b:Nat)(w:World)(h0:w.cell? ⟨b,0,U⟩=AI (Ik U))(EJ:w.shape? b=AI (238,2))(ux:w.frozen? ⟨b,0,U⟩=false) :
 Calls AT 224 #[Ik (AI ⟨b,0,U⟩)] w λe w'=>e=Ia (Ir #[])/\w'=w.setCell ⟨b,0,U⟩ (Ik (AI ⟨b,0,U⟩)):=by
 obtain⟨j,hj,hjs⟩:=Option.map_eq_some_iff.1 Tryz.sizeBuilder;go_enter func224,ntmps224;go_wp2_with fail;rw[Lib.run_to_unsafe w ⟨b,0,U⟩ UA underlying290 hj (by rw[hjs];decide) EJ (Nat.zero_lt_succ 1)];simp only[Result.andThen];rw[Oper.upon_value];go_wp2_with fail;rw[run_callFunc_extern func255 (by kernel_rfl) (by kernel_rfl) (by kernel_rfl) (e:=Extern.AbiNoEscape.same) (by kernel_rfl)];rw[Lib.run_noEscape];simp only[Result.andThen];rw[Oper.upon_value];go_wp2_with fail;rw[Lib.run_from_unsafe w ⟨b,0,U⟩ underlying290 UA hj EJ Tryz.Sz];simp only[Result.andThen];rw[Oper.upon_value];go_wp2_with fail;simp[JM,results,results224]
theorem XD(b:Nat)(w:World)(h0:w.cell? ⟨b,0,U⟩=AI (Ik (AI ⟨b,0,U⟩))) :
 Calls AT 224 #[Ik (AI ⟨b,0,U⟩)] w λe w'=>e=Ia (Ir #[])/\w'=w:=by
 obtain⟨j,hj,_⟩:=Option.map_eq_some_iff.1 Tryz.sizeBuilder;go_enter func224,ntmps224;go_wp2_with fail;rw[Lib.run_neq_ptr_same w _ UA hj];go_wp2_with fail;simp[JM,results,results224]
theorem M1(B b:Nat)(bs:List Value)(w:World)(h:oZ B b bs w) :
 Calls AT 224 #[Ik (AI ⟨b,0,U⟩)] w λe w'=>e=Ia (Ir #[])/\Ri B b (Ik (AI ⟨b,0,U⟩)) bs w'/\Kp B b w w':=by
 rcases h with h|h
 .refine(SH b w h.cell0 h.shape h.frozen0).mono ?_
  rintro e w' ⟨rfl,rfl⟩;exact⟨rfl,h.used _,(If B w).setCell (p:=⟨b,0,U⟩) h.1 _,(Lib.OthersKept.refl _ _ w).setCell ⟨b,0,U⟩ rfl _,λ_=>⟨λk _ hkb _=>IC w _ _ k hkb,.inl (by unfold oV;rw[World.cell?_setCell_other _ _ _ _ (by simp)])⟩⟩
 .refine(XD b w h.cell0).mono ?_
  rintro e w' ⟨rfl,rfl⟩;exact⟨rfl,h,Kp.refl B b _⟩
theorem Au(B b:Nat)(bs:List Value)(c:Int)(w:World)(h:oZ B b bs w)(hlen:bs.length+1<=1000000)(Cj:B<=w.heap.size) :
 Calls AT 262 #[Ik (AI ⟨b,0,U⟩),O .u8 c] w λe w'=>e=Ia .nilIface/\Ri B b (Ik (AI ⟨b,0,U⟩)) (bs++[O .u8 c]) w'/\Kp B b w w':=by
 obtain⟨i0,hi,oS,pC,xC⟩:=Jc Tryz.infoByte;have HC:Hid (Calls AT 224 #[Ik (AI ⟨b,0,U⟩)] w λe w'=>e=Ia (Ir #[])/\Ri B b (Ik (AI ⟨b,0,U⟩)) bs w'/\Kp B b w w'):=M1 B b bs w h;clear h;go_enter func262,ntmps262;go_wp2_with fail;refine HC.out.mono ?_;rintro e w1 ⟨rfl,h1,mO⟩;obtain⟨hB,v,Ld,hown,nK⟩:=h1;have c0:w1.cell? ⟨b,0,U⟩=AI (Ik (AI ⟨b,0,U⟩)):=fi Ld 0;have c1:w1.cell? ⟨b,1,U⟩=AI v:=fi Ld 1;have XE:=mO.size;have HO:Hid (w1.ownsRow B 5 1 v bs.length bs):=hown;have HK:Hid (w1.heap[b]?=AI (Ib #[Ik (AI ⟨b,0,U⟩),v] 238 (0,0))):=Ld;clear hown Ld;go_wp2_with (at_builtin;refine wpList_append_own_at _ rfl _ _ 139 rfl B 5 i0 (O .u8 0) 1 1 Oa hi oS pC xC rfl (by decide) _ bs.length bs rfl (HO.out.alloc _) ⟨w1.heap.size,0,U⟩ 1 1 [O .u8 c] rfl rfl ?c1 ?c2 ?c3 ?c4 ?c5 ?_)
 case c1=>(intro j u hj;rw[I4];exact(oY (by simp)).trans (by simpa using hj))
 case c2=>(intro u hu;simp at hu;subst hu;rfl)
 case c3=>(unfold Il;omega)
 case c4=>omega
 case c5=>(simp;omega)
 intro v' w2 Fj oB _ qi;have mS:b<w1.heap.size:=(Ig.1 HK.out).1;have mZ:w2.heap[b]?=AI (Ib #[Ik (AI ⟨b,0,U⟩),v] 238 (0,0)):=by
  rw[oB.block b (by simp;omega) (λe=>nK e.symm),Jj w1 _ b mS];exact HK.out
 have d0:w2.cell? ⟨b,0,U⟩=AI (Ik (AI ⟨b,0,U⟩)):=fi mZ 0;have d1:w2.cell? ⟨b,1,U⟩=AI v:=fi mZ 1;have f1:w2.frozen? ⟨b,1,U⟩=false:=Lib.frozen_of_heap mZ 1;have nR:Hid (Below B w w2/\Lib.OthersKept 5 (AI b) w w2):=(show _/\_ from⟨(mO.Mo.alloc (by omega) _).grown oB (by simp;omega) (λk hk=>(HO.out.lt k hk).1),(mO.oth.alloc _).grown oB (Fi (HO.out.alloc _))⟩);have HKQ:Hid (Kq b w (w2.setCell ⟨b,1,U⟩ v')):=mO.kq.trans (Kq.step HK.out mZ (λk hk tp=>(oB.block k (by simp;omega) tp).trans (Jj w1 _ k hk)) (qi.imp id (λe k hk=>by rw[e] at hk;simp at hk;omega))) XE;have vN:Hid (w2.heap[b]?=AI (Ib #[Ik (AI ⟨b,0,U⟩),v] 238 (0,0))):=mZ;have sI:Hid (w2.ownsRow B 5 1 v' (bs.length+1) (bs++[O .u8 c])):=Fj;obtain⟨g,cap,hv⟩:∃g cap,v'=sh (AI ⟨g,0,U⟩) (bs.length+1) cap:=by
  rcases Fj.2 with⟨_,h0⟩|⟨g,cap,cur,hv,_⟩
  .omega
  .exact⟨g,cap,hv⟩
 subst hv;clear Fj oB mZ c0 c1 mO qi;go_wp2_with fail;go_ret;refine⟨rfl,?_,?_⟩
 .exact Lib.BuilderAt.put (T:=238) (e:=5) hB vN.out (bs':=bs++[O .u8 c]) (by simpa using sI.out) (by decide)
 .exact⟨nR.out.1.setCell (p:=⟨b,1,U⟩) hB _,nR.out.2.setCell ⟨b,1,U⟩ rfl _,HKQ.out⟩
def bt(n:Int)(m:Nat):Int:=IntKind.u8.wrap (n/2^(8*(m:Int)).toNat)
def qo(n:Int):Nat->List Value
 |0=>[]
 |k+1=>.int .u8 (bt n k)::qo n k
theorem nM(B b nb:Nat)(n:Int)(bs:List Value)(w:World)(h:oZ B b bs w)(hnb:nb<=8)(hlen:bs.length<=100000)(Cj:B<=w.heap.size) :
 Calls AT 230 #[Ik (AI ⟨b,0,U⟩),O J nb,O J n] w λe w'=>e=Ia (Ir #[])/\oZ B b (bs++qo n nb) w'/\Kp B b w w':=by
 have HI:Hid (oZ B b bs w):=h;clear h;go_enter func230,ntmps230;go_wp2_with fail;go_loopw [6] (λi wr=>∃(k:Nat) (D:List Value),k<=nb/\i=O J ((k:Int)-1)/\D.length+k<=200000/\Hid (D++qo n k=bs++qo n nb)/\Hid (oZ B b D wr)/\Hid (Kp B b w wr)) (λi _=>(intOf i+1).toNat)
 case atStart=>exact⟨nb,bs,By _,by go_num,by omega,rfl,HI,Kp.refl _ _ _⟩
 case round=>
  obtain⟨k,D,hk,rfl,hD,HN,HW,HB⟩:=hrel;cases k with
  |zero=>
   have HW2:Hid (oZ B b (bs++qo n nb) wr):=(show oZ _ _ _ _ by rw[<- HN.out,show qo n 0=[] from rfl,QM];exact HW.out);go_wp2_with fail;simp[JM,results,results230];exact⟨HW2.out,HB.out⟩
  |succ m=>
   have e1:(((m+1:Nat):Int)-1)=(m:Int):=by omega
   rw[e1];have hm0:(0:Int)<=(m:Int):=by omega
   have hmul:IntKind.i64.wrap (8*(m:Int))=8*(m:Int):=by rw[IW];omega
   have hBr:B<=wr.heap.size:=IB Cj HB.out.size;have HWd:Hid (oZ B b D wr.drew):=HW.out;go_wp2_with fail;go_region_held3 (λ_=>True) (trivial) (first
    |(go_at_call 262;refine(Au B b D _ _ HW.out (by omega) hBr).mono ?_;rintro e w5 ⟨rfl,DV,sK⟩)
    |(go_at_call 262;refine(Au B b D _ _ HWd.out (by omega) hBr).mono ?_;rintro e w5 ⟨rfl,DV,sK⟩))
   have HW6:Hid (oZ B b (D++[O .u8 (bt n m)]) w5):=(show oZ _ _ _ _ from .inr DV);have tq:Hid (Kp B b w w5):=HB.out.drew.trans sK;have M3:Hid ((D++[O .u8 (bt n m)])++qo n m=bs++qo n nb):=(show _=_ by rw[<- HN.out,Jh];rfl);clear DV sK;go_wp2_with fail;exact⟨⟨m,D++[O .u8 (bt n m)],by omega,by go_num,by simp;omega,M3,HW6,tq⟩,by simp[intOf]⟩
theorem Fk{P:Program}{w W:World}{base n:Nat}{t u ty e:Ji}{i:TypeInfo}{v v':Value}{xs:List Value}{s:ByteArray}(ht:P.underlying t=AI (.slice e))(hu:P.underlying u=AI .string)(hi:P.info? e=AI i)(hz:i.zero=AI (O .u8 0))(Av:i.size=1)(hby:i.bytes=1)(hown:w.ownsRow base e 1 v n xs)(h63:n+s.size<=Il)(hbytes:n+s.size<=140737488355328)(hr:(Ur #[t,u] ty #[v,I s]).run P w=.ok v' W)(uI:v'=sh U 0 0↔v=sh U 0 0/\s.size=0):v'.ownBlock=v.ownBlock\/v'.ownBlock=AI w.heap.size:=by
 have hm:n+s.size<=9223372036854775807:=by simp only[Il] at h63;omega
 have hxl:xs.length=n:=by simpa using hown.1
 rcases hown.2 with⟨rfl,rfl⟩|⟨g,cap,cur,rfl,_,hg,_,_,oH,_⟩
 .by_cases h0:s.size=0
  .exact .inl (by rw[uI.2 ⟨rfl,h0⟩])
  .rw[run_append_nil_string (P:=P) w t u ty e i (O .u8 0) ht hu hi hz s (by omega) (by omega) (by rw[hby];omega)] at hr
   injection hr with h1 _;exact .inr (by rw[<- h1];rfl)
 .by_cases uv:n+s.size<=cap
  .rw[Lib.run_append_room_string (P:=P) w t u ty e i ht hu hi Av g n cap cur hg s uv (by have:=oH;omega)] at hr
   injection hr with h1 _;exact .inl (by rw[<- h1];rfl)
  .rw[Lib.run_append_grow_string (P:=P) w t u ty e i (O .u8 0) ht hu hi hz ⟨g,0,U⟩ n cap xs (by rw[Av];simpa using hxl) (hown.cells (g:=g) rfl) s (by omega) (by omega) (by rw[hby];exact growslice_fits (by omega) (by omega))] at hr
   injection hr with h1 _;exact .inr (by rw[<- h1];rfl)
theorem AX{P:Program}(w:World){ops:Array Oper}{rest:List Oper}{o:Oper}{a:Act}{Q:Exit->Act->World->Prop}(hgd:o.guard=U)(sl x:Operand)(t u:Ji)(ho:o.op=.call { callee:=.builtin .append,args:=#[sl,x],argTypes:=#[t,u] })(base:Nat)(e:Ji)(i:TypeInfo)(ht:P.underlying t=AI (.slice e))(hu:P.underlying u=AI .string)(hi:P.info? e=AI i)(hz:i.zero=AI (O .u8 0))(Av:i.size=1)(hby:i.bytes=1)
 (v:Value) (n:Nat) (xs:List Value) (hs:a.eval sl=v) (hown:w.ownsRow base e 1 v n xs) (s:ByteArray) (hx:a.eval x=I s) (h63:n+s.size<=Il) (hbytes:n+s.size<=140737488355328) (hbase:base<=w.heap.size)
 (h:∀v' w',w'.ownsRow base e 1 v' (n+s.size) (xs++Ou s)->w.grownBy w' v.ownBlock->(v'.ownBlock=v.ownBlock\/v'.ownBlock=AI w.heap.size)->wpList P ops Q rest (a.put o.dst v') w'):wpList P ops Q (o::rest) a w:=by
 obtain⟨v',w',hr,h2,h3,h4⟩:=Lib.run_append_own_string (P:=P) w base t u o.type e i ht hu hi hz Av hby v n xs hown s h63 hbytes hbase;have h5:=Fk ht hu hi hz Av hby hown h63 hbytes hr h4;refine wpList_plain hgd λK hK=>?_;have hgo:K (a.put o.dst v') w':=hK _ _ (h v' w' h2 h3 h5);simp only[Oper.wp,execOp,ho,resolve,invoke,builtin,Sem.run_bind,Sem.run_pure,Result.andThen_ok,List.map_toArray,J4,Og,hs,hx,hr];exact hgo
theorem xZ(B b:Nat)(bs:List Value)(s:ByteArray)(w:World)(h:oZ B b bs w)(hlen:bs.length+s.size<=1000000)(Cj:B<=w.heap.size) :
 Calls AT 184 #[Ik (AI ⟨b,0,U⟩),I s] w λe w'=>e=Ia (Ir #[O J s.size,.nilIface])/\Ri B b (Ik (AI ⟨b,0,U⟩)) (bs++Ou s) w'/\Kp B b w w':=by
 obtain⟨i0,hi,oS,pC,xC⟩:=Jc Tryz.infoByte;have HC:Hid (Calls AT 224 #[Ik (AI ⟨b,0,U⟩)] w λe w'=>e=Ia (Ir #[])/\Ri B b (Ik (AI ⟨b,0,U⟩)) bs w'/\Kp B b w w'):=M1 B b bs w h;clear h;go_enter func184,ntmps184;go_wp2_with fail;refine HC.out.mono ?_;rintro e w1 ⟨rfl,h1,mO⟩;obtain⟨hB,v,Ld,hown,nK⟩:=h1;have c0:w1.cell? ⟨b,0,U⟩=AI (Ik (AI ⟨b,0,U⟩)):=fi Ld 0;have c1:w1.cell? ⟨b,1,U⟩=AI v:=fi Ld 1;have XE:=mO.size;have HO:Hid (w1.ownsRow B 5 1 v bs.length bs):=hown;have HK:Hid (w1.heap[b]?=AI (Ib #[Ik (AI ⟨b,0,U⟩),v] 238 (0,0))):=Ld;clear hown Ld;go_wp2_with (at_builtin;refine AX _ rfl _ _ 139 9 rfl B 5 i0 Oa IF hi oS pC xC _ bs.length bs rfl HO.out s rfl ?c3 ?c4 ?c5 ?_)
 case c3=>(unfold Il;omega)
 case c4=>omega
 case c5=>omega
 intro v' w2 Fj oB qi;have mS:b<w1.heap.size:=(Ig.1 HK.out).1;have mZ:w2.heap[b]?=AI (Ib #[Ik (AI ⟨b,0,U⟩),v] 238 (0,0)):=by
  rw[oB.block b mS (λe=>nK e.symm)];exact HK.out
 have d0:w2.cell? ⟨b,0,U⟩=AI (Ik (AI ⟨b,0,U⟩)):=fi mZ 0;have d1:w2.cell? ⟨b,1,U⟩=AI v:=fi mZ 1;have f1:w2.frozen? ⟨b,1,U⟩=false:=Lib.frozen_of_heap mZ 1;have nR:Hid (Below B w w2/\Lib.OthersKept 5 (AI b) w w2):=(show _/\_ from⟨mO.Mo.grown oB (by omega) (λk hk=>(HO.out.lt k hk).1),mO.oth.grown oB (Fi HO.out)⟩);have HKQ:Hid (Kq b w (w2.setCell ⟨b,1,U⟩ v')):=mO.kq.trans (Kq.step HK.out mZ (λk hk tp=>oB.block k hk tp) (qi.imp id (λe k hk=>by rw[e] at hk;simp at hk;omega))) XE;have vN:Hid (w2.heap[b]?=AI (Ib #[Ik (AI ⟨b,0,U⟩),v] 238 (0,0))):=mZ;have sI:Hid (w2.ownsRow B 5 1 v' (bs++Ou s).length (bs++Ou s)):=(show Oy _ _ _ _ _ _ _ by simpa[Lib.strCells_length] using Fj);obtain⟨ao,n',cap,hv⟩:∃ao n' cap,v'=sh ao n' cap:=by
  rcases Fj.2 with⟨hv,_⟩|⟨g,cap,cur,hv,_⟩
  .exact⟨_,_,_,hv⟩
  .exact⟨_,_,_,hv⟩
 subst hv;clear Fj oB mZ c0 c1 mO qi;go_wp2_with fail;go_ret2;refine⟨rfl,?_,?_⟩
 .exact Lib.BuilderAt.put (T:=238) (e:=5) hB vN.out (bs':=bs++Ou s) sI.out (by decide)
 .exact⟨nR.out.1.setCell (p:=⟨b,1,U⟩) hB _,nR.out.2.setCell ⟨b,1,U⟩ rfl _,HKQ.out⟩
theorem oL(n:Int):∀k,(qo n k).length=k
 |0=>rfl
 |k+1=>by simp[qo,oL n k]
theorem Dr(B b:Nat)(bs:List Value)(s:ByteArray)(w:World)(h:oZ B b bs w)(hlen:bs.length<=90000)(hs:s.size<=1000)(Cj:B<=w.heap.size) :
 Calls AT 263 #[Ik (AI ⟨b,0,U⟩),I s] w λe w'=>e=Ia (Ir #[])/\oZ B b (bs++(qo s.size 1++Ou s)) w'/\Kp B b w w':=by
 have HI:Hid (oZ B b bs w):=h;clear h;go_enter func263,ntmps263;go_wp2_with fail;refine(nM B b 1 s.size bs w HI.out (by omega) (by omega) Cj).mono ?_;rintro e w1 ⟨rfl,h1,mO⟩;have pC:=mO.size;go_wp2_with fail;refine(xZ B b _ s w1 h1 (by rw[Iq,oL];omega) (by omega)).mono ?_;rintro e w2 ⟨rfl,h2,mZ⟩;have HW2:Hid (oZ B b (bs++(qo s.size 1++Ou s)) w2):=(show oZ _ _ _ _ by rw[<- Jh];exact .inr h2);have nR:Hid (Kp B b w w2):=mO.trans mZ;clear h1 mO h2 mZ;go_wp2_with fail;simp[JM,results,results263];exact⟨HW2.out,nR.out⟩
def yi(l:ByteArray):List Value:=qo l.size 1++Ou l
def sA(s:ByteArray):List Value:=(oO s).flatMap yi++qo 0 1
theorem oZ.alloc{B b:Nat}{bs:List Value}{w:World}(h:oZ B b bs w)(o:Obj):oZ B b bs (w.alloc o):=by
 have go:∀p,Ri B b p bs w->Ri B b p bs (w.alloc o):=λp ⟨hB,v,hb,ho,nK⟩=>
  ⟨hB,v,(Jj w o b (Ig.1 hb).1).trans hb,ho.alloc o,nK⟩
 rcases h with h|h
 .exact .inl (go _ h)
 .exact .inr (go _ h)
theorem oZ.lt{B b:Nat}{bs:List Value}{w:World}(h:oZ B b bs w):b<w.heap.size:=by
 rcases h with h|h
 .exact h.lt
 .exact h.lt
theorem acX(l:ByteArray):(yi l).length=1+l.size:=by
 unfold yi;rw[Iq,oL,Lib.strCells_length]
theorem BG:∀(L:List ByteArray),(∀x∈L,x.size<=30)->(L.flatMap yi).length<=31*L.length
 |[],_=>by simp
 |x::r,h=>by
  have h1:=h x Jg;have h2:=BG r (λy hy=>h y (Jv _ hy));rw[List.flatMap_cons,Iq,acX,Je];omega
theorem xc{s:ByteArray}(h:nS s=0):(oO s).length<=8/\∀x∈oO s,x.size<=30:=by
 rw[CD] at h;split at h
 .omega
 .rename_i h1
  split at h
  .omega
  .rename_i h2
   refine⟨by omega,λx hx=>?_⟩;have h3:(oO s).all mT=true:=by simpa using h1
   have h4:=Od.1 h3 x hx;unfold mT at h4;simp only[IP,decide_eq_true_eq] at h4;exact h4.1.2
theorem Kp.alloc{B b:Nat}{w:World}(o:Obj)(hB:B<=w.heap.size):Kp B b w (w.alloc o):=⟨(If _ _).alloc hB _,(Lib.OthersKept.refl _ _ _).alloc _,λhb=>⟨λk hk _ _=>Jj w o k hk,.inl (by unfold oV;rw[World.cell?_of_block (w:=w) (Jj w o b hb)])⟩⟩
theorem CE(B b:Nat)(bs:List Value)(s:ByteArray)(w:World)(hm:ML w)(h:oZ B b bs w)(hlen:bs.length<=50000)(hn:nS s=0)(Cj:B<=w.heap.size) :
 Calls AT 231 #[Ik (AI ⟨b,0,U⟩),I s] w λe w'=>e=Ia (Ir #[])/\oZ B b (bs++sA s) w'/\Kp B b w w':=by
 have HI:Hid (oZ B b bs w):=h;clear h;by_cases h0:s.size=0
 .have HE:Hid (sA s=qo 0 1):=(show sA s=qo 0 1 by unfold sA oO;rw[if_pos h0];rfl)
  rw[HE.out];have:=nB h0;subst this;clear HE h0 hn;go_enter func231,ntmps231;go_wp2_with fail;refine(nM B b 1 0 bs w HI.out (by omega) (by omega) Cj).mono ?_;rintro e w1 ⟨rfl,h1,mO⟩;have Hw:Hid (oZ B b (bs++qo 0 1) w1):=h1;have mY:Hid (Kp B b w w1):=mO;clear h1 mO;go_wp2_with fail;simp[JM,results,results231];exact⟨Hw.out,mY.out⟩
 .obtain⟨n1,n2⟩:=oC h0
  have od:s.size<=1000:=by
   unfold nS at hn;rw[if_neg h0] at hn;split at hn
   .omega
   .split at hn<;>omega
  have hl:oO s=(tt s.data.toList).map mk:=if_neg h0;have hll:(oO s).length=(tt s.data.toList).length:=by rw[hl,I8]
  have HSP:Hid (Calls AT 74 #[I s,I ⟨#[46]⟩] w λe w'=>e=Ia (sh (AI ⟨w.heap.size,0,U⟩) (oO s).length (oO s).length)/\w'=w.alloc (Ib ((oO s).map I).toArray 9)):=(show Calls _ _ _ _ _ by
   have h:=Ka s w hm od;rw[<- hl,<- hll] at h;exact h)
  obtain⟨hL8,yC⟩:=xc hn;have HE:Hid (bs++sA s=(bs++(oO s).flatMap yi)++qo 0 1):=(show _=_ by unfold sA;rw[Jh]);rw[HE.out];clear HE hl hll hm hn h0;generalize oO s=L at *;have nE:=HI.out.lt;go_enter func231,ntmps231;go_wp2_with fail;refine HSP.out.mono ?_;rintro e w1 ⟨rfl,RF⟩;have Ak:w1.heap[w.heap.size]?=AI (Ib (L.map I).toArray 9 (0,0)):=by rw[RF];exact Ii w _
  have wH:Hid (Kp B b w w1):=(show Kp B b w w1 by rw[RF];exact Kp.alloc _ Cj);have yb:Hid (oZ B b bs w1):=(show oZ B b bs w1 by rw[RF];exact HI.out.alloc _);have hB1:B<=w1.heap.size:=IB Cj wH.out.size;have HC:Hid (∀W,Kp B b w1 W->∀j,j<L.length->W.cell? ⟨w.heap.size,j,U⟩=AI (I (L.getD j Ie))):=λW hW j hj=>by
   have vR:W.heap[w.heap.size]?=AI (Ib (L.map I).toArray 9 (0,0)):=hW.oth _ _ Ak (by simp;omega) (by simp);rw[fi vR];simp[Ip,hj]
  have akG:Hid (∀j,(L.getD j Ie).size<=30):=λj=>by
   by_cases hj:j<L.length
   .rw[show L.getD j Ie=L[j] by simp[Ip,Ih hj]]
    exact yC _ (IU hj)
   .rw[show L.getD j Ie=Ie by simp[Ip,IK (by omega:L.length<=j)]];decide
  have Rj:Hid (∀k,((L.take k).flatMap yi).length<=248):=λk=>by
   refine IB (BG (L.take k) λx hx=>yC x (List.mem_of_mem_take hx)) ?_;rw[IA];omega
  have yB:Hid (∀k,k<L.length->(bs++(L.take k).flatMap yi)++(qo (L.getD k Ie).size 1++Ou (L.getD k Ie))=bs++(L.take (k+1)).flatMap yi):=λk hk=>by
   rw[Iz hk,List.flatMap_append,Jh];simp[yi,Ip,hk]
  clear Ak RF HSP yC;generalize M4:L.length=n at *;have vj:Hid (L.length=n):=M4;clear M4;go_wp2_with fail;go_loopw [11] (λi wr=>∃k:Nat,k<=n/\i=O J k/\Hid (oZ B b (bs++(L.take k).flatMap yi) wr)/\Hid (Kp B b w1 wr)) (λi _=>n-(intOf i).toNat)
  case atStart=>exact⟨0,Iw _,rfl,by simpa using yb,Kp.refl _ _ _⟩
  case round=>
   obtain⟨k,hk,rfl,HW,HKR⟩:=hrel;have hBr:B<=wr.heap.size:=IB hB1 HKR.out.size;by_cases mS:k<n
   .have hc:=HC.out wr HKR.out k mS
    have at0:=akG.out k;have uU:=Rj.out k;have Bv:=yB.out k mS;have HS3:Hid ((bs++(L.take k).flatMap yi)++(qo (L.getD k Ie).size 1++Ou (L.getD k Ie))=bs++(L.take (k+1)).flatMap yi):=Bv;clear Bv;generalize L.getD k Ie=x at *;go_wp2_with fail;refine(Dr B b _ x wr HW.out (by rw[Iq];omega) (by omega) hBr).mono ?_;rintro e w2 ⟨rfl,h2,mZ⟩;have HW2:Hid (oZ B b (bs++(L.take (k+1)).flatMap yi) w2):=(show oZ _ _ _ _ by rw[<- HS3.out];exact h2);have vN:Hid (Kp B b w1 w2):=HKR.out.trans mZ;clear h2 mZ;go_wp2_with fail;exact⟨⟨k+1,by omega,by go_num,HW2,vN⟩,by simp[intOf];omega⟩
   .have tp:k=n:=by omega
    have HWF:Hid (oZ B b (bs++L.flatMap yi) wr):=(show oZ _ _ _ _ by
     have h:=HW.out
     rwa [IJ (by rw[vj.out];omega)] at h)
    have uU:=Rj.out n;rw[IJ (by rw[vj.out];exact By _)] at uU;go_wp2_with fail;refine(nM B b 1 0 _ wr HWF.out (by omega) (by rw[Iq];omega) hBr).mono ?_;rintro e w2 ⟨rfl,h2,mZ⟩;have HW2:Hid (oZ B b ((bs++L.flatMap yi)++qo 0 1) w2):=h2;have vN:Hid (Kp B b w w2):=(wH.out.trans HKR.out).trans mZ;clear h2 mZ;go_wp2_with fail;simp[JM,results,results231];exact⟨by simpa using HW2.out,vN.out⟩
def CF(mX cut:Bool):Int:=(if mX then 128 else 0)+(if cut then 2 else 0)
abbrev at2(id code mQ:Int)(mX cut:Bool)(name:ByteArray):Value:=Iu #[O J id,Ic mX,Ic cut,O J code,I name,O J mQ,sh U 0 0]
theorem XF(id code mQ:Int)(mX cut:Bool)(name:ByteArray)(w:World) :
 Calls AT 125 #[at2 id code mQ mX cut name] w λe w'=>e=Ia (O J (CF mX cut))/\∃o,w'=w.alloc o:=by
 cases mX<;>cases cut
 all_goals
  go_enter func125,ntmps125;go_wp2_with fail;go_ret;exact⟨rfl,_,rfl⟩
theorem ML.kp{B b:Nat}{w w':World}(h:ML w)(hk:Kp B b w w')(hB:0<B):ML w':=by
 obtain⟨h1,m,h2⟩:=h;exact⟨Ix h1 hk.size,m,(hk.Mo.cell (p:=⟨0,0,U⟩) hB).trans h2⟩
end Go.Proofs.YtipbebleapjcjaaGreatDoor
namespace Go.Proofs.YtipbebleapjcjaaGreatDoor
namespace Sv
open Go.ChangeShapes Go.WideShapes Go.ChangeAt Go.RowKit
section
variable {H:Type} {enc:TypeId × Value→H} {w:World} {base:Nat} {spare:Nat→Bool} {held:Bool}
theorem Tryz.kcT:Tryz.prog.cellsOf 93=9:=by kernel_rfl
theorem Tryz.kc9:Tryz.prog.cellsOf 9=1:=by kernel_rfl
theorem Tryz.M5:Tryz.prog.cellsOf 3=1:=by kernel_rfl
theorem Tryz.kc4:Tryz.prog.cellsOf 4=1:=by kernel_rfl
theorem qT{fuel:Nat}{cs:List Value}{x:DataW H×List Qn}(h:Qi enc AT w base spare held fuel 93 cs=AI x) :
 ∃m:nj,cs=[I m.node,I m.oI,I m.name,I m.tag,O J m.addr,O J m.port,Ic m.ny,O J m.version,Ic m.gone]/\(m).ok:=by
 obtain⟨xs,n,_,_,hl,hlen,hf⟩:=Qb underlying93 h;rw[Tryz.kcT] at hl
 match cs,hl with
 |[c0,c1,c2,c3,c4,c5,c6,c7,c8],_=>
  match xs,hlen with
  |[y0,y1,y2,y3,y4,y5,y6,y7,y8],_=>
   have h0:=hf 0 _ rfl;have h1:=hf 1 _ rfl;have h2:=hf 2 _ rfl;have h3:=hf 3 _ rfl;have h4:=hf 4 _ rfl;have h5:=hf 5 _ rfl;have h6:=hf 6 _ rfl;have h7:=hf 7 _ rfl;have h8:=hf 8 _ rfl;simp[Tryz.kc9] at h0;simp[Tryz.kc9] at h1;simp[Tryz.kc9] at h2;simp[Tryz.kc9] at h3;simp[Tryz.M5] at h4;simp[Tryz.M5] at h5;simp[Tryz.kc4] at h6;simp[Tryz.M5] at h7;simp[Tryz.kc4] at h8;obtain⟨z0,e0,_,g0⟩:=OA IF h0;obtain⟨z1,e1,_,g1⟩:=OA IF h1;obtain⟨z2,e2,_,g2⟩:=OA IF h2;obtain⟨z3,e3,_,g3⟩:=OA IF h3;obtain⟨z4,e4,_⟩:=J3 IH h4;obtain⟨z5,e5,_⟩:=J3 IH h5;obtain⟨z6,e6,_⟩:=DataW.trod_bool Jo h6;obtain⟨z7,e7,_⟩:=J3 IH h7;obtain⟨z8,e8,_⟩:=DataW.trod_bool Jo h8;simp only[Ov,and_true] at e0 e1 e2 e3 e4 e5 e6 e7 e8;subst e0 e1 e2 e3 e4 e5 e6 e7 e8;exact⟨⟨z0,z1,z2,z3,z4,z5,z6,z7,z8⟩,rfl,⟨g0,g1,g2,g3⟩⟩
theorem qZ{fuel:Nat}{cs:List Value}{x:DataW H×List Qn}(h:Qi enc AT w base spare held fuel 24 cs=AI x) :
 ∃(p:Option Addr) (n c:Nat) (ms:List nj),cs=[sh p n c]/\Sl w (sh p n c) ms/\ms.length<=Il:=by
 rcases QI Oz h with⟨oH,_⟩|⟨x,len,cap,m,n,D,Pl,oH,hb,hl,hm,yr,_,hx⟩
 .exact⟨U,0,0,[],oH,⟨U,0,rfl,oz (by simp),.inl rfl⟩,by simp⟩
 .have hlm:len<=m:=by rw[yr];split<;>omega
  have qe:∀i,i<len->∃q:nj,(∀t,t<9->w.cell? (x.add (i*9+t))=q.cs[t]?)/\(q).ok:=λi hi=>by
   obtain⟨cs',h1,h2⟩:=hx i (by omega);obtain⟨q,hq,hs⟩:=qT h2;rw[Tryz.kcT] at h1;obtain⟨_,_,h3⟩:=QX h1;refine⟨q,λt ht=>?_,hs⟩;rw[<- Us,h3 t ht,hq];rfl
  have ac0:Inhabited nj:=⟨dm⟩;obtain⟨F,hF⟩:=QY (α:=nj) (p:=λi q=>(∀t,t<9->w.cell? (x.add (i*9+t))=q.cs[t]?)/\(q).ok) qe;have tE:∀j,j<len->((J5 len).map F).getD j dm=F j:=λj hj=>by simp[Ip,hj]
  refine⟨AI x,len,cap,(J5 len).map F,oH,⟨AI x,cap,by simp,oz (λq hq=>?_),?_⟩,by simp;omega⟩
  .obtain⟨j,hj,rfl⟩:=Ot.1 hq
   exact(hF j (Qr.1 hj)).2
  .by_cases h0:len=0
   .left;simp[h0]
   .right
    obtain⟨b,off,spot⟩:=x;have Aj:=(hF 0 (by omega)).1 0 (by omega);have BH:spot=U:=by simpa[Addr.add] using Ua Aj
    subst BH;have nG:∀j,j<len->∀t,t<9->w.cell? ⟨b,off+j*9+t,U⟩=(F j).cs[t]?:=λj hj t ht=>by
     have:=(hF j hj).1 t ht
     rwa [Qf,<- Nat.add_assoc] at this
    refine⟨b,off,rfl,II w ⟨b,off+0*9+0,U⟩ (nG 0 (by omega) 0 (by omega)),λj hj=>?_⟩;have tS:j<len:=by simpa using hj
    rw[tE j tS];exact⟨nG j tS 0 (by omega),nG j tS 1 (by omega),nG j tS 2 (by omega),nG j tS 3 (by omega),nG j tS 4 (by omega),nG j tS 5 (by omega),nG j tS 6 (by omega),nG j tS 7 (by omega),nG j tS 8 (by omega)⟩
end
end Sv
end Go.Proofs.YtipbebleapjcjaaGreatDoor
namespace Go.Proofs.YtipbebleapjcjaaGreatDoor
open Go.ChangeShapes Go.WideShapes Go.ChangeAt Go.RowKit
section
variable {H:Type} {enc:TypeId × Value→H} {w:World} {base:Nat} {spare:Nat→Bool} {held:Bool}
theorem Tryz.kcT:Tryz.prog.cellsOf 55=5:=by kernel_rfl
theorem Tryz.kc9:Tryz.prog.cellsOf 9=1:=by kernel_rfl
theorem Tryz.M5:Tryz.prog.cellsOf 3=1:=by kernel_rfl
theorem Tryz.kc4:Tryz.prog.cellsOf 4=1:=by kernel_rfl
theorem qT{fuel:Nat}{cs:List Value}{x:DataW H×List Qn}(h:Qi enc AT w base spare held fuel 55 cs=AI x) :
 ∃m:Mem,cs=[I m.name,O J m.state,O J m.nJ,O J m.addr,Ic m.server]/\(m).name.size<=Il:=by
 obtain⟨xs,n,_,_,hl,hlen,hf⟩:=Qb underlying55 h;rw[Tryz.kcT] at hl
 match cs,hl with
 |[c0,c1,c2,c3,c4],_=>
  match xs,hlen with
  |[y0,y1,y2,y3,y4],_=>
   have h0:=hf 0 _ rfl;have h1:=hf 1 _ rfl;have h2:=hf 2 _ rfl;have h3:=hf 3 _ rfl;have h4:=hf 4 _ rfl;simp[Tryz.kc9] at h0;simp[Tryz.M5] at h1;simp[Tryz.M5] at h2;simp[Tryz.M5] at h3;simp[Tryz.kc4] at h4;obtain⟨z0,e0,_,g0⟩:=OA IF h0;obtain⟨z1,e1,_⟩:=J3 IH h1;obtain⟨z2,e2,_⟩:=J3 IH h2;obtain⟨z3,e3,_⟩:=J3 IH h3;obtain⟨z4,e4,_⟩:=DataW.trod_bool Jo h4;simp only[Ov,and_true] at e0 e1 e2 e3 e4;subst e0 e1 e2 e3 e4;exact⟨⟨z0,z1,z2,z3,z4⟩,rfl,g0⟩
theorem qZ{fuel:Nat}{cs:List Value}{x:DataW H×List Qn}(h:Qi enc AT w base spare held fuel 22 cs=AI x) :
 ∃(p:Option Addr) (n c:Nat) (ms:List Mem),cs=[sh p n c]/\Sl w (sh p n c) ms/\ms.length<=Il:=by
 rcases QI OW h with⟨oH,_⟩|⟨x,len,cap,m,n,D,Pl,oH,hb,hl,hm,yr,_,hx⟩
 .exact⟨U,0,0,[],oH,⟨U,0,rfl,oz (by simp),.inl rfl⟩,by simp⟩
 .have hlm:len<=m:=by rw[yr];split<;>omega
  have qe:∀i,i<len->∃q:Mem,(∀t,t<5->w.cell? (x.add (i*5+t))=q.cs[t]?)/\(q).name.size<=Il:=λi hi=>by
   obtain⟨cs',h1,h2⟩:=hx i (by omega);obtain⟨q,hq,hs⟩:=qT h2;rw[Tryz.kcT] at h1;obtain⟨_,_,h3⟩:=QX h1;refine⟨q,λt ht=>?_,hs⟩;rw[<- Us,h3 t ht,hq];rfl
  have ac0:Inhabited Mem:=⟨dm⟩;obtain⟨F,hF⟩:=QY (α:=Mem) (p:=λi q=>(∀t,t<5->w.cell? (x.add (i*5+t))=q.cs[t]?)/\(q).name.size<=Il) qe;have tE:∀j,j<len->((J5 len).map F).getD j dm=F j:=λj hj=>by simp[Ip,hj]
  refine⟨AI x,len,cap,(J5 len).map F,oH,⟨AI x,cap,by simp,oz (λq hq=>?_),?_⟩,by simp;omega⟩
  .obtain⟨j,hj,rfl⟩:=Ot.1 hq
   exact(hF j (Qr.1 hj)).2
  .by_cases h0:len=0
   .left;simp[h0]
   .right
    obtain⟨b,off,spot⟩:=x;have Aj:=(hF 0 (by omega)).1 0 (by omega);have BH:spot=U:=by simpa[Addr.add] using Ua Aj
    subst BH;have nG:∀j,j<len->∀t,t<5->w.cell? ⟨b,off+j*5+t,U⟩=(F j).cs[t]?:=λj hj t ht=>by
     have:=(hF j hj).1 t ht
     rwa [Qf,<- Nat.add_assoc] at this
    refine⟨b,off,rfl,II w ⟨b,off+0*5+0,U⟩ (nG 0 (by omega) 0 (by omega)),λj hj=>?_⟩;have tS:j<len:=by simpa using hj
    rw[tE j tS];exact⟨nG j tS 0 (by omega),nG j tS 1 (by omega),nG j tS 2 (by omega),nG j tS 3 (by omega),nG j tS 4 (by omega)⟩
end
end Go.Proofs.YtipbebleapjcjaaGreatDoor
namespace Go.Proofs.YtipbebleapjcjaaGreatDoor
namespace Gw
open Go.ChangeShapes Go.WideShapes Go.ChangeAt Go.RowKit
section
variable {H:Type} {enc:TypeId × Value→H} {w:World} {base:Nat} {spare:Nat→Bool} {held:Bool}
theorem Tryz.kcT:Tryz.prog.cellsOf 72=3:=by kernel_rfl
theorem Tryz.kc9:Tryz.prog.cellsOf 9=1:=by kernel_rfl
theorem Tryz.M5:Tryz.prog.cellsOf 3=1:=by kernel_rfl
theorem qT{fuel:Nat}{cs:List Value}{x:DataW H×List Qn}(h:Qi enc AT w base spare held fuel 72 cs=AI x) :
 ∃m:pU,cs=[I m.mM,O J m.addr,O J m.version]/\(m).ok:=by
 obtain⟨xs,n,_,_,hl,hlen,hf⟩:=Qb underlying72 h;rw[Tryz.kcT] at hl
 match cs,hl with
 |[c0,c1,c2],_=>
  match xs,hlen with
  |[y0,y1,y2],_=>
   have h0:=hf 0 _ rfl;have h1:=hf 1 _ rfl;have h2:=hf 2 _ rfl;simp[Tryz.kc9] at h0;simp[Tryz.M5] at h1;simp[Tryz.M5] at h2;obtain⟨z0,e0,_,g0⟩:=OA IF h0;obtain⟨z1,e1,_⟩:=J3 IH h1;obtain⟨z2,e2,_⟩:=J3 IH h2;simp only[Ov,and_true] at e0 e1 e2;subst e0 e1 e2;exact⟨⟨z0,z1,z2⟩,rfl,g0⟩
theorem qZ{fuel:Nat}{cs:List Value}{x:DataW H×List Qn}(h:Qi enc AT w base spare held fuel 25 cs=AI x) :
 ∃(p:Option Addr) (n c:Nat) (ms:List pU),cs=[sh p n c]/\Sl w (sh p n c) ms/\ms.length<=Il:=by
 rcases QI underlying25 h with⟨oH,_⟩|⟨x,len,cap,m,n,D,Pl,oH,hb,hl,hm,yr,_,hx⟩
 .exact⟨U,0,0,[],oH,⟨U,0,rfl,oz (by simp),.inl rfl⟩,by simp⟩
 .have hlm:len<=m:=by rw[yr];split<;>omega
  have qe:∀i,i<len->∃q:pU,(∀t,t<3->w.cell? (x.add (i*3+t))=q.cs[t]?)/\(q).ok:=λi hi=>by
   obtain⟨cs',h1,h2⟩:=hx i (by omega);obtain⟨q,hq,hs⟩:=qT h2;rw[Tryz.kcT] at h1;obtain⟨_,_,h3⟩:=QX h1;refine⟨q,λt ht=>?_,hs⟩;rw[<- Us,h3 t ht,hq];rfl
  have ac0:Inhabited pU:=⟨dm⟩;obtain⟨F,hF⟩:=QY (α:=pU) (p:=λi q=>(∀t,t<3->w.cell? (x.add (i*3+t))=q.cs[t]?)/\(q).ok) qe;have tE:∀j,j<len->((J5 len).map F).getD j dm=F j:=λj hj=>by simp[Ip,hj]
  refine⟨AI x,len,cap,(J5 len).map F,oH,⟨AI x,cap,by simp,oz (λq hq=>?_),?_⟩,by simp;omega⟩
  .obtain⟨j,hj,rfl⟩:=Ot.1 hq
   exact(hF j (Qr.1 hj)).2
  .by_cases h0:len=0
   .left;simp[h0]
   .right
    obtain⟨b,off,spot⟩:=x;have Aj:=(hF 0 (by omega)).1 0 (by omega);have BH:spot=U:=by simpa[Addr.add] using Ua Aj
    subst BH;have nG:∀j,j<len->∀t,t<3->w.cell? ⟨b,off+j*3+t,U⟩=(F j).cs[t]?:=λj hj t ht=>by
     have:=(hF j hj).1 t ht
     rwa [Qf,<- Nat.add_assoc] at this
    refine⟨b,off,rfl,II w ⟨b,off+0*3+0,U⟩ (nG 0 (by omega) 0 (by omega)),λj hj=>?_⟩;have tS:j<len:=by simpa using hj
    rw[tE j tS];exact⟨nG j tS 0 (by omega),nG j tS 1 (by omega),nG j tS 2 (by omega)⟩
end
end Gw
namespace Wh
open Go.ChangeShapes Go.WideShapes Go.ChangeAt Go.RowKit
section
variable {H:Type} {enc:TypeId × Value→H} {w:World} {base:Nat} {spare:Nat→Bool} {held:Bool}
theorem Tryz.kcT:Tryz.prog.cellsOf 97=6:=by kernel_rfl
theorem Tryz.kc9:Tryz.prog.cellsOf 9=1:=by kernel_rfl
theorem Tryz.M5:Tryz.prog.cellsOf 3=1:=by kernel_rfl
theorem kcP:Tryz.prog.cellsOf 27=5:=by kernel_rfl
theorem Ds{fuel:Nat}{cs:List Value}{x:DataW H×List Qn}(h:Qi enc AT w base spare held fuel 27 cs=AI x) :
 ∃a b c d e:Int,cs=[O J a,O J b,O J c,O J d,O J e]:=by
 obtain⟨xs,n,_,_,hl,hlen,hf⟩:=Qb underlying27 h;rw[kcP] at hl
 match cs,hl with
 |[c0,c1,c2,c3,c4],_=>
  match xs,hlen with
  |[y0,y1,y2,y3,y4],_=>
   have h0:=hf 0 _ rfl;have h1:=hf 1 _ rfl;have h2:=hf 2 _ rfl;have h3:=hf 3 _ rfl;have h4:=hf 4 _ rfl;simp[Tryz.M5] at h0;simp[Tryz.M5] at h1;simp[Tryz.M5] at h2;simp[Tryz.M5] at h3;simp[Tryz.M5] at h4;obtain⟨a,e0,_,_⟩:=J3 IH h0;obtain⟨b,e1,_,_⟩:=J3 IH h1;obtain⟨c,e2,_,_⟩:=J3 IH h2;obtain⟨d,e3,_,_⟩:=J3 IH h3;obtain⟨e,e4,_,_⟩:=J3 IH h4;simp only[Ov,and_true] at e0 e1 e2 e3 e4;subst e0 e1 e2 e3 e4;exact⟨a,b,c,d,e,rfl⟩
theorem qT{fuel:Nat}{cs:List Value}{x:DataW H×List Qn}(h:Qi enc AT w base spare held fuel 97 cs=AI x) :
 ∃m:nZ,cs=m.cs/\m.ok:=by
 obtain⟨xs,n,_,_,hl,hlen,hf⟩:=Qb underlying97 h;rw[Tryz.kcT] at hl
 match cs,hl with
 |[c0,c1,c2,c3,c4,c5],_=>
  match xs,hlen with
  |[y0,y1],_=>
   have h0:=hf 0 _ rfl;have h1:=hf 1 _ rfl;simp[Tryz.kc9] at h0;simp[kcP] at h1;obtain⟨s,e0,_,w0⟩:=OA IF h0;obtain⟨a,b,c,d,e,e1⟩:=Ds h1;simp only[Ov,and_true] at e0 e1;obtain⟨r1,r2,r3,r4,r5⟩:=e1;subst e0 r1 r2 r3 r4 r5;exact⟨⟨s,a,b,c,d,e⟩,rfl,w0⟩
theorem qZ{fuel:Nat}{cs:List Value}{x:DataW H×List Qn}(h:Qi enc AT w base spare held fuel 28 cs=AI x) :
 ∃(p:Option Addr) (n c:Nat) (ms:List nZ),cs=[sh p n c]/\Sl w (sh p n c) ms/\ms.length<=Il:=by
 rcases QI underlying28 h with⟨oH,_⟩|⟨x,len,cap,m,n,D,Pl,oH,hb,hl,hm,yr,_,hx⟩
 .exact⟨U,0,0,[],oH,⟨U,0,rfl,oz (by simp),.inl rfl⟩,by simp⟩
 .have hlm:len<=m:=by rw[yr];split<;>omega
  have qe:∀i,i<len->∃q:nZ,(∀t,t<6->w.cell? (x.add (i*6+t))=q.cs[t]?)/\(q).ok:=λi hi=>by
   obtain⟨cs',h1,h2⟩:=hx i (by omega);obtain⟨q,hq,hs⟩:=qT h2;rw[Tryz.kcT] at h1;obtain⟨_,_,h3⟩:=QX h1;refine⟨q,λt ht=>?_,hs⟩;rw[<- Us,h3 t ht,hq]
  have ac0:Inhabited nZ:=⟨dm⟩;obtain⟨F,hF⟩:=QY (α:=nZ) (p:=λi q=>(∀t,t<6->w.cell? (x.add (i*6+t))=q.cs[t]?)/\(q).ok) qe;have tE:∀j,j<len->((J5 len).map F).getD j dm=F j:=λj hj=>by simp[Ip,hj]
  refine⟨AI x,len,cap,(J5 len).map F,oH,⟨AI x,cap,by simp,oz (λq hq=>?_),?_⟩,by simp;omega⟩
  .obtain⟨j,hj,rfl⟩:=Ot.1 hq
   exact(hF j (Qr.1 hj)).2
  .by_cases h0:len=0
   .left;simp[h0]
   .right
    obtain⟨b,off,spot⟩:=x;have Aj:=(hF 0 (by omega)).1 0 (by omega);have BH:spot=U:=by simpa[Addr.add] using Ua Aj
    subst BH;have nG:∀j,j<len->∀t,t<6->w.cell? ⟨b,off+j*6+t,U⟩=(F j).cs[t]?:=λj hj t ht=>by
     have:=(hF j hj).1 t ht
     rwa [Qf,<- Nat.add_assoc] at this
    refine⟨b,off,rfl,II w ⟨b,off+0*6+0,U⟩ (nG 0 (by omega) 0 (by omega)),λj hj=>?_⟩;have tS:j<len:=by simpa using hj
    rw[tE j tS];exact⟨nG j tS 0 (by omega),nG j tS 1 (by omega),nG j tS 2 (by omega),nG j tS 3 (by omega),nG j tS 4 (by omega),nG j tS 5 (by omega)⟩
end
end Wh
theorem Tryz.kcS:Tryz.prog.cellsOf 24=1:=by kernel_rfl
theorem Tryz.kcM:Tryz.prog.cellsOf 22=1:=by kernel_rfl
theorem Tryz.kcW:Tryz.prog.cellsOf 28=1:=by kernel_rfl
theorem Tryz.kcG:Tryz.prog.cellsOf 25=1:=by kernel_rfl
end Go.Proofs.YtipbebleapjcjaaGreatDoor
namespace Go.Proofs
open Go.Shelf
def Tryz.Lg:OD:=⟨fun|146=>74|221=>136|268=>182|138=>135|143=>181|195=>179|197=>223|218=>180|219=>222|260=>254|217=>250|225=>251|224=>252|267=>253|266=>284|314=>285|n=>n,fun|9=>9|31=>107|3=>3|4=>4|0=>0|105=>269|21=>21|5=>5|46=>137|119=>315|139=>318|138=>317|146=>313|51=>256|n=>n,fun|1=>0|3=>1|4=>2|n=>n⟩
theorem Tryz.ac1:Go.Proofs.LaysM.n146 AT Tryz.Lg:={
 mixed:=by kernel_rfl
 f138:=Tryz.func135.trans (congrArg AI (by kernel_rfl))
 f143:=Tryz.func181.trans (congrArg AI (by kernel_rfl))
 f146:=Tryz.func74.trans (congrArg AI (by kernel_rfl))
 f195:=Tryz.func179.trans (congrArg AI (by kernel_rfl))
 f197:=Tryz.func223.trans (congrArg AI (by kernel_rfl))
 f217:=Tryz.func250.trans (congrArg AI (by kernel_rfl))
 f218:=Tryz.func180.trans (congrArg AI (by kernel_rfl))
 f219:=Tryz.func222.trans (congrArg AI (by kernel_rfl))
 f221:=Tryz.func136.trans (congrArg AI (by kernel_rfl))
 f224:=Tryz.func252.trans (congrArg AI (by kernel_rfl))
 f225:=Tryz.func251.trans (congrArg AI (by kernel_rfl))
 f260:=Tryz.func254.trans (congrArg AI (by kernel_rfl))
 f266:=Tryz.func284.trans (congrArg AI (by kernel_rfl))
 f267:=Tryz.func253.trans (congrArg AI (by kernel_rfl))
 f268:=Tryz.func182.trans (congrArg AI (by kernel_rfl))
 f314:=Tryz.func285.trans (congrArg AI (by kernel_rfl))
 t0:=Oe
 a0:=Qe
 z0:=OZ
 v0:=Oq
 t3:=IH
 a3:=No
 z3:=JY
 v3:=J0
 t4:=Jo
 a4:=OE
 z4:=Oo
 v4:=J1
 t5:=JA
 a5:=Qw
 z5:=Qd
 v5:=OF
 t9:=IF
 a9:=Oj
 z9:=J8
 v9:=Ob
 t21:=underlying21
 a21:=isAgg21
 z21:=sizeOf21
 v21:=Tryz.zeroValue21
 t31:=IS
 a31:=QN
 z31:=QD
 v31:=Qa
 t46:=OK
 a46:=QB
 z46:=Qp
 v46:=OU
 t51:=OL
 a51:=QC
 z51:=Qq
 v51:=OV
 t105:=underlying269
 a105:=isAgg269
 z105:=sizeOf269
 v105:=Tryz.zeroValue269
 t119:=underlying315
 a119:=isAgg315
 z119:=sizeOf315
 t138:=underlying317
 a138:=isAgg317
 z138:=sizeOf317
 v138:=Tryz.zeroValue317
 t139:=underlying318
 a139:=isAgg318
 z139:=sizeOf318
 v139:=Tryz.zeroValue318
 t146:=Uy
 a146:=isAgg313
 z146:=sizeOf313
 v146:=Tryz.zeroValue313
 g1:=by kernel_rfl
 g3:=by kernel_rfl
 g4:=by kernel_rfl
 i0:=by kernel_rfl
 i3:=by kernel_rfl
 i4:=by kernel_rfl
 i5:=by kernel_rfl
 i9:=by kernel_rfl
 i21:=by kernel_rfl
 i31:=by kernel_rfl
 i46:=by kernel_rfl
 i51:=by kernel_rfl
 i105:=by kernel_rfl
 i138:=by kernel_rfl
 i139:=by kernel_rfl
 i146:=by kernel_rfl
 m1:=by kernel_rfl
 s1_3:=λw h=>Go.Proofs.cell_of_shapedOpen_int (zero:=#[O J 0]) (t:=3) h (of_decide_eq_true (by kernel_rfl)) (by kernel_rfl) rfl (by kernel_rfl) (by kernel_rfl) IH
 m3:=by kernel_rfl
 m4:=by kernel_rfl }
end Go.Proofs
namespace Go.Proofs.YtipbebleapjcjaaGreatDoor
open Go.ChangeShapes Go.WideShapes Go.ChangeAt Go.RowKit
theorem anT{W:World}(h:W.ShapedOpen AT):ML W:=by
 obtain⟨m,hm⟩:=Tryz.ac1.s1_3 W h;have XG:W.cell? ⟨0,0,U⟩=AI (O J m):=hm;exact⟨II W ⟨0,0,U⟩ XG,m,XG⟩
theorem Bm{H:Type}{enc:Ji×Value->H}{a:Assume}{C:Checked}{os:Os}{f:FuncId}{fn:Func}{s:ChangeSpec}{conds:List PathCond}{apart fresh handsOn again:Bool}{X:World->Array Value->Prop}(own:ownKnob C.prog.godebug=U)(started:os.Started)(akH:C.prog.inits.idxOf? f=U)(hfn:C.prog.funcs[f]?=AI fn)(witness:∃(w:World) (tape:Tape) (i:Input),w.os=os/\(w.forCall tape i).Shaped C.prog/\i.vars=[]/\Input.okWide C.prog (w.forCall tape i) .any w.heap.size f i /\ ((s.pre enc C.prog fn conds apart (w.forCall tape i).memory i.args/\X (w.forCall tape i).memory i.args)/\sizedMet enc C.prog fn (OpenSpec.ofChange s) apart (w.forCall tape i).memory i.args)/\a.holds C.prog (lone (Frame.enter C.prog f i.args .normal) [] (w.forCall tape i)))(ac2:∀(W:World) (base:Nat) (args:Array Value) (ds gs:List (DataW H)) (before:List Qn),W.ShapedOpen C.prog -> (∀(j:Nat) t v,fn.params[j]?=AI t->args[j]?=AI v->Value.okWide C.prog W .any base t v) ->
   DataW.Whole enc C.prog fn.params.toList s.vars apart W args.toList ds gs before ->
   Calls C.prog f args W λe W'=>∃v,e=Ia v/\s.post enc C.prog fn apart fresh handsOn again W args v W') :
 ReturnsInHanded a C os f .any (λw args=>(s.pre enc C.prog fn conds apart w args/\X w args)/\sizedMet enc C.prog fn (OpenSpec.ofChange s) apart w args) (s.post enc C.prog fn apart fresh handsOn again):=by
 refine returnsInHanded_of_calls own started akH witness ?_;intro w tape i _ EJ _ tR at4 _;obtain⟨_,_,_,fn',at5,_,_,_,_,ab8⟩:=tR;have e:fn'=fn:=Jq (at5.symm.trans hfn);subst e;obtain⟨⟨⟨ds,gs,before,hw,_⟩,_⟩,_⟩:=at4;refine(ac2 (w.forCall tape i) w.heap.size i.args ds gs before EJ ab8 (DataW.Whole.of_heap (w':=w.forCall tape i) (by rfl) hw)).mono λe W' ⟨v,he,hp⟩=>?_;subst he;exact ChangeSpec.post_blind hp
end Go.Proofs.YtipbebleapjcjaaGreatDoor
