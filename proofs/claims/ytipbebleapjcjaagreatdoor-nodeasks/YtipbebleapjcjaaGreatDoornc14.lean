import Derived.Test.YtipbebleapjcjaaGreatDoornc11
import Derived.Test.YtipbebleapjcjaaGreatDoornc12
import Derived.Test.YtipbebleapjcjaaGreatDoornc2
import Derived.Test.YtipbebleapjcjaaGreatDoornc13
set_option maxHeartbeats 6400000
set_option maxRecDepth 100000
open Array renaming getElem?_eq_some_iff->Ig
open Bool renaming and_eq_true->IP,eq_iff_iff->JH,true_and->OR
open ByteArray renaming empty->Ie,mk->J9
open Go renaming bodyPost_ret->IE,cell_regrown->Im,heap_alloc_new->Ii,info_parts->Jc,maxLen->Il,plainElem->JK,redrawn->IG,wpList_append_own->IY,wp_region_quiet_below->IX
open Go.Addr renaming add_lit->I4
open Go.Ending renaming returned->Ia
open Go.IntKind renaming i64->J,wrap_i64->IW
open Go.Lib renaming idxByFrom->O5,run_eql_slice_nil->JB
open Go.Maps renaming has->OG,size->Ol
open Go.Obj renaming cells->Ib
open Go.Proofs.Tryz renaming isAgg0->Qe,isAgg107->QN,isAgg3->No,isAgg4->OE,isAgg9->Oj,prog->AT,results261->Uu,sizeOf0->OZ,sizeOf107->QD,sizeOf3->JY,sizeOf4->Oo,sizeOf9->J8,underlying0->Oe,underlying107->IS,underlying164->JQ,underlying22->OW,underlying23->OC,underlying3->IH,underlying4->Jo,underlying9->IF,zeroValue0->Oq,zeroValue107->Qa,zeroValue3->J0,zeroValue4->J1
open Go.RowKit.Below renaming heap_alloc->Iv,refl->If
open Go.Sort renaming grow->Is,ahead->Ju
open Go.Value renaming agg->Iu,bool->Ic,func->JD,int->O,slice->sh,string->I,tuple->Ir,ownBlock->Jb
open Go.Value.slice renaming injEq->IM
open Go.World renaming block_lt_of_cell?->II,cell?_alloc_past->Oc,frozen?->Ij,ownsMap_made->Uz,ownsRow_made->Qv,ownsRow_nil->Jz
open Go.World.ownsRow renaming frozenAt->JE,lt->I3,stored->M2
open List renaming all_eq_true->Od,cons_append->Jt,filter_append->JJ,foldl_append->QW,foldl_cons->Ut,getD->Ip,getD_cons_succ->JC,getD_cons_zero->Jf,getElem?_append_left->Js,getElem?_eq_getElem->Ih,getElem?_eq_none->IK,getElem?_eq_some_iff->I7,getElem?_take_of_lt->IQ,getElem_mem->IU,getElem_of_mem->I2,length_append->Iq,length_cons->Je,length_drop->I9,length_filter_le->OJ,length_map->I8,length_nil->OH,length_singleton->Jk,length_take->IA,length_take_le->Oh,map_append->OI,mem_append->JI,mem_cons->Jx,mem_cons_self->Jg,mem_filter->JT,mem_flatMap->O0,mem_map->Ot,mem_of_mem_take->Jr,mem_range->Qr,mem_singleton->JR,pairwise_append->Ox,pairwise_cons->JO,range->J5,rel_of_pairwise_cons->Uc,take_length->JU,take_of_length_le->IJ,take_succ_eq_append_getElem->Iz
open Nat renaming le_of_lt->Jw,le_refl->By,le_trans->IB,lt_of_lt_of_le->Ix,lt_succ_iff_lt_or_eq->IL,not_lt_zero->IV,zero_add->I6,zero_le->Iw
open Option renaming none->U,some->AI,isNone_none->Qs,isNone_some->Qt
open Go.Proofs.Tryz
namespace Go.Proofs.YtipbebleapjcjaaGreatDoor
namespace Wh
open Go.RowKit
theorem Tryz.akY:(Tryz.prog.info? 97).map (λi=>(i.zero,i.size,i.bytes))=AI (AI (Iu #[I ⟨#[]⟩,O J 0,O J 0,O J 0,O J 0,O J 0]),6,56):=by kernel_rfl
end Wh
namespace Wh
open Go.RowKit
def ord(a b:nZ):Int:=oh a.node b.node
theorem keyed:RL.Keyed ord:=RL.zi nZ.node
def tO(_ _:nZ):Bool:=true
abbrev pj(ms:List nZ):Prop:=RL.pj ord ms
abbrev nY(ms:List nZ)(m:nZ):List nZ:=RL.aj9 ord tO ms m
abbrev np(ms:List nZ):Bool:=RL.np ord ms
theorem rJ(ms:List nZ)(h:∀j,j+1<ms.length->ord (ms.getD j dm) (ms.getD (j+1) dm)<0):np ms=true:=RL.sW ord dm ms h
theorem rK(ms:List nZ)(h:np ms=true):∀j,j+1<ms.length->ord (ms.getD j dm) (ms.getD (j+1) dm)<0:=RL.sX ord dm ms h
def nZ.e(m:nZ):Int:=if mT m.node=true then nV ⟨m.x,m.y,m.z,m.h,m.s⟩ else 1
def nt:List nZ->Int
 |[]=>0
 |m::r=>if m.e=0 then nt r else m.e
theorem ow:∀(ms:List nZ),(∀j,j<ms.length->(ms.getD j dm).e=0)->nt ms=0
 |[],_=>rfl
 |m::r,h=>by
  have h0:=h 0 (by simp);simp only[Jf] at h0;rw[nt,if_pos h0];exact ow r λj hj=>by have:=h (j+1) (by simpa using hj);simpa using this
theorem pT:∀(ms:List nZ) (k:Nat),k<ms.length->(∀j,j<k->(ms.getD j dm).e=0)->(ms.getD k dm).e≠0->nt ms=(ms.getD k dm).e
 |[],k,h,_,_=>by simp at h
 |m::r,0,_,_,nK=>by
  simp only[Jf] at nK ⊢;rw[nt,if_neg nK]
 |m::r,k+1,h,hz,nK=>by
  have h0:=hz 0 (by omega);simp only[Jf] at h0;rw[nt,if_pos h0,JC];rw[JC] at nK;exact pT r k (by simpa using h) (λj hj=>by have:=hz (j+1) (by omega);simpa using this) nK
theorem pY:∀(ms:List nZ),nt ms=0->∀m∈ms,m.e=0
 |[],_,m,hm=>by simp at hm
 |x::r,h,m,hm=>by
  rw[nt] at h;split at h
  .rename_i hx
   rcases Jx.1 hm with rfl|hm
   .exact hx
   .exact pY r h m hm
  .rename_i hx;exact absurd h hx
def nu(ms:List nZ):Int:=if 20<ms.length then 2 else if nt ms=0 then(if np ms=true then 0 else 4) else nt ms
theorem Bs(ms:List nZ)(k:Nat)(hn:ms.length<=20)(hk:k<ms.length)(hz:∀j,j<k->(ms.getD j dm).e=0)(nK:(ms.getD k dm).e≠0):nu ms=(ms.getD k dm).e:=by
 have h:=pT ms k hk hz nK;rw[nu,if_neg (by omega),h,if_neg nK]
theorem xX(ms:List nZ)(hn:ms.length<=20)(hz:∀j,j<ms.length->(ms.getD j dm).e=0):nu ms=if np ms=true then 0 else 4:=by
 rw[nu,if_neg (by omega),ow ms hz,if_pos rfl]
theorem EM(ms:List nZ)(k:Nat)(hn:ms.length<=20)(hz:∀j,j<ms.length->(ms.getD j dm).e=0)(hk:k+1<ms.length)(hl:¬ ord (ms.getD k dm) (ms.getD (k+1) dm)<0):nu ms=4:=by
 rw[xX ms hn hz,if_neg];intro h;exact hl (rK ms h k hk)
theorem EN(ms:List nZ)(hn:ms.length<=20)(hz:∀j,j<ms.length->(ms.getD j dm).e=0)(hl:∀j,j+1<ms.length->ord (ms.getD j dm) (ms.getD (j+1) dm)<0):nu ms=0:=by
 rw[xX ms hn hz,if_pos (rJ ms hl)]
theorem mU{ms:List nZ}(h:nu ms=0):ms.length<=20/\pj ms/\nt ms=0:=by
 unfold nu at h;split at h
 .omega
 .split at h
  .rename_i h1 h2
   split at h
   .rename_i h3
    exact⟨by omega,RL.xG ord keyed ms h3,h2⟩
   .omega
  .rename_i h1 h2;exact absurd h h2
end Wh
end Go.Proofs.YtipbebleapjcjaaGreatDoor
namespace Go.Proofs.YtipbebleapjcjaaGreatDoor
open Go.RowKit
def uA(nm:ByteArray)(st lf ad:Int):Int:=
 if mT nm=true then(if within st 1 4=true then(if within lf 1 1000000=true then(if within ad 0 4294967295=true then 0 else 3) else 3) else 7) else 1
def CL(sa la aa:Int)(va:Bool)(sb lb ab:Int)(vb:Bool):Bool:=
 if la=lb then(if sa=sb then(if aa=ab then(va&&!vb) else decide (ab<aa)) else decide (sb<sa)) else decide (lb<la)
theorem Lp(nm:ByteArray)(st lf ad:Int)(sv:Bool)(w:World)(hs:nm.size<=Il) :
 ni 105 #[Iu #[I nm,O J st,O J lf,O J ad,Ic sv]] w λe w'=>e=Ia (O J (uA nm st lf ad))/\w'=w.alloc (Ib #[I nm,O J st,O J lf,O J ad,Ic sv] 55):=by
 rcases h1:mT nm with _|_
 .go_enter func105,ntmps105
  go_wp2_with (go_at_call 78;refine(nL _ _ hs).mono ?_;rintro e w' ⟨rfl,rfl⟩;rw[h1]);go_ret;exact⟨mN (by simp[uA,h1]),rfl⟩
 .rcases h2:within st 1 4 with _|_
  .go_enter func105,ntmps105
   go_wp2_with (first|(go_at_call 78;refine(nL _ _ hs).mono ?_;rintro e w' ⟨rfl,rfl⟩;rw[h1])|(go_at_call 89;refine(oe _ _ _ _).mono ?_;rintro e w' ⟨rfl,rfl⟩;rw[h2]));go_ret;exact⟨mN (by simp[uA,h1,h2]),rfl⟩
  .rcases h3:within lf 1 1000000 with _|_
   .go_enter func105,ntmps105
    go_wp2_with (first|(go_at_call 78;refine(nL _ _ hs).mono ?_;rintro e w' ⟨rfl,rfl⟩;rw[h1])|(go_at_call 89;refine(oe _ _ _ _).mono ?_;rintro e w' ⟨rfl,rfl⟩;first|rw[h2]|rw[h3]));go_ret;exact⟨mN (by simp[uA,h1,h2,h3]),rfl⟩
   .rcases h4:within ad 0 4294967295 with _|_
    all_goals
     go_enter func105,ntmps105;go_wp2_with (first|(go_at_call 78;refine(nL _ _ hs).mono ?_;rintro e w' ⟨rfl,rfl⟩;rw[h1])|(go_at_call 89;refine(oe _ _ _ _).mono ?_;rintro e w' ⟨rfl,rfl⟩;first|rw[h2]|rw[h3])|(go_at_call 51;refine(qf _ _).mono ?_;rintro e w' ⟨rfl,rfl⟩;rw[h4]));go_ret;exact⟨mN (by simp[uA,h1,h2,h3,h4]),rfl⟩
theorem wI(nm:ByteArray)(st lf ad:Int)(sv:Bool)(w:World)(hs:nm.size<=Il) :
 ni 36 #[Iu #[I nm,O J st,O J lf,O J ad,Ic sv]] w λe w'=>e=Ia (O J (uA nm st lf ad))/\w'=w.alloc (Ib #[I nm,O J st,O J lf,O J ad,Ic sv] 55):=by
 rcases h1:mT nm with _|_
 .go_enter func36,ntmps36
  go_wp2_with (go_at_call 11;refine(mV _ _ hs).mono ?_;rintro e w' ⟨rfl,rfl⟩;rw[h1]);go_ret;exact⟨mN (by simp[uA,h1]),rfl⟩
 .rcases h2:within st 1 4 with _|_
  .go_enter func36,ntmps36
   go_wp2_with (first|(go_at_call 11;refine(mV _ _ hs).mono ?_;rintro e w' ⟨rfl,rfl⟩;rw[h1])|(go_at_call 37;refine(nN _ _ _ _).mono ?_;rintro e w' ⟨rfl,rfl⟩;rw[h2]));go_ret;exact⟨mN (by simp[uA,h1,h2]),rfl⟩
  .rcases h3:within lf 1 1000000 with _|_
   .go_enter func36,ntmps36
    go_wp2_with (first|(go_at_call 11;refine(mV _ _ hs).mono ?_;rintro e w' ⟨rfl,rfl⟩;rw[h1])|(go_at_call 37;refine(nN _ _ _ _).mono ?_;rintro e w' ⟨rfl,rfl⟩;first|rw[h2]|rw[h3]));go_ret;exact⟨mN (by simp[uA,h1,h2,h3]),rfl⟩
   .rcases h4:within ad 0 4294967295 with _|_
    all_goals
     go_enter func36,ntmps36;go_wp2_with (first|(go_at_call 11;refine(mV _ _ hs).mono ?_;rintro e w' ⟨rfl,rfl⟩;rw[h1])|(go_at_call 37;refine(nN _ _ _ _).mono ?_;rintro e w' ⟨rfl,rfl⟩;first|rw[h2]|rw[h3])|(go_at_call 40;refine(ot _ _).mono ?_;rintro e w' ⟨rfl,rfl⟩;rw[h4]));go_ret;exact⟨mN (by simp[uA,h1,h2,h3,h4]),rfl⟩
theorem Kf(na nb:ByteArray)(sa la aa:Int)(va:Bool)(sb lb ab:Int)(vb:Bool)(w:World) :
 ni 171 #[Iu #[I na,O J sa,O J la,O J aa,Ic va],Iu #[I nb,O J sb,O J lb,O J ab,Ic vb]] w λe w'=>e=Ia (Ic (CL sa la aa va sb lb ab vb))/\w'=(w.alloc (Ib #[I na,O J sa,O J la,O J aa,Ic va] 55)).alloc (Ib #[I nb,O J sb,O J lb,O J ab,Ic vb] 55):=by
 by_cases h1:la=lb
 .subst h1
  by_cases h2:sa=sb
  .subst h2
   by_cases h3:aa=ab
   .subst h3
    cases va
    all_goals
     go_enter func171,ntmps171;go_wp2;go_ret;exact⟨mW (by simp[CL]),rfl⟩
   .have h3':(aa !=ab)=true:=by simpa using h3
    go_enter func171,ntmps171;go_wp2;go_ret;exact⟨mW (by simp[CL,h3]),rfl⟩
  .have DR:(sa !=sb)=true:=by simpa using h2
   go_enter func171,ntmps171;go_wp2;go_ret;exact⟨mW (by simp[CL,h2]),rfl⟩
 .have RI:(la !=lb)=true:=by simpa using h1
  go_enter func171,ntmps171;go_wp2;go_ret;exact⟨mW (by simp[CL,h1]),rfl⟩
theorem DX(na nb:ByteArray)(sa la aa:Int)(va:Bool)(sb lb ab:Int)(vb:Bool)(w:World) :
 ni 19 #[Iu #[I na,O J sa,O J la,O J aa,Ic va],Iu #[I nb,O J sb,O J lb,O J ab,Ic vb]] w λe w'=>e=Ia (Ic (CL sa la aa va sb lb ab vb))/\w'=(w.alloc (Ib #[I na,O J sa,O J la,O J aa,Ic va] 55)).alloc (Ib #[I nb,O J sb,O J lb,O J ab,Ic vb] 55):=by
 by_cases h1:la=lb
 .subst h1
  by_cases h2:sa=sb
  .subst h2
   by_cases h3:aa=ab
   .subst h3
    cases va
    all_goals
     go_enter func19,ntmps19;go_wp2;go_ret;exact⟨mW (by simp[CL]),rfl⟩
   .have h3':(aa !=ab)=true:=by simpa using h3
    go_enter func19,ntmps19;go_wp2;go_ret;exact⟨mW (by simp[CL,h3]),rfl⟩
  .have DR:(sa !=sb)=true:=by simpa using h2
   go_enter func19,ntmps19;go_wp2;go_ret;exact⟨mW (by simp[CL,h2]),rfl⟩
 .have RI:(la !=lb)=true:=by simpa using h1
  go_enter func19,ntmps19;go_wp2;go_ret;exact⟨mW (by simp[CL,h1]),rfl⟩
def Mem.e(m:Mem):Int:=uA m.name m.state m.nJ m.addr
def nt:List Mem->Int
 |[]=>0
 |m::r=>if m.e=0 then nt r else m.e
theorem ow:∀(ms:List Mem),(∀j,j<ms.length->(ms.getD j dm).e=0)->nt ms=0
 |[],_=>rfl
 |m::r,h=>by
  have h0:=h 0 (by simp);simp only[Jf] at h0;rw[nt,if_pos h0];exact ow r λj hj=>by have:=h (j+1) (by simpa using hj);simpa using this
theorem pT:∀(ms:List Mem) (k:Nat),k<ms.length->(∀j,j<k->(ms.getD j dm).e=0)->(ms.getD k dm).e≠0->nt ms=(ms.getD k dm).e
 |[],k,h,_,_=>by simp at h
 |m::r,0,_,_,nK=>by
  simp only[Jf] at nK ⊢;rw[nt,if_neg nK]
 |m::r,k+1,h,hz,nK=>by
  have h0:=hz 0 (by omega);simp only[Jf] at h0;rw[nt,if_pos h0,JC];rw[JC] at nK;exact pT r k (by simpa using h) (λj hj=>by have:=hz (j+1) (by omega);simpa using this) nK
def np:List Mem->Bool
 |a::b::r=>less a.name b.name&&np (b::r)
 |_=>true
theorem sW:∀(ms:List Mem),(∀j,j+1<ms.length->less (ms.getD j dm).name (ms.getD (j+1) dm).name=true)->np ms=true
 |[],_=>rfl
 |[_],_=>rfl
 |a::b::r,h=>by
  have h0:=h 0 (by simp);simp only[Jf,JC] at h0;rw[np,h0,OR];exact sW (b::r) λj hj=>by have:=h (j+1) (by simpa using hj);simpa using this
theorem sX:∀(ms:List Mem),np ms=true->∀j,j+1<ms.length->less (ms.getD j dm).name (ms.getD (j+1) dm).name=true
 |[],_,j,h=>by simp at h
 |[_],_,j,h=>by simp at h
 |a::b::r,hr,0,_=>by
  rw[np,IP] at hr;simpa using hr.1
 |a::b::r,hr,j+1,h=>by
  rw[np,IP] at hr;have:=sX (b::r) hr.2 j (by simpa using h);simpa using this
def nu(ms:List Mem):Int:=if 20<ms.length then 2 else if nt ms=0 then(if np ms=true then 0 else 4) else nt ms
theorem Bs(ms:List Mem)(k:Nat)(hn:ms.length<=20)(hk:k<ms.length)(hz:∀j,j<k->(ms.getD j dm).e=0)(nK:(ms.getD k dm).e≠0):nu ms=(ms.getD k dm).e:=by
 have h:=pT ms k hk hz nK;rw[nu,if_neg (by omega),h,if_neg nK]
theorem EM(ms:List Mem)(k:Nat)(hn:ms.length<=20)(hz:∀j,j<ms.length->(ms.getD j dm).e=0)(hk:k+1<ms.length)(hl:less (ms.getD k dm).name (ms.getD (k+1) dm).name=false):nu ms=4:=by
 rw[nu,if_neg (by omega),ow ms hz,if_pos rfl,if_neg];intro h;have:=sX ms h k hk;rw[hl] at this;cases this
theorem EN(ms:List Mem)(hn:ms.length<=20)(hz:∀j,j<ms.length->(ms.getD j dm).e=0)(hl:∀j,j+1<ms.length->less (ms.getD j dm).name (ms.getD (j+1) dm).name=true):nu ms=0:=by
 rw[nu,if_neg (by omega),ow ms hz,if_pos rfl,if_pos (sW ms hl)]
structure At(ms:List Mem)(t:ByteArray)(p:Nat)(f:Bool):Prop where
 le:p<=ms.length
 lo:∀j,j<p->oh (ms.getD j dm).name t<0
 hi:∀j,p<=j->j<ms.length->0<=oh (ms.getD j dm).name t
 is:f=true↔p<ms.length/\oh (ms.getD p dm).name t=0
def wJ(a b:Mem):Bool:=CL a.state a.nJ a.addr a.server b.state b.nJ b.addr b.server
def nY:List Mem->Mem->List Mem
 |[],m=>[m]
 |x::r,m=>if oh x.name m.name<0 then x::nY r m else if oh x.name m.name=0 then(if wJ m x=true then m::r else x::r) else m::x::r
abbrev pj(ms:List Mem):Prop:=ms.Pairwise λa b=>less a.name b.name=true
theorem xG:∀ms:List Mem,np ms=true->pj ms
 |[],_=>.nil
 |[x],_=>by simp[pj]
 |a::b::r,h=>by
  rw[np,IP] at h;have ih:=xG (b::r) h.2;refine JO.2 ⟨λc hc=>?_,ih⟩;rcases Jx.1 hc with rfl|hc
  .exact h.1
  .exact sM h.1 (Uc ih hc)
theorem Nk:∀ms:List Mem,pj ms->np ms=true
 |[],_=>rfl
 |[x],_=>rfl
 |a::b::r,h=>by
  rw[np,Uc h (by simp),OR];exact Nk (b::r) (List.Pairwise.of_cons h)
theorem ve{ms:List Mem}(h:pj ms)(t:ByteArray):∀i j,i<=j->j<ms.length->oh (ms.getD j dm).name t<0->oh (ms.getD i dm).name t<0:=by
 intro i j yp hj mS;rcases Nat.lt_or_eq_of_le yp with aj8|rfl
 .have hp:=List.pairwise_iff_getElem.1 h i j (by omega) hj aj8
  rw[pB] at mS ⊢;have e1:ms.getD i dm=ms[i]:=by simp[Ip,Ih (show i<ms.length by omega)]
  have e2:ms.getD j dm=ms[j]:=by simp[Ip,Ih hj]
  rw[e1];rw[e2] at mS;exact sM hp mS
 .exact mS
theorem yy:∀(ms:List Mem) (m:Mem) (p:Nat) (f:Bool),At ms m.name p f ->
 nY ms m=if f=true then(if wJ m (ms.getD p dm)=true then ms.set p m else ms) else ms.take p++m::ms.drop p
 |[],m,p,f,h=>by
  have hp:p=0:=by have:=h.le;simpa using this
  subst hp;have hf:f=false:=by
   cases f
   .rfl
   .have:=h.is.1 rfl;simp at this
  subst hf;simp[nY]
 |x::r,m,0,f,h=>by
  have h0:=h.hi 0 (By _) (by simp);simp only[Jf] at h0;rw[nY,if_neg (by omega)];cases f
  .have nK:¬ oh x.name m.name=0:=λe=>by have:=h.is.2 ⟨by simp,by simpa using e⟩;cases this
   rw[if_neg nK];simp
  .have he:=(h.is.1 rfl).2
   simp only[Jf] at he;rw[if_pos he];simp only[Jf,List.set_cons_zero,if_pos]
 |x::r,m,p+1,f,h=>by
  have h0:=h.lo 0 (by omega);simp only[Jf] at h0;have hr:At r m.name p f:=⟨by have:=h.le;simpa using this,λj hj=>by have:=h.lo (j+1) (by omega);simpa using this,
   λj hj hl=>by have:=h.hi (j+1) (by omega) (by simpa using hl);simpa using this,by have:=h.is;simpa using this⟩
  rw[nY,if_pos h0,yy r m p f hr];cases f
  .simp
  .simp only[if_pos,JC,List.set_cons_succ]
   split<;>rfl
theorem xd:∀(ms:List Mem) (m x:Mem),x∈nY ms m->x=m\/x∈ms
 |[],m,x,h=>by simp[nY] at h;exact .inl h
 |y::r,m,x,h=>by
  rw[nY] at h;split at h
  .rcases Jx.1 h with rfl|h
   .exact .inr (by simp)
   .rcases xd r m x h with h|h
    .exact .inl h
    .exact .inr (by simp[h])
  .split at h
   .split at h
    .rcases Jx.1 h with h|h
     .exact .inl h
     .exact .inr (by simp[h])
    .exact .inr h
   .rcases Jx.1 h with h|h
    .exact .inl h
    .exact .inr h
theorem AY:∀(ms:List Mem) (m:Mem),pj ms->pj (nY ms m)
 |[],m,_=>by simp[nY]
 |x::r,m,h=>by
  have hx:=JO.1 h;rw[nY];split
  .rename_i mS
   refine JO.2 ⟨λy hy=>?_,AY r m hx.2⟩;rcases xd r m y hy with rfl|hy
   .exact(pB _ _).1 mS
   .exact hx.1 y hy
  .rename_i mS
   split
   .rename_i he
    have hn:=(oQ _ _).1 he;split
    .exact JO.2 ⟨λy hy=>by rw[<- hn];exact hx.1 y hy,hx.2⟩
    .exact h
   .rename_i he
    have hg:less m.name x.name=true:=(Bn _ _).1 (by omega);refine JO.2 ⟨λy hy=>?_,h⟩;rcases Jx.1 hy with rfl|hy
    .exact hg
    .exact sM hg (hx.1 y hy)
theorem CM:∀(ms:List Mem) (m:Mem),ms.length<=(nY ms m).length/\(nY ms m).length<=ms.length+1
 |[],m=>by simp[nY]
 |x::r,m=>by
  have:=CM r m;rw[nY];split
  .simp;omega
  .split
   .split<;>simp
   .simp
def nO(a b:List Mem):List Mem:=b.foldl nY a
theorem EZ:∀(b a:List Mem),pj a->pj (nO a b)
 |[],_,h=>h
 |m::r,a,h=>EZ r (nY a m) (AY a m h)
theorem zp:∀(b a:List Mem),(nO a b).length<=a.length+b.length
 |[],_=>by simp[nO]
 |m::r,a=>by
  have h1:=zp r (nY a m);have h2:=CM a m;simp only[nO,Ut,Je] at *;omega
theorem vY{ms:List Mem}{nm:ByteArray}{p q:Nat}{f e:Bool}(h:At ms nm p f)(k:At ms nm q e):p=q/\f=e:=by
 have hpq:p=q:=by
  rcases Nat.lt_trichotomy p q with mS|rfl|mS
  .have h1:=k.lo p mS
   have h2:=h.hi p (By _) (by have:=k.le;omega);omega
  .rfl
  .have h1:=h.lo q mS
   have h2:=k.hi q (By _) (by have:=h.le;omega);omega
 subst hpq;refine⟨rfl,?_⟩;rw[JH,h.is,k.is]
theorem V4{ms:List Mem}{m:Mem}(h:∀m∈ms,m.name.size<=Il)(hm:m.name.size<=Il):∀x∈nY ms m,x.name.size<=Il:=by
 intro x hx;rcases xd ms m x hx with rfl|hx
 .exact hm
 .exact h x hx
theorem VP:∀(b a:List Mem),(∀m∈a,m.name.size<=Il)->(∀m∈b,m.name.size<=Il)->∀x∈nO a b,x.name.size<=Il
 |[],_,ha,_=>ha
 |m::r,a,ha,hb=>VP r (nY a m) (V4 ha (hb m (by simp))) (λx hx=>hb x (by simp[hx]))
theorem RW(a b:List Mem)(j:Nat)(hj:j<b.length):nO a (b.take (j+1))=nY (nO a (b.take j)) (b.getD j dm):=by
 have e:b.getD j dm=b[j]:=by simp[Ip,Ih hj]
 rw[e,Iz hj,nO,QW,nO];rfl
theorem Fq:∀(a:List Mem) (m:Mem),(∀x∈a,less x.name m.name=true)->nY a m=a++[m]
 |[],_,_=>rfl
 |x::r,m,h=>by
  rw[nY,if_pos ((pB _ _).2 (h x (by simp))),Fq r m (λy hy=>h y (by simp[hy]))];rfl
theorem Kg:∀(b a:List Mem),pj (a++b)->nO a b=a++b
 |[],a,_=>by simp[nO]
 |m::r,a,h=>by
  have h1:=Fq a m λx hx=>(Ox.1 h).2.2 x hx m (by simp);have h2:=Kg r (a++[m]) (by simpa using h);simp only[nO,Ut,h1] at h2 ⊢;rw[h2];simp
theorem Xh(b:List Mem)(h:pj b):nO [] b=b:=Kg b [] h
theorem mU{ms:List Mem}(h:nu ms=0):ms.length<=20/\pj ms/\nt ms=0:=by
 unfold nu at h;split at h
 .omega
 .split at h
  .rename_i h1 h2
   split at h
   .rename_i h3
    exact⟨by omega,xG ms h3,h2⟩
   .omega
  .rename_i h1 h2;exact absurd h h2
def nW(a b:List Mem):Int:=if nu a=0 then nu b else nu a
def GC(a b:List Mem)(k:Nat):List Mem:=if k=0 then[] else if k=1 then a else nO a b
def nP(a b:List Mem):Int:=if nW a b=0 then(if 20<(nO a b).length then 2 else 0) else nW a b
theorem rJ(ms:List Mem)(h:∀j,j+1<ms.length->oh (ms.getD j dm).name (ms.getD (j+1) dm).name<0):np ms=true:=sW ms λj hj=>(pB _ _).1 (h j hj)
theorem rK(ms:List Mem)(h:np ms=true):∀j,j+1<ms.length->oh (ms.getD j dm).name (ms.getD (j+1) dm).name<0:=λj hj=>(pB _ _).2 (sX ms h j hj)
theorem xX(ms:List Mem)(hn:ms.length<=20)(hz:∀j,j<ms.length->(ms.getD j dm).e=0):nu ms=if np ms=true then 0 else 4:=by
 rw[nu,if_neg (by omega),ow ms hz,if_pos rfl]
abbrev rL(a b:Mem):Int:=oh a.name b.name
abbrev an8(a b:Mem):Bool:=wJ a b
abbrev ack(ms:List Mem)(t:Mem)(p:Nat)(f:Bool):Prop:=At ms t.name p f
theorem wW(a b:Mem)(w:World) :
 ni 107 #[Iu #[I a.name,O J a.state,O J a.nJ,O J a.addr,Ic a.server],Iu #[I b.name,O J b.state,O J b.nJ,O J b.addr,Ic b.server]] w λe w'=>e=Ia (O J (rL a b))/\Below w.heap.size w w':=by
 go_enter func107,ntmps107;go_wp2_with (go_at_call 104;refine(sV _ _ _).mono ?_;rintro e w' ⟨rfl,rfl⟩);go_ret;exact⟨rfl,((If _ _).alloc (By _) _).alloc (by simp) _⟩
theorem Sb(a b:Mem)(w:World) :
 ni 171 #[Iu #[I a.name,O J a.state,O J a.nJ,O J a.addr,Ic a.server],Iu #[I b.name,O J b.state,O J b.nJ,O J b.addr,Ic b.server]] w λe w'=>e=Ia (Ic (an8 a b))/\Below w.heap.size w w':=by
 refine(Kf a.name b.name a.state a.nJ a.addr a.server b.state b.nJ b.addr b.server w).mono ?_;rintro e w' ⟨rfl,rfl⟩;exact⟨rfl,((If _ _).alloc (By _) _).alloc (by simp) _⟩
abbrev MQ:=func106
abbrev ET:=ntmps106
abbrev akq:=func268
abbrev acn:=ntmps268
abbrev an3:=func236
abbrev aiO:=ntmps236
theorem Cy:EP 106 107 Row np 20:=ES
theorem vv:zn 106:=zo
theorem EX:Hp 268 107 Row rL dm DS 40:=Hu
theorem Dh:ER 268 DS:=EV
theorem Di:Hq 268 107 Sl ack rL dm DS 40:=EW
theorem Bu:VM 236 107 Sl ack pj DS 40:=VO
abbrev atG:=func234
abbrev an4:=ntmps234
theorem agx{a b:List Mem}(Hv:a.length<=20)(MR:b.length<=20)(k:Nat):(GC a b k).length<=40:=aks
structure Kth(w:World)(pb:Nat)(a b:List Mem)(k:Nat)(l:List Mem)(pk:Option Addr)(ck:Nat):Prop where
 cell:w.cell? ⟨pb,k,U⟩=AI (sh pk l.length ck)
 row:l=[]\/∃b off,pk=AI ⟨b,off,U⟩/\b<w.heap.size/\Row w b off l
 oks:∀m∈l,(m).name.size<=Il
 len:l.length<=20
 atF:(GC a b k).length<=20
 an5:pj (GC a b k)
 atI:∀m∈GC a b k,(m).name.size<=Il
 step:GC a b (k+1)=nO (GC a b k) l
theorem akv{a b:List Mem}{va vb:Value}{pb:Nat}{w:World}(ha:Sl w va a)(hb:Sl w vb b)(Aj:w.cell? ⟨pb,0,U⟩=AI va)(zq:w.cell? ⟨pb,1,U⟩=AI vb)(Hv:a.length<=20)(MR:b.length<=20)(ra:pj a)(k:Nat)(hk:k<2) :
 ∃l pk ck,Kth w pb a b k l pk ck:=akt
theorem agA{a b:List Mem}{pb k:Nat}{w:World}{l:List Mem}{pk:Option Addr}{ck:Nat}(h:Kth w pb a b k l pk ck)(q:Nat):(nO (GC a b k) (l.take q)).length<=40:=aku
theorem Xi:acq 234 107 171 Sl Own nO pj 20:=acr
theorem wD(m:Mem)(w:World)(hm:m.name.size<=Il) :
 Calls AT 105 #[Iu #[I m.name,O J m.state,O J m.nJ,O J m.addr,Ic m.server]] w λe w'=>e=Ia (O J m.e)/\Below w.heap.size w w':=by
 refine(Lp m.name m.state m.nJ m.addr m.server w hm).mono ?_;rintro e w' ⟨rfl,rfl⟩;exact⟨rfl,(If _ _).alloc (By _) _⟩
abbrev x_M:Nat:=20
abbrev acw:=func60
abbrev MS:=ntmps60
abbrev akA:=func169
abbrev acx:=ntmps169
abbrev aod:=func193
abbrev aiQ:=ntmps193
abbrev acA(m:Mem):Prop:=(m).name.size<=Il
theorem wX:E5 60 Row nu acA dm 20:=acv
theorem vx:Cw 60 20:=Sd
theorem vy:Cx 60:=Se
theorem nU:E6 60 Sl nu:=Sf
theorem qY:E7 169 Sl nW:=Sg
theorem adf:agB 193 Sl nW nP:=akB
theorem XR:acu 193 Sl Own nW nP nO 20:=akC
theorem CN(ms:List Mem)(b off cap:Nat)(w:World)(hr:Row w b off ms)(hb:b<w.heap.size)(hn:ms.length<=20)(hs:∀j,(ms.getD j dm).name.size<=Il) :
 rI 12 #[sh (AI ⟨b,off,U⟩) ms.length cap] w (O J (nu ms)):=by
 have HR:Hid (Row w b off ms):=hr;clear hr;have HE:Hid (∀k,k<ms.length->(∀j,j<k->(ms.getD j dm).e=0)->(ms.getD k dm).e≠0->nu ms=(ms.getD k dm).e):=λk h1 h2 h3=>Bs ms k hn h1 h2 h3;have H4:Hid ((∀j,j<ms.length->(ms.getD j dm).e=0)->∀k,k+1<ms.length->less (ms.getD k dm).name (ms.getD (k+1) dm).name=false->nu ms=4):=λh1 k h2 h3=>EM ms k hn h1 h2 h3;have H0:Hid ((∀j,j<ms.length->(ms.getD j dm).e=0)->(∀j,j+1<ms.length->less (ms.getD j dm).name (ms.getD (j+1) dm).name=true)->nu ms=0):=λh1 h2=>EN ms hn h1 h2;generalize hN:ms.length=n at *;have HN:Hid (ms.length=n):=hN;clear hN;have HS:Hid (∀j,(ms.getD j dm).name.size<=Il):=hs;clear hs;generalize hC:nu ms=res at *;go_enter func12,ntmps12;go_wp2_with fail;go_loopw [3] (λi w'=>∃k:Nat,k<=n/\i=O J k/\Below w.heap.size w w'/\Hid (∀j,j<k->(ms.getD j dm).e=0)) (λi _=>n-(intOf i).toNat)
 case atStart=>exact⟨0,Iw _,rfl,If _ _,λj h=>absurd h (IV _)⟩
 case round=>
  obtain⟨k,hk,rfl,nE,hz⟩:=hrel;obtain⟨rM,Ai⟩:=pd nE;have od:=nE.size;by_cases mS:k<n
  .obtain⟨c0,c1,c2,c3,c4⟩:=HR.out k (by rw[HN.out];exact mS)
   have Ci:=HS.out k;have HK:Hid ((ms.getD k dm).e≠0->res=(ms.getD k dm).e):=λh=>HE.out k mS hz.out h;have HZ:Hid ((ms.getD k dm).e=0->∀j,j<k+1->(ms.getD j dm).e=0):=λh j hj=>by
    rcases IL.1 hj with h2|rfl
    .exact hz.out j h2
    .exact h
   generalize ms.getD k dm=m at *;obtain⟨nm,st,lf,ad,sv⟩:=m;simp only at c0 c1 c2 c3 c4 Ci;rcases he:decide (uA nm st lf ad=0) with _|_
   .have Am:(uA nm st lf ad !=0)=true:=by simpa using he
    clear he;go_wp2_with (go_at_call 36;refine(wI _ _ _ _ _ _ Ci).mono ?_;rintro e w' ⟨rfl,rfl⟩);go_ret;have nK:uA nm st lf ad≠0:=by simpa using Am
    have yg:res=uA nm st lf ad:=HK.out nK;exact⟨mN yg.symm,nE.alloc od _⟩
   .have Am:(uA nm st lf ad !=0)=false:=by simpa using he
    clear he;go_wp2_with (go_at_call 36;refine(wI _ _ _ _ _ _ Ci).mono ?_;rintro e w' ⟨rfl,rfl⟩);go_roundw
    case rel=>
     have he0:uA nm st lf ad=0:=by simpa using Am
     exact⟨k+1,by omega,by go_num,nE.alloc od _,HZ.out he0⟩
    case measure=>simp[intOf];omega
  .have qe:Hid (∀j,j<n->(ms.getD j dm).e=0):=λj hj=>hz.out j (by omega)
   clear hz;go_wp2_with fail;go_loopw [5] (λi w'=>∃k:Nat,(k+1<=n\/k=0)/\i=O J (k+1)/\Below w.heap.size w w'/\Hid (∀j,j<k->less (ms.getD j dm).name (ms.getD (j+1) dm).name=true)) (λi _=>n-(intOf i).toNat)
   case atStart=>exact⟨0,.inr rfl,rfl,nE,λj h=>absurd h (IV _)⟩
   case round=>
    clear rM Ai od nE;obtain⟨q,hq,rfl,nE,hz⟩:=hrel;obtain⟨rM,Ai⟩:=pd nE;have od:=nE.size;by_cases mS:q+1<n
    .obtain⟨c0,_,_,_,_⟩:=HR.out q (by rw[HN.out];omega)
     obtain⟨d0,_,_,_,_⟩:=HR.out (q+1) (by rw[HN.out];exact mS);have HK:Hid (less (ms.getD q dm).name (ms.getD (q+1) dm).name=false->res=4):=λh=>H4.out qe.out q mS h;have HZ:Hid (less (ms.getD q dm).name (ms.getD (q+1) dm).name=true->∀j,j<q+1->less (ms.getD j dm).name (ms.getD (j+1) dm).name=true):=λh j hj=>by
      rcases IL.1 hj with h2|rfl
      .exact hz.out j h2
      .exact h
     generalize ms.getD q dm=m1 at *;generalize ms.getD (q+1) dm=m2 at *;rcases hl:Op.bytesLess m1.name.toList m2.name.toList with _|_
     .have h4:res=4:=HK.out hl
      clear hC;have oR:=uu m1.name.toList m2.name.toList;rw[hl] at oR;have sy:=oR.symm;clear oR hl;go_wp2_with fail;go_quiet (fail)
      go_wp2_with fail;go_ret;exact⟨mN h4.symm,below_drewN nE _⟩
     .have oR:=uu m1.name.toList m2.name.toList
      rw[hl] at oR;have sy:=oR.symm;clear oR;have HL:Hid _:=hl;clear hl;go_wp2_with fail;go_quiet (fail)
      go_wp2_with fail;go_roundw
      case rel=>exact⟨q+1,.inl (by omega),by go_num,below_drewN nE _,HZ.out HL.out⟩
      case measure=>simp[intOf];omega
    .have h0:res=0:=H0.out qe.out λj hj=>hz.out j (by omega)
     clear hC;go_wp2_with fail;go_ret;exact⟨mN h0.symm,nE⟩
theorem BJ(a:Option Addr)(n cap:Nat)(w:World)(hn:20<n) :
 ni 12 #[sh a n cap] w λe w'=>e=Ia (O J 2)/\w'=w:=by
 go_enter func12,ntmps12;go_wp2_with fail;go_ret;exact⟨rfl,rfl⟩
theorem BK(a:Option Addr)(cap:Nat)(w:World) :
 ni 12 #[sh a 0 cap] w λe w'=>e=Ia (O J 0)/\w'=w:=by
 go_enter func12,ntmps12;go_wp2_with fail;go_loop [3] (λi=>i=O J 0) (λ_=>0)
 case atStart=>rfl
 case round=>
  subst hrel;go_wp2_with fail;go_loop [5] (λi=>i=O J 1) (λ_=>0)
  case atStart=>rfl
  case round=>
   subst hrel;go_wp2_with fail;go_ret;exact⟨rfl,rfl⟩
theorem xe(ms:List Mem)(v:Value)(w:World)(h:Sl w v ms) :
 rI 12 #[v] w (O J (nu ms)):=by
 obtain⟨a,cap,rfl,hs,h⟩:=h;by_cases hn:20<ms.length
 .refine(BJ a ms.length cap w hn).mono ?_
  rintro e w' ⟨rfl,rfl⟩;exact⟨mN (by rw[nu,if_pos hn]),If _ _⟩
 .rcases h with rfl|⟨b,off,rfl,hb,hr⟩
  .refine(BK a cap w).mono ?_
   rintro e w' ⟨rfl,rfl⟩;exact⟨rfl,If _ _⟩
  .exact CN ms b off cap w hr hb (by omega) hs
theorem zC(nm:ByteArray)(st lf ad:Int)(sv:Bool)(w:World) :
 ni 170 #[Iu #[I nm,O J st,O J lf,O J ad,Ic sv]] w λe w'=>e=Ia (sh (AI ⟨w.heap.size+1,0,U⟩) 1 1)/\w'=(w.alloc (Ib #[I nm,O J st,O J lf,O J ad,Ic sv] 55)).alloc (Ib #[I nm,O J st,O J lf,O J ad,Ic sv] 55):=by
 go_enter func170,ntmps170;go_wp2;go_ret;exact⟨rfl,rfl⟩
def xf(x y:Mem):Bool:=x.name.toList==y.name.toList&&(x.state==y.state&&(x.nJ==y.nJ&&(x.addr==y.addr&&x.server==y.server)))
theorem zD(x y:Mem):xf x y=true↔x=y:=by
 obtain⟨n1,s1,l1,a1,v1⟩:=x;obtain⟨n2,s2,l2,a2,v2⟩:=y;simp only[xf,IP,beq_iff_eq,Mem.mk.injEq,Lib.toList_data];constructor
 .rintro⟨h1,h2,h3,h4,h5⟩;exact⟨pW h1,h2,h3,h4,h5⟩
 .rintro⟨rfl,h2,h3,h4,h5⟩;exact⟨rfl,h2,h3,h4,h5⟩
theorem akZ(m1 m2:Mem)(w:World):(Op.equalIn 10000 55 (Iu #[I m1.name,O J m1.state,O J m1.nJ,O J m1.addr,Ic m1.server]) (Iu #[I m2.name,O J m2.state,O J m2.nJ,O J m2.addr,Ic m2.server])).run AT w=.ok (xf m1 m2) w:=by
 have u3:=IH;have u4:=Jo;have u9:=IF;have a3:=No;have z3:=JY;have a4:=OE;have z4:=Oo;have a9:=Oj;have z9:=J8;have hS:Tryz.prog.underlying 55=AI (.struct (Tryz.prog.fieldsOf 55)):=by kernel_rfl
 have hp:Tryz.prog.stoodInHeld 55=false:=by kernel_rfl
 rw[show(10000:Nat)=9999+1 from rfl,run_equalIn_agg w 9999 55 _ _ hS hp];simp only[Program.fieldsOf,underlying55];go_simp;unfold xf;by_cases h1:m1.name.toList=m2.name.toList<;>by_cases h2:m1.state=m2.state<;>by_cases h3:m1.nJ=m2.nJ<;>by_cases h4:m1.addr=m2.addr<;>by_cases h5:m1.server=m2.server<;>simp[h1,h2,h3,h4,h5]
theorem aoK(m1 m2:Mem)(w:World):Sem.run AT (binOp .neq 55 (Iu #[I m1.name,O J m1.state,O J m1.nJ,O J m1.addr,Ic m1.server]) (Iu #[I m2.name,O J m2.state,O J m2.nJ,O J m2.addr,Ic m2.server])) w=.ok (Ic (!xf m1 m2)) w:=by
 rw[run_neq_struct,akZ];rfl
theorem ak0{P:Prop}(h:P:=by
 have Sa:Hid (a=b):=by
  apply List.ext_getElem (HN.out.trans HL.out);intro j h1 h2;have:=hz.out j (by have:=HN.out;omega);simpa[Ip,Ih h1,Ih h2] using this
 go_wp2_with fail;go_ret;exact⟨true,rfl,⟨λ_=>Sa.out,λ_=>rfl⟩,nE⟩):P:=h
theorem XS(a b:List Mem)(va vb:Value)(w:World)(ha:Sl w va a)(hb:Sl w vb b)(Ho:a.length<=1000) :
 ni 194 #[va,vb] w λe w'=>∃r:Bool,e=Ia (Ic r)/\(r=true↔a=b)/\Below w.heap.size w w':=by
 obtain⟨pa,ca,rfl,_,ha⟩:=ha;obtain⟨pv,cb,rfl,_,hb⟩:=hb;by_cases hl:a.length=b.length
 .have HA:Hid _:=ha
  have HB:Hid _:=hb;have HL:Hid _:=hl;clear ha hb;rw[<- hl];clear hl;generalize Ap:a.length=n at *;have HN:Hid _:=Ap;clear Ap;have aCo:Tryz.prog.eqGuardType Tryz.prog.depth 55=false:=by kernel_rfl
  go_enter func194,ntmps194;go_wp2_with fail;go_loopw [13] (λi w'=>∃k:Nat,k<=n/\i=O J k/\Below w.heap.size w w'/\Hid (∀j,j<k->a.getD j dm=b.getD j dm)) (λi _=>n-(intOf i).toNat)
  case atStart=>exact⟨0,Iw _,rfl,If _ _,λj h=>absurd h (IV _)⟩
  case round=>
   obtain⟨k,hk,rfl,nE,hz⟩:=hrel;obtain⟨rM,Ai⟩:=pd nE;have od:=nE.size;by_cases mS:k<n
   .obtain⟨b1,o1,tr,o8,wT⟩:∃b off,pa=AI ⟨b,off,U⟩/\b<w.heap.size/\Row w b off a:=by
     rcases HA.out with h|h
     .have:=HN.out;rw[h] at this;simp at this;omega
     .exact h
    obtain⟨b2,o2,SR,oR,Bk⟩:∃b_1 off,pv=AI ⟨b_1,off,U⟩/\b_1<w.heap.size/\Row w b_1 off b:=by
     rcases HB.out with h|h
     .have h2:=HN.out;have h3:=HL.out;rw[h] at h3;simp at h3;omega
     .exact h
    subst tr;subst SR;obtain⟨c0,c1,c2,c3,c4⟩:=wT k (by rw[HN.out];exact mS);obtain⟨d0,d1,d2,d3,d4⟩:=Bk k (by have h2:=HN.out;have h3:=HL.out;omega);clear wT Bk;have HF:Hid (a.getD k dm≠b.getD k dm->a≠b):=λh e=>h (by rw[e]);have HZ:Hid (a.getD k dm=b.getD k dm->∀j,j<k+1->a.getD j dm=b.getD j dm):=λh j hj=>by
     rcases IL.1 hj with h2|rfl
     .exact hz.out j h2
     .exact h
    have Xf:=aoK (a.getD k dm) (b.getD k dm);generalize a.getD k dm=m1 at *;generalize b.getD k dm=m2 at *;rcases hs:xf m1 m2 with _|_
    .rw[hs] at Xf
     have nK:Hid _:=HF.out (λe=>by rw[<- zD,hs] at e;cases e);go_wp2_with fail;go_quiet (fail)
     go_wp2_with fail;go_ret;exact⟨false,rfl,⟨λh=>(by cases h),λh=>absurd h nK.out⟩,below_drewN nE _⟩
    .rw[hs] at Xf
     have heq:Hid _:=(zD m1 m2).1 hs;go_wp2_with fail;go_quiet (fail)
     go_wp2_with fail;go_roundw
     case rel=>exact⟨k+1,by omega,by go_num,below_drewN nE _,HZ.out heq.out⟩
     case measure=>simp[intOf];omega
   .exact ak0
 .have nK:((a.length:Int)!=(b.length:Int))=true:=by rw[bne_iff_ne];omega
  have HF:Hid (a≠b):=λe=>hl (by rw[e]);clear ha hb;go_enter func194,ntmps194;go_wp2_with fail;go_ret;exact⟨false,rfl,⟨λh=>(by cases h),λh=>absurd h HF.out⟩,If _ _⟩
theorem sY(ms:List Mem)(v:Value)(w:World)(h:Sl w v ms)(hn:ms.length<=1000) :
 ni 90 #[v] w λe w'=>∃v',e=Ia v'/\Own w.heap.size w' v' ms/\Below w.heap.size w w':=by
 obtain⟨a,cap,rfl,hs,h⟩:=h;obtain⟨i0,qg,oS,so,sf⟩:=Jc Tryz.RP;cases a with
 |none=>
  have he:ms=[]:=by
   rcases h with h|⟨b,off,h,_⟩
   .exact h
   .cases h
  subst he;clear h hs;have uI:=λ(w:World)=>JB (P:=AT) w 22 55 U 0 cap 0 0 OW;simp only[OH,Qs] at uI ⊢;go_enter func90,ntmps90;go_wp2_with fail;go_ret;exact⟨_,rfl,nh _ _,If _ _⟩
 |some a=>
  have uI:=λ(w:World)=>JB (P:=AT) w 22 55 (AI a) ms.length cap 0 0 OW;simp only[Qt] at uI;have hnews:Hid (∀j u,(fl ms)[j]?=AI u->(w.alloc (Ib #[] 55)).cell? (a.add j)=AI u):=by
   intro j u hj;rcases h with h|⟨b,off,h,hb,hr⟩
   .subst h;simp[fl] at hj
   .cases h
    have VD:j<ms.length*5:=by rw[<- pD];exact(I7.1 hj).1
    have h1:=rz ms (j/5) (by omega) (j%5) (by omega);rw[show j/5*5+j%5=j by omega,hj] at h1;rw[I4,Oc (w:=w) _ b _ hb];obtain⟨c0,c1,c2,c3,c4⟩:=hr (j/5) (by omega);have oH:j%5=0\/j%5=1\/j%5=2\/j%5=3\/j%5=4:=by omega
    rcases oH with e|e|e|e|e
    .rw[show off+j=off+j/5*5 by omega,c0];rw[e] at h1;simpa[Mem.cs] using h1.symm
    .rw[show off+j=off+j/5*5+1 by omega,c1];rw[e] at h1;simpa[Mem.cs] using h1.symm
    .rw[show off+j=off+j/5*5+2 by omega,c2];rw[e] at h1;simpa[Mem.cs] using h1.symm
    .rw[show off+j=off+j/5*5+3 by omega,c3];rw[e] at h1;simpa[Mem.cs] using h1.symm
    .rw[show off+j=off+j/5*5+4 by omega,c4];rw[e] at h1;simpa[Mem.cs] using h1.symm
  have HO:Hid ((w.alloc (Ib #[] 55)).ownsRow w.heap.size 55 5 (sh (AI ⟨w.heap.size,0,U⟩) 0 0) 0 []):=Qv w #[] 0 (By _) (by unfold Il;omega) rfl;clear h hs;go_enter func90,ntmps90;go_wp2_with (at_builtin;refine IY _ rfl _ _ 22 rfl w.heap.size 55 i0 _ 5 48 OW qg oS so sf rfl (by omega) _ 0 [] rfl HO.out a ms.length cap (fl ms) rfl (pD ms) hnews.out (tA ms) (by unfold Il;omega) (by omega) (by simp) ?_);intro v' w' r1 r2 r3;go_wp2_with fail;go_ret;refine⟨v',rfl,?_,?_⟩
  .simpa using r1
  .exact((If _ _).alloc (By _) _).grown r2 (by simp) (λk hk=>by simp[Jb] at hk;omega)
theorem adg(a b:List Mem)(va vb:Value)(pb cap:Nat)(w:World)(ha:Sl w va a)(hb:Sl w vb b)(K5:pb<w.heap.size)(Aj:w.cell? ⟨pb,0,U⟩=AI va)(zq:w.cell? ⟨pb,1,U⟩=AI vb) :
 Calls AT 193 #[sh (AI ⟨pb,0,U⟩) 2 cap] w λe w'=>∃v',e=Ia (Ir #[v',O J (nP a b)])/\Below w.heap.size w w' /\
  (nP a b≠0->v'=sh U 0 0)/\(nP a b=0->Own w.heap.size w' v' (nO a b)):=by
 by_cases h0:nW a b=0
 .refine(XR a b va vb pb cap w ha hb K5 Aj zq h0).mono ?_
  rintro e w' ⟨v',rfl,h1,h2,h3⟩;have hE:nP a b=if 20<(nO a b).length then 2 else 0:=if_pos h0;refine⟨v',rfl,h1,λnK=>h2 ?_,λhz=>h3 ?_⟩
  .rw[hE] at nK;split at nK
   .assumption
   .exact absurd rfl nK
  .rw[hE] at hz;split at hz
   .cases hz
   .omega
 .refine(adf a b va vb pb cap w ha hb K5 Aj zq h0).mono ?_
  rintro e w' ⟨rfl,h1⟩;have hE:nP a b=nW a b:=if_neg h0;exact⟨_,rfl,h1,λ_=>rfl,λhz=>absurd (hE▸hz) h0⟩
theorem adh(ms:List Mem)(m:Mem)(v:Value)(w:World)(hv:Sl w v ms)(hm:m.name.size<=Il) :
 Calls AT 150 #[v,Iu #[I m.name,O J m.state,O J m.nJ,O J m.addr,Ic m.server]] w λe w'=>∃(v':Value) (r:Bool),e=Ia (Ir #[v',Ic r,O J (nP ms [m])])/\Below w.heap.size w w' /\
  (nP ms [m]≠0->v'=sh U 0 0/\r=false)/\(nP ms [m]=0->Own w.heap.size w' v' (nY ms m)/\(r=true↔nY ms m≠ms)):=by
 have HV:=hv;obtain⟨pa,ca,rfl,ns,_⟩:=hv;obtain⟨W,hW⟩:∃W,W=(((w.alloc (Ib #[I m.name,O J m.state,O J m.nJ,O J m.addr,Ic m.server] 55)).alloc (Ib #[I m.name,O J m.state,O J m.nJ,O J m.addr,Ic m.server] 55)).alloc (Ib #[I m.name,O J m.state,O J m.nJ,O J m.addr,Ic m.server] 55)).alloc (Ib #[sh pa ms.length ca,sh (AI ⟨w.heap.size+1+1,0,U⟩) 1 1] 22):=⟨_,rfl⟩;go_enter func150,ntmps150;go_wp2_with (go_at_call 170;refine(zC _ _ _ _ _ _).mono ?_;rintro e w' ⟨rfl,rfl⟩);obtain⟨M,hM⟩:∃M:Obj,M=Ib #[I m.name,O J m.state,O J m.nJ,O J m.addr,Ic m.server] 55:=⟨_,rfl⟩;have rG:Below w.heap.size w W:=by rw[hW];exact((((If _ _).alloc (By _) _).alloc (by simp) _).alloc (by simp;omega) _).alloc (by simp;omega) _
 have CB:W.heap.size=w.heap.size+1+1+1+1:=by rw[hW];simp
 have Cv:W.heap[w.heap.size+1+1+1]?=AI (Ib #[sh pa ms.length ca,sh (AI ⟨w.heap.size+1+1,0,U⟩) 1 1] 22 (0,0)):=by rw[hW];have:=Ii (((w.alloc M).alloc M).alloc M) (Ib #[sh pa ms.length ca,sh (AI ⟨w.heap.size+1+1,0,U⟩) 1 1] 22);rw[hM] at this;simpa using this
 have vR:W.heap[w.heap.size+1+1]?=AI (Ib #[I m.name,O J m.state,O J m.nJ,O J m.addr,Ic m.server] 55 (0,0)):=by
  rw[hW,Iv _ _ _ (by simp)];have:=Ii ((w.alloc M).alloc M) M;rw[hM] at this;simpa using this
 rw[<- hW];refine(adg ms [m] (sh pa ms.length ca) (sh (AI ⟨w.heap.size+1+1,0,U⟩) 1 1) (w.heap.size+1+1+1) 2 W (HV.below rG) (RO W _ 1 m hm vR) (by omega) (fi Cv 0) (fi Cv 1)).mono ?_;rintro e w2 ⟨v',rfl,h1,h2,h3⟩;have HB:Hid _:=rG.trans (h1.mono (by omega));have HV2:Hid (Sl _ _ _):=HV.below HB.out;have H3:Hid (nP ms [m]=0->Own w.heap.size w2 v' (nY ms m)):=λh=>(h3 h).mono (by omega);clear h2 h3 h1 vR Cv CB rG hW hM HV;rcases he:decide (nP ms [m]=0) with _|_
 .have Am:(nP ms [m]!=0)=true:=by simpa using he
  have nK:Hid (nP ms [m]≠0):=(show nP ms [m]≠0 by simpa using he);clear he;go_wp2_with fail;go_ret3
  exact⟨_,false,rfl,HB.out,λ_=>⟨rfl,rfl⟩,λh=>absurd h nK.out⟩
 .have Am:(nP ms [m]!=0)=false:=by simpa using he
  have hz:Hid (nP ms [m]=0):=(show nP ms [m]=0 by simpa using he);clear he;have HO:Hid (Own _ _ _ _):=H3.out hz.out;have V5:nu ms=0:=by
   have h:=hz.out;unfold Hid nP nW at h;by_cases h1:nu ms=0
   .exact h1
   .rw[if_neg h1,if_neg h1] at h;exact absurd h h1
  have HC:Hid _:=V5;clear V5;have NS:Hid _:=V4 (rA ns) hm;have hlen:Hid ((nY ms m).length<=1000):=by have h1:=CM ms m;have h2:=mU HC.out;show(nY ms m).length<=1000;omega
  go_wp2_with (go_at_call 194;refine(XS (nY ms m) ms _ _ _ (o7 HO.out NS.out) HV2.out hlen.out).mono ?_;rintro e w3 ⟨r,rfl,h5,h6⟩);go_ret3
  refine⟨v',!r,by rw[show nP ms [m]=0 from hz.out];rfl,HB.out.trans (h6.mono HB.out.size),λh=>absurd hz.out h,λ_=>⟨HO.out.below h6,?_⟩⟩;cases r
  .simp at h5;simpa using h5
  .simp at h5;simpa using h5
theorem wK(nm:ByteArray)(st lf ad:Int)(sv:Bool)(w:World) :
 Calls AT 237 #[Iu #[I nm,O J st,O J lf,O J ad,Ic sv]] w λe w'=>e=Ia (Ic (decide (st=2)||decide (st=3)))/\w'=w.alloc (Ib #[I nm,O J st,O J lf,O J ad,Ic sv] 55):=by
 by_cases h:st=2
 .subst h
  go_enter func237,ntmps237;go_wp2;go_ret;exact⟨mW (by simp),rfl⟩
 .have h':(st==2)=false:=by simpa using h
  go_enter func237,ntmps237;go_wp2;go_ret;exact⟨mW (by rw[JH];simp[h]),rfl⟩
def qF(m:Mem):Mem:=⟨m.name,1,m.nJ+1,m.addr,m.server⟩
theorem ag6(ms:List Mem)(p:Nat)(hp:p<ms.length):((fl ms).set (p*5+1) (O J 1)).set (p*5+2) (O J ((ms.getD p dm).nJ+1))=fl (ms.set p (qF (ms.getD p dm))):=by
 induction ms generalizing p with
 |nil=>simp at hp
 |cons x r ih=>
  cases p with
  |zero=>simp[fl,Mem.cs,qF]
  |succ p=>
   have ih':=ih p (by simpa using hp);rw[List.set_cons_succ,oq,oq,JC,<- ih'];simp only[Nat.add_mul,Nat.one_mul];have e:∀(l:List Value) (k:Nat) (v:Value),(x.cs++l).set (k+5) v=x.cs++l.set k v:=λl k v=>by
    rw[List.set_append,if_neg (by rw[oj];omega),oj,Nat.add_sub_cancel]
   rw[show p*5+5+1=(p*5+1)+5 by omega,show p*5+5+2=(p*5+2)+5 by omega];rw[e,e]
theorem adi{base g c p:Nat}{W:World}{ms:List Mem}(h:Own base W (sh (AI ⟨g,0,U⟩) ms.length c) ms)(hp:p<ms.length) :
 Own base ((W.setCell ⟨g,p*5+1,U⟩ (O J 1)).setCell ⟨g,p*5+2,U⟩ (O J ((ms.getD p dm).nJ+1))) (sh (AI ⟨g,0,U⟩) ms.length c) (ms.set p (qF (ms.getD p dm))):=by
 have h1:=M2 h (p*5+1) (O J 1);have h2:=M2 h1.1 (p*5+2) (O J ((ms.getD p dm).nJ+1));have e:=h2.1;rw[ag6 ms p hp] at e;show World.ownsRow _ _ _ _ _ (ms.set p (qF (ms.getD p dm))).length _;rw[List.length_set];exact e
theorem XT{nm:ByteArray}{st lf ad:Int}(h:uA nm st lf ad=0):mT nm=true/\(1<=st/\st<=4)/\(1<=lf/\lf<=1000000)/\(0<=ad/\ad<=4294967295):=by
 have hw:∀n a b:Int,within n a b=true->a<=n/\n<=b:=λn a b h=>by simpa[within] using h
 unfold uA at h;split at h
 .rename_i h1
  split at h
  .rename_i h2
   split at h
   .rename_i h3
    split at h
    .rename_i h4
     exact⟨h1,hw _ _ _ h2,hw _ _ _ h3,hw _ _ _ h4⟩
    .omega
   .omega
  .omega
 .omega
theorem pY:∀(ms:List Mem),nt ms=0->∀m∈ms,m.e=0
 |[],_,m,h=>by simp at h
 |x::r,h,m,hm=>by
  rw[nt] at h;split at h
  .rename_i h1
   rcases Jx.1 hm with rfl|hm
   .exact h1
   .exact pY r h m hm
  .rename_i h1;exact absurd h h1
theorem Fs{ms:List Mem}(h:nt ms=0)(p:Nat)(hp:p<ms.length):(ms.getD p dm).e=0:=by
 have:=pY ms h ms[p] (IU hp);simpa[Ip,Ih hp] using this
def vS(ms:List Mem)(p:Nat)(f:Bool):Bool:=f&&(decide ((ms.getD p dm).state=2)||decide ((ms.getD p dm).state=3))&&!((ms.getD p dm).nJ==1000000)
def vT(ms:List Mem)(p:Nat)(f:Bool):Int:=if f&&(decide ((ms.getD p dm).state=2)||decide ((ms.getD p dm).state=3))&&((ms.getD p dm).nJ==1000000) then 3 else 0
def Nl(ms:List Mem)(p:Nat)(f:Bool):List Mem:=if vS ms p f=true then ms.set p (qF (ms.getD p dm)) else ms
def ag7(ms:List Mem)(p:Nat)(f:Bool)(w:World)(e:Ending)(w':World):Prop:=
 ∃v':Value,e=Ia (Ir #[v',Ic (vS ms p f),O J (vT ms p f)])/\Below w.heap.size w w'/\(vT ms p f≠0->v'=sh U 0 0)/\(vT ms p f=0->Own w.heap.size w' v' (Nl ms p f))
theorem Nn(ms:List Mem)(v:Value)(me:ByteArray)(w:World)(hv:Sl w v ms)(h0:nu ms=0)(hs:me.size<=Il)(hl:mT me=true)(p:Nat)(f:Bool)(qi:At ms me p f) :
 Calls AT 196 #[v,I me] w λe w'=>ag7 ms p f w e w':=by
 have he:(nu ms !=0)=false:=by simpa using h0
 have hz:=mU h0;have HN:Hid (∀x∈ms,x.name.size<=Il):=by obtain⟨a,c,_,hn,_⟩:=hv;exact rA hn
 have HV:Hid (Sl w v ms):=hv;have HM:Hid (pj ms):=hz.2.1;have hlen:=hz.1;have Mr:Hid _:=hz.2.2;have vu:Hid _:=qi;clear hv h0 hz qi;go_enter func196,ntmps196;go_wp2_with (first|(go_at_call 60;refine(nU ms _ _ HV.out).mono ?_;rintro e w1 ⟨rfl,mO⟩)|(go_at_call 78;refine(nL _ _ hs).mono ?_;rintro e w' ⟨rfl,rfl⟩;rw[hl]));refine(sY ms _ _ (HV.out.below mO) (by omega)).mono ?_;rintro e w2 ⟨kv,rfl,xW,mZ⟩;have sI:Hid (Own _ _ _ _):=xW.mono mO.size;have nR:Hid _:=mO.trans (mZ.mono mO.size);clear xW mZ mO;go_wp2_with fail;refine(Bu ms _ ⟨me,0,0,0,false⟩ _ (o7 sI.out HN.out) (by omega) HM.out).mono ?_;rintro e w3 ⟨p',f',rfl,nC,SS⟩;obtain⟨rfl,rfl⟩:=vY vu.out SS;have tQ:Hid (Own _ _ _ _):=sI.out.below nC;have oT:Hid _:=nR.out.trans (nC.mono nR.out.size);clear SS nC sI nR;cases f with
 |false=>
  go_wp2_with fail;go_ret3
  exact⟨kv,rfl,oT.out,λh=>absurd rfl h,λ_=>tQ.out⟩
 |true=>
  have hp:=(vu.out.is.1 rfl).1;have hlf:=(XT (Fs Mr.out p hp)).2.2.1;obtain⟨g,c,hkv⟩:∃g c,kv=sh (AI ⟨g,0,U⟩) ms.length c:=by
   rcases tQ.out.2 with⟨_,h0⟩|⟨g,c,cur,h,_⟩
   .omega
   .exact⟨g,c,h⟩
  subst hkv;have Ak:=tQ.out.lt g rfl;have ux:∀o,w3.frozen? ⟨g,o,U⟩=false:=λo=>JE tQ.out o;have atK:=Ak.2;obtain⟨b',ag5,VW,Xm,pO⟩:∃b off,(AI ⟨g,0,U⟩:Option Addr)=AI ⟨b,off,U⟩/\b<w3.heap.size/\Row w3 b off ms:=by
   obtain⟨a,cap,h1,_,h2⟩:=o7 tQ.out HN.out;simp only[IM] at h1;obtain⟨rfl,_⟩:=h1;rcases h2 with h2|h2
   .rw[h2] at hp;simp at hp
   .exact h2
  simp only[Option.some.injEq,Addr.mk.injEq,and_true] at VW;obtain⟨rfl,rfl⟩:=VW;obtain⟨c0,c1,c2,c3,c4⟩:=pO p hp;clear pO Xm;simp only[I6] at c0 c1 c2 c3 c4;generalize hm:ms.getD p dm=m2 at *;have Hm:Hid _:=hm;clear hm;obtain⟨n2,s2,l2,a2,v2⟩:=m2;simp only at c0 c1 c2 c3 c4 hlf;obtain⟨aCq,aCr⟩:=hlf;rcases hd:(decide (s2=2)||decide (s2=3)) with _|_
  .go_wp2_with (go_at_call 237;refine(wK _ _ _ _ _ _).mono ?_;rintro e w' ⟨rfl,rfl⟩;rw[hd])
   go_ret3
   have e1:vS ms p true=false:=by unfold vS;rw[Hm.out];simp only[hd];rfl
   have e2:vT ms p true=0:=by unfold vT;rw[Hm.out];simp only[hd];rfl
   refine⟨sh (AI ⟨g,0,U⟩) ms.length c,by rw[e1,e2];rfl,oT.out.alloc oT.out.size _,λh=>absurd e2 h,λ_=>?_⟩;rw[Nl,e1,if_neg (by simp)];exact tQ.out.below ((If _ _).alloc (By _) _)
  .rcases oR:((l2:Int)==1000000) with _|_
   .have e1:vS ms p true=true:=by unfold vS;rw[Hm.out];simp only[hd,oR];rfl
    have e2:vT ms p true=0:=by unfold vT;rw[Hm.out];simp only[hd,oR];rfl
    have E1:Hid _:=e1;have E2:Hid _:=e2;clear e1 e2;have HS:=adi tQ.out hp;rw[Hm.out] at HS;have Bv:Hid (Own _ _ _ _):=HS;clear HS;go_wp2_with (go_at_call 237;refine(wK _ _ _ _ _ _).mono ?_;rintro e w' ⟨rfl,rfl⟩;rw[hd]);go_ret3
    refine⟨sh (AI ⟨g,0,U⟩) ms.length c,by rw[E1.out,E2.out];rfl,?_,λh=>absurd E2.out h,λ_=>?_⟩
    .have hB2:=(oT.out.setCell (p:=⟨g,p*5+1,U⟩) Ak.1 (O J 1)).setCell (p:=⟨g,p*5+2,U⟩) Ak.1 (O J (l2+1))
     exact hB2.alloc (by have:=oT.out.size;simpa using this) _
    .rw[Nl,if_pos E1.out,Hm.out]
     exact Bv.out.below ((If _ _).alloc (By _) _)
   .have E1:Hid (vS ms p true=false):=(show vS ms p true=false by unfold vS;rw[Hm.out];simp only[hd,oR];rfl)
    have E2:Hid (vT ms p true=3):=(show vT ms p true=3 by unfold vT;rw[Hm.out];simp only[hd,oR];rfl);go_wp2_with (go_at_call 237;refine(wK _ _ _ _ _ _).mono ?_;rintro e w' ⟨rfl,rfl⟩;rw[hd]);go_ret3
    exact⟨sh U 0 0,by rw[E1.out,E2.out];rfl,oT.out.alloc oT.out.size _,λ_=>rfl,λh=>by rw[E2.out] at h;cases h⟩
end Go.Proofs.YtipbebleapjcjaaGreatDoor
namespace Go.Proofs.YtipbebleapjcjaaGreatDoor
open Go.RowKit Go.WideMaps Go.Maps
structure nQ where
 m:Mem
 told:Int
def dr:nQ:=⟨dm,0⟩
def vU(w:World)(b off:Nat)(rs:List nQ):Prop:=∀j,j<rs.length ->
 w.cell? ⟨b,off+j*6,U⟩=AI (I (rs.getD j dr).m.name)/\w.cell? ⟨b,off+j*6+1,U⟩=AI (O J (rs.getD j dr).m.state) /\
 w.cell? ⟨b,off+j*6+2,U⟩=AI (O J (rs.getD j dr).m.nJ)/\w.cell? ⟨b,off+j*6+3,U⟩=AI (O J (rs.getD j dr).m.addr) /\
 w.cell? ⟨b,off+j*6+4,U⟩=AI (Ic (rs.getD j dr).m.server)/\w.cell? ⟨b,off+j*6+5,U⟩=AI (O J (rs.getD j dr).told)
theorem vU.below{w w':World}{b off B:Nat}{rs:List nQ}(h:vU w b off rs)(hb:Below B w w')(hB:b<B):vU w' b off rs:=λk hk=>by
 obtain⟨h0,h1,h2,h3,h4,h5⟩:=h k hk;exact⟨by rw[hb.cell hB];exact h0,by rw[hb.cell hB];exact h1,by rw[hb.cell hB];exact h2,by rw[hb.cell hB];exact h3,by rw[hb.cell hB];exact h4,by rw[hb.cell hB];exact h5⟩
def yd(w:World)(v:Value)(rs:List nQ):Prop:=
 ∃(a:Option Addr) (cap:Nat),v=sh a rs.length cap/\(∀j,(rs.getD j dr).m.name.size<=Il) /\
  (rs=[]\/∃b off,a=AI ⟨b,off,U⟩/\b<w.heap.size/\vU w b off rs)
theorem yd.below{w w':World}{v:Value}{rs:List nQ}(h:yd w v rs)(hb:Below w.heap.size w w'):yd w' v rs:=by
 obtain⟨a,c,hv,hn,h⟩:=h;refine⟨a,c,hv,hn,?_⟩;rcases h with h|⟨b,off,ha,mS,hr⟩
 .exact .inl h
 .exact .inr ⟨b,off,ha,Ix mS hb.size,hr.below hb mS⟩
def rB(rs:List nQ):List ByteArray:=rs.map (·.m.name)
theorem pF(rs:List nQ)(k:Nat):(rB rs).getD k Ie=(rs.getD k dr).m.name:=by
 by_cases h:k<rs.length
 .simp[rB,Ip,Ih h]
 .simp[rB,Ip,IK (by omega:rs.length<=k),dr,dm]
theorem ag8:Keyed AT 9:=string_keyed IF
theorem adj(w:World):(zeroValue 3).run AT w=.ok (O J 0) w:=by kernel_rfl
theorem ye(n:Int)(w:World):(Instr.makeMap 164 (AI (O J n))).run AT w=.ok (.map (AI w.heap.size)) (w.alloc (.map #[] 0)):=by
 have h:=run_underlying JQ;simp[Instr.makeMap,h,asInt,newObj];rfl
theorem BL(rs:List nQ)(v:Value)(w:World)(hv:yd w v rs)(hn:rs.length<=1000) :
 Calls AT 109 #[v] w λe w'=>e=Ia (.map (AI w.heap.size))/\w'.ownsMap AT 9 (JK (H:=Unit) AT 3) w.heap.size rs.length (Dm (rB rs) rs.length)/\Below w.heap.size w w':=by
 obtain⟨pa,ca,rfl,od,ha⟩:=hv;have HA:Hid _:=ha;have HS:Hid _:=od;clear ha od;generalize hN:rs.length=n at *;have HN:Hid _:=hN;clear hN;have yr:=ye;go_enter func109,ntmps109;go_wp2;go_loopw [11] (λi wr=>∃k:Nat,k<=n/\i=O J k/\Hid (wr.ownsMap AT 9 (JK (H:=Unit) AT 3) w.heap.size k (Dm (rB rs) k))/\Hid (Below w.heap.size w wr))
  (λi _=>n-(intOf i).toNat)
 case atStart=>exact⟨0,Iw _,rfl,Uz _ _ _ _,(If _ _).alloc (By _) _⟩
 case round=>
  obtain⟨k,hk,rfl,HO,HB⟩:=hrel;by_cases mS:k<n
  .obtain⟨b,off,hp,hl,hr⟩:∃b off,pa=AI ⟨b,off,U⟩/\b<w.heap.size/\vU w b off rs:=by
    rcases HA.out with h|h
    .have:=HN.out;rw[h] at this;simp at this;omega
    .exact h
   subst hp;obtain⟨c0,c1,c2,c3,c4,c5⟩:=hr.below HB.out hl k (by rw[HN.out];exact mS);have Sm:=keyOf_string_mk IF (HS.out k);have yB:Hid (∀w1:World,w1.ownsMap AT 9 (JK (H:=Unit) AT 3) w.heap.size (k+1) ((Dm (rB rs) k).put (kS (rs.getD k dr).m.name) (.lit (.int J k)))->w1.ownsMap AT 9 (JK (H:=Unit) AT 3) w.heap.size (k+1) (Dm (rB rs) (k+1))):=λw1 h=>by
    rw[Dm,pF];exact h
   generalize(rs.getD k dr)=rk at *;obtain⟨⟨nm,st,lf,ad,sv⟩,td⟩:=rk;simp only at c0 c1 c2 c3 c4 c5 Sm yB;clear hr;go_wp2_with (first
    |(at_mapUpdate;refine wpList_mapUpdate_own _ rfl _ _ _ 164 rfl 9 3 ag8 JQ _ w.heap.size k _ rfl (HO.out.alloc _) (by unfold Il;omega) _ _ _ rfl rfl Sm _ [] (plainElem_int IH (WalkArith.wf_i64 (by omega))) ?_)
    |fail)
   intro w1 uP adk;have R1:Hid (w1.ownsMap _ _ _ _ _ _):=yB.out w1 uP;have R2:Hid _:=(HB.out.alloc HB.out.size _).grown adk (by have:=HB.out.size;simp;omega) (λj hj=>by cases hj;exact By _);clear uP adk HO HB c0 c1 c2 c3 c4 c5 yB;go_wp2_with fail;go_roundw
   case rel=>exact⟨k+1,by omega,by go_num,R1,R2⟩
   case measure=>simp[intOf];omega
  .have tp:k=n:=by omega
   subst tp;go_wp2_with fail;go_ret;exact⟨rfl,HO.out,HB.out⟩
theorem vC(m:Mem):nu [m]=m.e:=by
 unfold nu;by_cases h:m.e=0
 .simp[nt,h,np]
 .simp[nt,h]
theorem oP{W:World}{cs:Array Value}{t:TypeId}{g k:Nat}(hg:g=W.heap.size):(W.alloc (Ib cs t)).cell? ⟨g,k,U⟩=cs[k]?:=by subst hg;simp
theorem rq(m:Mem)(w:World)(hs:m.name.size<=Il) :
 Calls AT 108 #[Iu #[I m.name,O J m.state,O J m.nJ,O J m.addr,Ic m.server]] w λe w'=>e=Ia (O J m.e)/\Below w.heap.size w w':=by
 go_enter func108,ntmps108;go_wp2_with fail;refine(nU [m] _ _ ⟨_,_,rfl,oz (by simpa using hs),.inr ⟨w.heap.size+1,0,rfl,by simp,?_⟩⟩).mono ?_
 .intro j hj
  have:j=0:=by simpa using hj
  subst this;exact⟨oP (by simp),oP (by simp),oP (by simp),oP (by simp),oP (by simp)⟩
 rintro e w1 ⟨rfl,mO⟩;have HB:Hid _:=(((If _ _).alloc (By _) _).alloc (by simp) _).trans (mO.mono (by simp;omega));clear mO;rw[vC];go_wp2_with fail;go_ret;exact⟨rfl,HB.out⟩
def qG(rs:List nQ):Prop:=∀i j,i<j->j<rs.length->(rs.getD i dr).m.name≠(rs.getD j dr).m.name
def Ay(rs:List nQ):List Mem:=rs.map (·.m)
theorem xh(rs:List nQ)(k:Nat):(Ay rs).getD k dm=(rs.getD k dr).m:=by
 by_cases h:k<rs.length
 .simp[Ay,Ip,Ih h]
 .simp[Ay,Ip,IK (by omega:rs.length<=k),dr]
theorem CO(rs:List nQ):(Ay rs).length=rs.length:=by simp[Ay]
def sL(rs:List nQ):Prop:=∀j,j<rs.length->within (rs.getD j dr).told 0 100=true
theorem Np(rs:List nQ):((J5 rs.length).all λj=>within (rs.getD j dr).told 0 100)=true↔sL rs:=by
 unfold sL;simp only[Od,Qr]
theorem Lq(rs:List nQ):((J5 rs.length).all λj=>(J5 j).all λi=>decide ((rs.getD i dr).m.name≠(rs.getD j dr).m.name))=true↔qG rs:=by
 unfold qG;simp only[Od,Qr,decide_eq_true_eq];exact⟨λh i j hi hj=>h j hj i hi,λh j hj i hi=>h i j hi hj⟩
def o5(rs:List nQ):Int:=
 if 20<rs.length then 2 else if nt (Ay rs)=0 then(@ite _ (sL rs) (decidable_of_iff _ (Np rs)) (@ite _ (qG rs) (decidable_of_iff _ (Lq rs)) 0 6) 3) else nt (Ay rs)
theorem Kh{rs:List nQ}(h:20<rs.length):o5 rs=2:=by unfold o5;rw[if_pos h]
theorem Nq{rs:List nQ}{k:Nat}(hn:rs.length<=20)(hk:k<rs.length)(hz:∀j,j<k->(rs.getD j dr).m.e=0)(nK:(rs.getD k dr).m.e≠0):o5 rs=(rs.getD k dr).m.e:=by
 have h:=pT (Ay rs) k (by rw[CO];exact hk) (λj hj=>by rw[xh];exact hz j hj) (by rw[xh];exact nK);rw[xh] at h;unfold o5;rw[if_neg (by omega),if_neg (by rw[h];exact nK),h]
theorem yG{rs:List nQ}(hz:∀j,j<rs.length->(rs.getD j dr).m.e=0):nt (Ay rs)=0:=
 ow _ (λj hj=>by rw[xh];exact hz j (by rw[CO] at hj;exact hj))
theorem Ki{rs:List nQ}{k:Nat}(hn:rs.length<=20)(hz:∀j,j<rs.length->(rs.getD j dr).m.e=0)(hk:k<rs.length)(nK:within (rs.getD k dr).told 0 100=false):o5 rs=3:=by
 unfold o5;rw[if_neg (by omega),if_pos (yG hz),if_neg];intro h;rw[h k hk] at nK;cases nK
theorem Ft{rs:List nQ}(hn:rs.length<=20)(hz:∀j,j<rs.length->(rs.getD j dr).m.e=0)(ht:sL rs)(hd:¬ qG rs):o5 rs=6:=by
 unfold o5;rw[if_neg (by omega),if_pos (yG hz),if_pos ht,if_neg hd]
theorem Lr{rs:List nQ}(hn:rs.length<=20)(hz:∀j,j<rs.length->(rs.getD j dr).m.e=0)(ht:sL rs)(hd:qG rs):o5 rs=0:=by
 unfold o5;rw[if_neg (by omega),if_pos (yG hz),if_pos ht,if_pos hd]
theorem aoL{rs:List nQ}(hd:¬ qG rs):Ol (Dm (rB rs) rs.length)<rs.length:=by
 apply AO;apply Classical.byContradiction;intro h;apply hd;intro i j yp hj e;exact h ⟨i,j,yp,hj,by rw[pF,pF];exact e⟩
theorem aoM{rs:List nQ}(hd:qG rs):Ol (Dm (rB rs) rs.length)=rs.length:=
 AM _ _ (λi j yp hj=>by rw[pF,pF];exact hd i j yp hj)
theorem sP(rs:List nQ)(v:Value)(w:World)(hv:yd w v rs) :
 Calls AT 61 #[v] w λe w'=>e=Ia (O J (o5 rs))/\Below w.heap.size w w':=by
 have HV:Hid (yd w v rs):=hv;obtain⟨pa,ca,rfl,od,ha⟩:=hv;by_cases hmany:20<rs.length
 .have HE:Hid _:=Kh hmany
  go_enter func61,ntmps61;go_wp2_with fail;go_ret;exact⟨mN HE.out.symm,If _ _⟩
 have HA:Hid _:=ha;have HS:Hid _:=od;clear ha od;generalize hN:rs.length=n at *;have HN:Hid _:=hN;clear hN;have zY:n<=20:=by omega
 go_enter func61,ntmps61;go_wp2;go_loopw [13] (λi wr=>∃k:Nat,k<=n/\i=O J k/\Hid (∀j,j<k->(rs.getD j dr).m.e=0)/\Hid (Below w.heap.size w wr))
  (λi _=>n-(intOf i).toNat)
 case atStart=>exact⟨0,Iw _,rfl,λj hj=>by omega,If _ _⟩
 case round=>
  obtain⟨k,hk,rfl,HZ,HB⟩:=hrel;by_cases mS:k<n
  .obtain⟨b,off,hp,hl,hr⟩:∃b off,pa=AI ⟨b,off,U⟩/\b<w.heap.size/\vU w b off rs:=by
    rcases HA.out with h|h
    .have:=HN.out;rw[h] at this;simp at this;omega
    .exact h
   subst hp;obtain⟨c0,c1,c2,c3,c4,c5⟩:=hr.below HB.out hl k (by rw[HN.out];exact mS);have sg:=HS.out k;have HX:Hid ((rs.getD k dr).m.e≠0->o5 rs=(rs.getD k dr).m.e):=λh=>Nq (by rw[HN.out];exact zY) (by rw[HN.out];exact mS) HZ.out h;have o6:Hid ((rs.getD k dr).m.e=0->∀j,j<k+1->(rs.getD j dr).m.e=0):=λh j hj=>by
    by_cases e:j=k
    .subst e;exact h
    .exact HZ.out j (by omega)
   generalize(rs.getD k dr)=rk at *;obtain⟨⟨nm,st,lf,ad,sv⟩,td⟩:=rk;simp only at c0 c1 c2 c3 c4 c5 sg HX o6;clear hr HZ;go_wp2_with fail;refine(rq ⟨nm,st,lf,ad,sv⟩ _ sg).mono ?_;rintro e w1 ⟨rfl,mO⟩;have mY:Hid _:=(HB.out.alloc HB.out.size _).trans (mO.mono (by have:=HB.out.size;simp;omega));clear mO c0 c1 c2 c3 c4 c5 HB;by_cases he:(Mem.mk nm st lf ad sv).e=0
   .have Am:((Mem.mk nm st lf ad sv).e !=0)=false:=by simpa using he
    have tu:Hid _:=o6.out he;clear HX o6 he;go_wp2_with fail;go_roundw
    case rel=>exact⟨k+1,by omega,by go_num,tu,mY⟩
    case measure=>simp[intOf];omega
   .have Am:((Mem.mk nm st lf ad sv).e !=0)=true:=by simpa using he
    have HE:Hid _:=HX.out he;clear HX o6 he;go_wp2_with fail;go_ret;exact⟨mN HE.out.symm,mY.out⟩
  .have HZA:Hid (∀j,j<rs.length->(rs.getD j dr).m.e=0):=λj hj=>HZ.out j (by rw[HN.out] at hj;omega)
   clear HZ;go_wp2_with fail;go_loopw [26] (λi wr=>∃k:Nat,k<=n/\i=O J k/\Hid (∀j,j<k->within (rs.getD j dr).told 0 100=true)/\Hid (Below w.heap.size w wr))
    (λi _=>n-(intOf i).toNat)
   case atStart=>exact⟨0,Iw _,rfl,λj hj=>by omega,HB⟩
   case round=>
    clear HB mS hk;obtain⟨k2,hk,rfl,HZ,HB⟩:=hrel;by_cases mS:k2<n
    .obtain⟨b,off,hp,hl,hr⟩:∃b off,pa=AI ⟨b,off,U⟩/\b<w.heap.size/\vU w b off rs:=by
      rcases HA.out with h|h
      .have:=HN.out;rw[h] at this;simp at this;omega
      .exact h
     subst hp;obtain⟨c0,c1,c2,c3,c4,c5⟩:=hr.below HB.out hl k2 (by rw[HN.out];exact mS);have HX:Hid (within (rs.getD k2 dr).told 0 100=false->o5 rs=3):=λh=>Ki (by rw[HN.out];exact zY) HZA.out (by rw[HN.out];exact mS) h;have o6:Hid (within (rs.getD k2 dr).told 0 100=true->∀j,j<k2+1->within (rs.getD j dr).told 0 100=true):=λh j hj=>by
      by_cases e:j=k2
      .subst e;exact h
      .exact HZ.out j (by omega)
     generalize(rs.getD k2 dr)=rk at *;obtain⟨⟨nm,st,lf,ad,sv⟩,td⟩:=rk;simp only at c0 c1 c2 c3 c4 c5 HX o6;clear hr HZ;rcases ht:within td 0 100 with _|_
     .have HE:Hid _:=HX.out ht
      clear HX o6;go_wp2_with (go_at_call 89;refine(oe _ _ _ _).mono ?_;rintro e w' ⟨rfl,rfl⟩;rw[ht]);go_ret;exact⟨mN HE.out.symm,HB.out.alloc HB.out.size _⟩
     .have tu:Hid _:=o6.out ht
      clear HX o6;go_wp2_with (go_at_call 89;refine(oe _ _ _ _).mono ?_;rintro e w' ⟨rfl,rfl⟩;rw[ht]);go_roundw
      case rel=>exact⟨k2+1,by omega,by go_num,tu,HB.out.alloc HB.out.size _⟩
      case measure=>simp[intOf];omega
    .have HTA:Hid (sL rs):=λj hj=>HZ.out j (by rw[HN.out] at hj;omega)
     clear HZ;go_wp2_with fail;refine(BL rs _ _ (HV.out.below HB.out) (by rw[HN.out];omega)).mono ?_;rintro e w1 ⟨rfl,hown,mO⟩;have HO:Hid (w1.ownsMap _ _ _ _ _ _):=hown;have mY:Hid _:=HB.out.trans (mO.mono HB.out.size);clear hown mO;have XE:(Ol (Dm (rB rs) rs.length):Nat)<=n:=by rw[<- HN.out];exact AK _ _
     by_cases hd:qG rs
     .have HE:Hid _:=Lr (by rw[HN.out];exact zY) HZA.out HTA.out hd
      have HSZ:¬ ((Ol (Dm (rB rs) rs.length):Nat):Int)<n:=by rw[aoM hd,HN.out];omega
      go_wp2_with (at_len;refine wpList_len_own _ rfl _ 164 rfl 9 3 JQ _ _ _ _ rfl HO.out ?_);go_ret;exact⟨mN HE.out.symm,mY.out⟩
     .have HE:Hid _:=Ft (by rw[HN.out];exact zY) HZA.out HTA.out hd
      have HSZ:((Ol (Dm (rB rs) rs.length):Nat):Int)<n:=by have:=aoL hd;have:=HN.out;omega
      go_wp2_with (at_len;refine wpList_len_own _ rfl _ 164 rfl 9 3 JQ _ _ _ _ rfl HO.out ?_);go_ret;exact⟨mN HE.out.symm,mY.out⟩
end Go.Proofs.YtipbebleapjcjaaGreatDoor
namespace Go.Proofs.YtipbebleapjcjaaGreatDoor
open Go.RowKit
def oX(ms:List Mem)(t:ByteArray):Option Mem:=ms.find? λm=>decide (m.name=t)
def qO(ms:List Mem)(t:ByteArray):Mem:=(oX ms t).getD dm
def wL(ms:List Mem)(t:ByteArray):Bool:=decide ((qO ms t).state=3)||decide ((qO ms t).state=4)
theorem zE{ms:List Mem}{t:ByteArray}(h:∀j,j<ms.length->(ms.getD j dm).name≠t):oX ms t=U:=by
 unfold oX;rw[List.find?_eq_none];intro x hx;obtain⟨j,hj,rfl⟩:=I2 hx;have:=h j hj;rw[show ms.getD j dm=ms[j] by simp[Ip,Ih hj]] at this;simpa using this
theorem zF{ms:List Mem}{t:ByteArray}{k:Nat}(hk:k<ms.length)(h1:∀j,j<k->(ms.getD j dm).name≠t)(h2:(ms.getD k dm).name=t):oX ms t=AI (ms.getD k dm):=by
 unfold oX;rw[show ms.getD k dm=ms[k] by simp[Ip,Ih hk]] at h2 ⊢;rw[List.find?_eq_some_iff_getElem];refine⟨by simpa using h2,k,hk,rfl,λj hj=>?_⟩;have:=h1 j hj;rw[show ms.getD j dm=ms[j]'(by omega) by simp[Ip,Ih (show j<ms.length by omega)]] at this;simpa using this
theorem BM{ms:List Mem}{t:ByteArray}{m:Mem}(h:oX ms t=AI m):m∈ms/\m.name=t:=by
 unfold oX at h;exact⟨List.mem_of_find?_eq_some h,by simpa using List.find?_some h⟩
def Az(ms:List Mem):Prop:=∀i j,i<j->j<ms.length->(ms.getD i dm).name≠(ms.getD j dm).name
def apB(ms:List Mem):Bool:=(J5 ms.length).all λj=>(J5 j).all λi=>decide ((ms.getD i dm).name≠(ms.getD j dm).name)
theorem Ls(ms:List Mem):apB ms=true↔Az ms:=by
 simp only[apB,Od,Qr,decide_eq_true_eq];exact⟨λh i j yp hj=>h j hj i yp,λh j hj i yp=>h i j yp hj⟩
def yk(ms:List Mem):Int:=if 5<ms.length then 2 else if nt ms=0 then(if apB ms=true then 0 else 6) else nt ms
theorem XU{ms:List Mem}(h:5<ms.length):yk ms=2:=if_pos h
theorem ak1{ms:List Mem}{k:Nat}(hn:ms.length<=5)(hk:k<ms.length)(hz:∀j,j<k->(ms.getD j dm).e=0)(nK:(ms.getD k dm).e≠0):yk ms=(ms.getD k dm).e:=by
 have h:=pT ms k hk hz nK;rw[yk,if_neg (by omega),h,if_neg nK]
theorem SU{ms:List Mem}(hn:ms.length<=5)(hz:∀j,j<ms.length->(ms.getD j dm).e=0)(hd:¬ Az ms):yk ms=6:=by
 rw[yk,if_neg (by omega),if_pos (ow ms hz),if_neg (λh=>hd ((Ls ms).1 h))]
theorem aha{ms:List Mem}(hn:ms.length<=5)(hz:∀j,j<ms.length->(ms.getD j dm).e=0)(hd:Az ms):yk ms=0:=by
 rw[yk,if_neg (by omega),if_pos (ow ms hz),if_pos ((Ls ms).2 hd)]
theorem XV{ms:List Mem}(h:yk ms=0):ms.length<=5/\nt ms=0/\Az ms:=by
 unfold yk at h;split at h
 .cases h
 .split at h
  .rename_i h1 h2
   split at h
   .rename_i h3;exact⟨by omega,h2,(Ls ms).1 h3⟩
   .cases h
  .rename_i h1 h2;exact absurd h h2
structure Pk where
 tG:ByteArray
 whole:Bool
 ms:List Mem
 sv:List Sv.nj
 gw:List Gw.pU
 wh:List Wh.nZ
def Pk.alone(p:Pk):Bool:=p.sv.isEmpty&&(p.gw.isEmpty&&p.wh.isEmpty)
def Pk.mE(p:Pk):Int:=if p.whole=true then nu p.ms else yk p.ms
def Pk.e(p:Pk):Int:=
 if(mT p.tG&&(p.whole||p.alone))=true then
  (if p.mE=0 then(if Sv.nu p.sv=0 then(if Gw.nu p.gw=0 then Wh.nu p.wh else Gw.nu p.gw) else Sv.nu p.sv) else p.mE)
 else 1
structure Nd where
 name:ByteArray
 mM:ByteArray
 ms:List Mem
 rs:List nQ
 sv:List Sv.nj
 gw:List Gw.pU
 p:Pl
 wh:List Wh.nZ
def vD(ms:List Mem)(r:nQ):Bool:=match oX ms r.m.name with
 |none=>true
 |some k=>wJ r.m k
def Nd.wE(n:Nd):Int:=match oX n.ms n.name with
 |none=>5
 |some m=>if m.state=2\/m.state=3 then 4 else if n.rs.any (vD n.ms)=true then 4 else 0
def Nd.pE(n:Nd):Int:=
 if(mT n.name&&mT n.mM)=true then
  (if nu n.ms=0 then(if o5 n.rs=0 then(if Sv.nu n.sv=0 then(if Gw.nu n.gw=0 then(if nV n.p=0 then Wh.nu n.wh else nV n.p) else Gw.nu n.gw) else Sv.nu n.sv) else o5 n.rs) else nu n.ms)
 else 1
def Nd.e(n:Nd):Int:=if n.pE=0 then n.wE else n.pE
structure Nd.ai6(n:Nd):Prop where
 name:mT n.name=true
 mM:mT n.mM=true
 ms:nu n.ms=0
 rs:o5 n.rs=0
 sv:Sv.nu n.sv=0
 gw:Gw.nu n.gw=0
 p:nV n.p=0
 wh:Wh.nu n.wh=0
theorem Nd.parts{n:Nd}(h:n.pE=0):n.ai6:=by
 unfold Nd.pE at h;split at h
 .rename_i h0
  rw[IP] at h0;split at h
  .rename_i h1
   split at h
   .rename_i h2
    split at h
    .rename_i h3
     split at h
     .rename_i h4
      split at h
      .rename_i h5;exact⟨h0.1,h0.2,h1,h2,h3,h4,h5,h⟩
      .rename_i h5;exact absurd h h5
     .rename_i h4;exact absurd h h4
    .rename_i h3;exact absurd h h3
   .rename_i h2;exact absurd h h2
  .rename_i h1;exact absurd h h1
 .cases h
theorem Nd.wM{n:Nd}(h:n.e=0):n.pE=0/\n.wE=0:=by
 unfold Nd.e at h;split at h
 .rename_i h1;exact⟨h1,h⟩
 .rename_i h1;exact absurd h h1
end Go.Proofs.YtipbebleapjcjaaGreatDoor
namespace Go.Proofs.YtipbebleapjcjaaGreatDoor
namespace Wh
open Go.RowKit
end Wh
namespace Wh
open Go.RowKit
abbrev MQ:=func168
abbrev ET:=ntmps168
theorem vv:zn 168:=zo
end Wh
namespace Wh
open Go.RowKit
theorem SV(a b:nZ)(w:World) :
 rI 167 #[Iu #[I a.node,O J a.x,O J a.y,O J a.z,O J a.h,O J a.s],Iu #[I b.node,O J b.x,O J b.y,O J b.z,O J b.h,O J b.s]] w (O J (ord a b)):=by
 go_enter func167,ntmps167;go_wp2_with (go_at_call 104;refine(sV _ _ _).mono ?_;rintro e w' ⟨rfl,rfl⟩);go_ret;exact⟨rfl,((If _ _).alloc (By _) _).alloc (by simp) _⟩
theorem SX(ms:List nZ)(b off cap:Nat)(w:World)(hr:Row w b off ms)(hb:b<w.heap.size)(hn:ms.length<=20) :
 ni 168 #[sh (AI ⟨b,off,U⟩) ms.length cap,JD (.func 167) #[] #[]] w λe w'=>e=Ia (Ic (np ms))/\Below w.heap.size w w':=by
 have HR:Hid (Row w b off ms):=hr;clear hr;have H4:Hid (∀k,k+1<ms.length->0<=ord (ms.getD k dm) (ms.getD (k+1) dm)->np ms=false):=λk hk hl=>by
  rcases h:np ms with _|_
  .rfl
  .have:=rK ms h k hk;omega
 have H0:Hid _:=rJ ms;generalize hN:ms.length=n at *;have HN:Hid _:=hN;clear hN;generalize hC:np ms=res at *;have HC:Hid _:=hC;clear hC;go_enter func168,ntmps168;go_wp2_with fail;go_loopw [5] (λi w'=>∃k:Nat,(k+1<=n\/k=0)/\i=O J (k+1)/\Below w.heap.size w w'/\Hid (∀j,j<k->ord (ms.getD j dm) (ms.getD (j+1) dm)<0)) (λi _=>n-(intOf i).toNat)
 case atStart=>exact⟨0,.inr rfl,rfl,If _ _,λj h=>absurd h (IV _)⟩
 case round=>
  obtain⟨q,hq,rfl,nE,hz⟩:=hrel;obtain⟨rM,Ai⟩:=pd nE;have od:=nE.size;by_cases mS:q+1<n
  .obtain⟨c0,c1,c2,c3,c4,c5⟩:=HR.out q (by rw[HN.out];omega)
   obtain⟨d0,d1,d2,d3,d4,d5⟩:=HR.out (q+1) (by rw[HN.out];exact mS);have HK:Hid (0<=ord (ms.getD q dm) (ms.getD (q+1) dm)->res=false):=λh=>H4.out q mS h;have HZ:Hid (ord (ms.getD q dm) (ms.getD (q+1) dm)<0->∀j,j<q+1->ord (ms.getD j dm) (ms.getD (j+1) dm)<0):=λh j hj=>by
    rcases IL.1 hj with h2|rfl
    .exact hz.out j h2
    .exact h
   generalize ms.getD q dm=m1 at *;generalize ms.getD (q+1) dm=m2 at *;have hN:∀d os,ni 167 #[Iu #[I m1.node,O J m1.x,O J m1.y,O J m1.z,O J m1.h,O J m1.s],Iu #[I m2.node,O J m2.x,O J m2.y,O J m2.z,O J m2.h,O J m2.s]] (Is (IG wr d) os) λe DQ=>e=Ia (O J (ord m1 m2))/\∃p:Regrown,DQ=Is (IG wr p.d) p.os:=λd os=>Calls.regrown_of (SV m1 m2 _);have F0:∀d os,(Is (IG wr d) os).cell? ⟨b,off+q*6,U⟩=AI (I m1.node):=Im ((rM _ _ hb).trans c0);have F1:∀d os,(Is (IG wr d) os).cell? ⟨b,off+q*6+1,U⟩=AI (O J m1.x):=Im ((rM _ _ hb).trans c1);have F2:∀d os,(Is (IG wr d) os).cell? ⟨b,off+q*6+2,U⟩=AI (O J m1.y):=Im ((rM _ _ hb).trans c2);have F3:∀d os,(Is (IG wr d) os).cell? ⟨b,off+q*6+3,U⟩=AI (O J m1.z):=Im ((rM _ _ hb).trans c3);have F4:∀d os,(Is (IG wr d) os).cell? ⟨b,off+q*6+4,U⟩=AI (O J m1.h):=Im ((rM _ _ hb).trans c4);have F5:∀d os,(Is (IG wr d) os).cell? ⟨b,off+q*6+5,U⟩=AI (O J m1.s):=Im ((rM _ _ hb).trans c5);have G0:∀d os,(Is (IG wr d) os).cell? ⟨b,off+(q+1)*6,U⟩=AI (I m2.node):=Im ((rM _ _ hb).trans d0);have G1:∀d os,(Is (IG wr d) os).cell? ⟨b,off+(q+1)*6+1,U⟩=AI (O J m2.x):=Im ((rM _ _ hb).trans d1);have G2:∀d os,(Is (IG wr d) os).cell? ⟨b,off+(q+1)*6+2,U⟩=AI (O J m2.y):=Im ((rM _ _ hb).trans d2);have G3:∀d os,(Is (IG wr d) os).cell? ⟨b,off+(q+1)*6+3,U⟩=AI (O J m2.z):=Im ((rM _ _ hb).trans d3);have G4:∀d os,(Is (IG wr d) os).cell? ⟨b,off+(q+1)*6+4,U⟩=AI (O J m2.h):=Im ((rM _ _ hb).trans d4);have G5:∀d os,(Is (IG wr d) os).cell? ⟨b,off+(q+1)*6+5,U⟩=AI (O J m2.s):=Im ((rM _ _ hb).trans d5);clear c0 c1 c2 c3 c4 c5 d0 d1 d2 d3 d4 d5 rM Ai;generalize ord m1 m2=r at *;have hwq:IntKind.i64.wrap (q:Int)=(q:Int):=by rw[IW];omega
   have hqn:q<n:=by omega
   have yf:(q:Int)+1<(n:Int):=by omega
   have hq0:(0:Int)<=(q:Int)+1:=by omega
   have htn:((q:Int)+1).toNat=q+1:=by omega
   by_cases hl:r<0
   .have oR:¬ (0<=r):=by omega
    go_wp2_with fail;refine IX (by kernel_rfl) (by kernel_rfl) ?_;repeat(quiet_step (exact hN _ _))
    refine oK λdq yx tB=>?_;clear hN F0 F1 F2 F3 F4 F5 G0 G1 G2 G3 G4 G5;go_wp2_with fail;go_roundw
    case rel=>exact⟨q+1,.inl (by omega),by go_num,nE.trans (tB.out.mono od),HZ.out hl⟩
    case measure=>simp[intOf];omega
   .have oR:0<=r:=by omega
    have h4:Hid _:=HK.out oR;go_wp2_with fail;refine IX (by kernel_rfl) (by kernel_rfl) ?_;repeat(quiet_step (exact hN _ _))
    refine oK λdq yx tB=>?_;clear hN F0 F1 F2 F3 F4 F5 G0 G1 G2 G3 G4 G5;go_wp2_with fail;go_ret;exact⟨mW h4.out.symm,nE.trans (tB.out.mono od)⟩
  .have h0:Hid _:=H0.out λj hj=>hz.out j (by omega)
   go_wp2_with fail;go_ret;exact⟨mW h0.out.symm,nE⟩
theorem wX(ms:List nZ)(b off cap:Nat)(w:World)(hr:Row w b off ms)(hb:b<w.heap.size)(hn:ms.length<=20)(hs:∀j,(ms.getD j dm).ok) :
 rI 118 #[sh (AI ⟨b,off,U⟩) ms.length cap] w (O J (nu ms)):=by
 have HR:Hid (Row w b off ms):=hr;have HE:Hid (∀k,k<ms.length->(∀j,j<k->(ms.getD j dm).e=0)->(ms.getD k dm).e≠0->nu ms=(ms.getD k dm).e):=λk h1 h2 h3=>Bs ms k hn h1 h2 h3;have H4:Hid ((∀j,j<ms.length->(ms.getD j dm).e=0)->nu ms=if np ms=true then 0 else 4):=λh1=>xX ms hn h1;have HSl:Hid (∀w',Below w.heap.size w w'->ni _ _ _ _):=λw' Al=>SX ms b off cap w' (hr.later Al hb) (Ix hb Al.size) hn;clear hr;generalize hN:ms.length=n at *;have HN:Hid _:=hN;clear hN;have HS:Hid _:=hs;clear hs;generalize hC:nu ms=res at *;have HC:Hid _:=hC;clear hC;generalize hRB:np ms=rb at *;have HRB:Hid _:=hRB;clear hRB;go_enter func118,ntmps118;go_wp2_with fail;go_loopw [12] (λi w'=>∃k:Nat,k<=n/\i=O J k/\Below w.heap.size w w'/\Hid (∀j,j<k->(ms.getD j dm).e=0)) (λi _=>n-(intOf i).toNat)
 case atStart=>exact⟨0,Iw _,rfl,If _ _,λj h=>absurd h (IV _)⟩
 case round=>
  obtain⟨k,hk,rfl,nE,hz⟩:=hrel;obtain⟨rM,Ai⟩:=pd nE;have od:=nE.size;by_cases mS:k<n
  .obtain⟨c0,c1,c2,c3,c4,c5⟩:=HR.out k (by rw[HN.out];exact mS)
   have HSK:Hid _:=HS.out k;have HK:Hid ((ms.getD k dm).e≠0->res=(ms.getD k dm).e):=λh=>HE.out k mS hz.out h;have HZ:Hid ((ms.getD k dm).e=0->∀j,j<k+1->(ms.getD j dm).e=0):=λh j hj=>by
    rcases IL.1 hj with h2|rfl
    .exact hz.out j h2
    .exact h
   generalize ms.getD k dm=m at *;have Ci:=HSK.out;have HD:Hid (m.e=if mT m.node=true then nV ⟨m.x,m.y,m.z,m.h,m.s⟩ else 1):=rfl;generalize m.e=me at *;have xi:Hid (Below w.heap.size w (wr.alloc (Ib #[I m.node,O J m.x,O J m.y,O J m.z,O J m.h,O J m.s] 97))):=nE.alloc od _;rcases h1:mT m.node with _|_
   .have xJ:Hid (res=1):=(HK.out (by rw[HD.out];simp[h1])).trans (by rw[HD.out];simp[h1])
    go_wp2_with (go_at_call 78;refine(nL _ _ Ci).mono ?_;rintro e w' ⟨rfl,rfl⟩;rw[h1]);go_ret;exact⟨mN xJ.out.symm,xi.out⟩
   .have HP:Hid (∀W,ni _ _ _ _):=λW=>vq ⟨m.x,m.y,m.z,m.h,m.s⟩ W
    have HME:Hid (me=nV ⟨m.x,m.y,m.z,m.h,m.s⟩):=HD.out.trans (by rw[h1];exact if_pos rfl);generalize nV ⟨m.x,m.y,m.z,m.h,m.s⟩=pe at *;rcases he:decide (pe=0) with _|_
    .have Am:(pe !=0)=true:=by simpa using he
     have xJ:Hid _:=(HK.out (by rw[HME.out];simpa using he)).trans HME.out;clear he;go_wp2_with (first|(go_at_call 78;refine(nL _ _ Ci).mono ?_;rintro e w' ⟨rfl,rfl⟩;rw[h1])|(go_at_call 64;refine(HP.out _).mono ?_;rintro e w' ⟨rfl,mZ⟩));go_ret;exact⟨mN xJ.out.symm,xi.out.trans (mZ.mono (by simp;omega))⟩
    .have Am:(pe !=0)=false:=by simpa using he
     have Rh:Hid _:=HME.out.trans (by simpa using he);clear he;go_wp2_with (first|(go_at_call 78;refine(nL _ _ Ci).mono ?_;rintro e w' ⟨rfl,rfl⟩;rw[h1])|(go_at_call 64;refine(HP.out _).mono ?_;rintro e w' ⟨rfl,mZ⟩));go_roundw
     case rel=>exact⟨k+1,by omega,by go_num,xi.out.trans (mZ.mono (by simp;omega)),HZ.out Rh.out⟩
     case measure=>simp[intOf];omega
  .have qe:Hid (∀j,j<n->(ms.getD j dm).e=0):=λj hj=>hz.out j (by omega)
   have xJ:Hid _:=H4.out qe.out;clear hz qe H4 HE HC HRB;cases rb
   .go_wp2_with (go_at_call 168;refine(HSl.out _ nE).mono ?_;rintro e w' ⟨rfl,mZ⟩)
    go_ret;exact⟨mN (by rw[xJ.out];rfl),nE.trans (mZ.mono od)⟩
   .go_wp2_with (go_at_call 168;refine(HSl.out _ nE).mono ?_;rintro e w' ⟨rfl,mZ⟩)
    go_ret;exact⟨mN (by rw[xJ.out];rfl),nE.trans (mZ.mono od)⟩
theorem vx(a:Option Addr)(n cap:Nat)(w:World)(hn:20<n) :
 ni 118 #[sh a n cap] w λe w'=>e=Ia (O J 2)/\w'=w:=by
 go_enter func118,ntmps118;go_wp2_with fail;go_ret;exact⟨rfl,rfl⟩
theorem vy(a:Option Addr)(cap:Nat)(w:World) :
 ni 118 #[sh a 0 cap] w λe w'=>e=Ia (O J 0)/\w'=w:=by
 go_enter func118,ntmps118;go_wp2_with fail;go_loop [12] (λi=>i=O J 0) (λ_=>0)
 case atStart=>rfl
 case round=>
  subst hrel;go_wp2_with (go_at_call 168;refine(vv _ _ _ _).mono ?_;rintro e w' ⟨rfl,rfl⟩);go_ret;exact⟨rfl,rfl⟩
theorem nU(ms:List nZ)(v:Value)(w:World)(h:Sl w v ms) :
 rI 118 #[v] w (O J (nu ms)):=by
 obtain⟨a,cap,rfl,hs,h⟩:=h;by_cases hn:20<ms.length
 .refine(vx a ms.length cap w hn).mono ?_
  rintro e w' ⟨rfl,rfl⟩;exact⟨mN (by rw[nu,if_pos hn]),If _ _⟩
 .rcases h with rfl|⟨b,off,rfl,hb,hr⟩
  .refine(vy a cap w).mono ?_
   rintro e w' ⟨rfl,rfl⟩;exact⟨rfl,If _ _⟩
  .exact wX ms b off cap w hr hb (by omega) hs
theorem tF(ms:List nZ)(b off cap:Nat)(w:World)(hr:Row w b off ms)(hb:b<w.heap.size)(hn:ms.length<=20)(hs:∀j,(ms.getD j dm).ok) :
 ni 17 #[sh (AI ⟨b,off,U⟩) ms.length cap] w λe w'=>e=Ia (O J (nu ms))/\Below w.heap.size w w':=by
 have HR:Hid (Row w b off ms):=hr;clear hr;have HE:Hid (∀k,k<ms.length->(∀j,j<k->(ms.getD j dm).e=0)->(ms.getD k dm).e≠0->nu ms=(ms.getD k dm).e):=λk h1 h2 h3=>Bs ms k hn h1 h2 h3;have H4:Hid ((∀j,j<ms.length->(ms.getD j dm).e=0)->∀k,k+1<ms.length->less (ms.getD k dm).node (ms.getD (k+1) dm).node=false->nu ms=4):=λh1 k h2 h3=>EM ms k hn h1 h2 (λh=>by rw[show ord (ms.getD k dm) (ms.getD (k+1) dm)=oh (ms.getD k dm).node (ms.getD (k+1) dm).node from rfl,pB,h3] at h;cases h);have H0:Hid ((∀j,j<ms.length->(ms.getD j dm).e=0)->(∀j,j+1<ms.length->less (ms.getD j dm).node (ms.getD (j+1) dm).node=true)->nu ms=0):=λh1 h2=>EN ms hn h1 (λj hj=>(pB _ _).2 (h2 j hj));generalize hN:ms.length=n at *;have HN:Hid (ms.length=n):=hN;clear hN;have HS:Hid (∀j,(ms.getD j dm).ok):=hs;clear hs;generalize hC:nu ms=res at *;have HC:Hid (nu ms=res):=hC;clear hC;go_enter func17,ntmps17;go_wp2_with fail;go_loopw [3] (λi w'=>∃k:Nat,k<=n/\i=O J k/\Below w.heap.size w w'/\Hid (∀j,j<k->(ms.getD j dm).e=0)) (λi _=>n-(intOf i).toNat)
 case atStart=>exact⟨0,Iw _,rfl,If _ _,λj h=>absurd h (IV _)⟩
 case round=>
  obtain⟨k,hk,rfl,nE,hz⟩:=hrel;obtain⟨rM,Ai⟩:=pd nE;have od:=nE.size;by_cases mS:k<n
  .obtain⟨c0,c1,c2,c3,c4,c5⟩:=HR.out k (by rw[HN.out];exact mS)
   have Ci:(ms.getD k dm).node.size<=Il:=HS.out k;have HK:Hid ((ms.getD k dm).e≠0->res=(ms.getD k dm).e):=λh=>HE.out k mS hz.out h;have HZ:Hid ((ms.getD k dm).e=0->∀j,j<k+1->(ms.getD j dm).e=0):=λh j hj=>by
    rcases IL.1 hj with h2|rfl
    .exact hz.out j h2
    .exact h
   generalize ms.getD k dm=m at *;have HD:Hid (m.e=if mT m.node=true then nV ⟨m.x,m.y,m.z,m.h,m.s⟩ else 1):=rfl;generalize m.e=me at *;rcases h1:mT m.node with _|_
   .have xJ:Hid (res=1):=(HK.out (by rw[HD.out];simp[h1])).trans (by rw[HD.out];simp[h1])
    go_wp2_with (go_at_call 11;refine(mV _ _ Ci).mono ?_;rintro e w' ⟨rfl,rfl⟩;rw[h1]);go_ret;exact⟨mN xJ.out.symm,nE⟩
   .have HP:Hid (∀W,rI 16 #[Iu #[O J m.x,O J m.y,O J m.z,O J m.h,O J m.s]] W (O J (nV ⟨m.x,m.y,m.z,m.h,m.s⟩))):=λW=>(vA ⟨m.x,m.y,m.z,m.h,m.s⟩ W).mono (by rintro e w' ⟨rfl,rfl⟩;exact⟨rfl,(If _ _).alloc (By _) _⟩)
    have HME:Hid (me=nV ⟨m.x,m.y,m.z,m.h,m.s⟩):=HD.out.trans (by rw[h1];exact if_pos rfl);generalize nV ⟨m.x,m.y,m.z,m.h,m.s⟩=pe at *;rcases he:decide (pe=0) with _|_
    .have Am:(pe !=0)=true:=by simpa using he
     have xJ:Hid (res=pe):=(HK.out (by rw[HME.out];simpa using he)).trans HME.out;clear he;go_wp2_with (first|(go_at_call 11;refine(mV _ _ Ci).mono ?_;rintro e w' ⟨rfl,rfl⟩;rw[h1])|(go_at_call 16;refine(HP.out _).mono ?_;rintro e w' ⟨rfl,mZ⟩));go_ret;exact⟨mN xJ.out.symm,nE.trans (mZ.mono od)⟩
    .have Am:(pe !=0)=false:=by simpa using he
     have Rh:Hid (me=0):=HME.out.trans (by simpa using he);clear he;go_wp2_with (first|(go_at_call 11;refine(mV _ _ Ci).mono ?_;rintro e w' ⟨rfl,rfl⟩;rw[h1])|(go_at_call 16;refine(HP.out _).mono ?_;rintro e w' ⟨rfl,mZ⟩));go_roundw
     case rel=>exact⟨k+1,by omega,by go_num,nE.trans (mZ.mono od),HZ.out Rh.out⟩
     case measure=>simp[intOf];omega
  .have qe:Hid (∀j,j<n->(ms.getD j dm).e=0):=λj hj=>hz.out j (by omega)
   clear hz;go_wp2_with fail;go_loopw [5] (λi w'=>∃k:Nat,(k+1<=n\/k=0)/\i=O J (k+1)/\Below w.heap.size w w'/\Hid (∀j,j<k->less (ms.getD j dm).node (ms.getD (j+1) dm).node=true)) (λi _=>n-(intOf i).toNat)
   case atStart=>exact⟨0,.inr rfl,rfl,nE,λj h=>absurd h (IV _)⟩
   case round=>
    clear rM Ai od nE;obtain⟨q,hq,rfl,nE,hz⟩:=hrel;obtain⟨rM,Ai⟩:=pd nE;have od:=nE.size;by_cases mS:q+1<n
    .obtain⟨c0,_,_,_,_,_⟩:=HR.out q (by rw[HN.out];omega)
     obtain⟨d0,_,_,_,_,_⟩:=HR.out (q+1) (by rw[HN.out];exact mS);have HK:Hid (less (ms.getD q dm).node (ms.getD (q+1) dm).node=false->res=4):=λh=>H4.out qe.out q mS h;have HZ:Hid (less (ms.getD q dm).node (ms.getD (q+1) dm).node=true->∀j,j<q+1->less (ms.getD j dm).node (ms.getD (j+1) dm).node=true):=λh j hj=>by
      rcases IL.1 hj with h2|rfl
      .exact hz.out j h2
      .exact h
     generalize ms.getD q dm=m1 at *;generalize ms.getD (q+1) dm=m2 at *;rcases hl:Op.bytesLess m1.node.toList m2.node.toList with _|_
     .have h4:Hid (res=4):=HK.out hl
      have oR:=uu m1.node.toList m2.node.toList;rw[hl] at oR;have sy:=oR.symm;clear oR hl;go_wp2_with fail;go_quiet (fail)
      go_wp2_with fail;go_ret;exact⟨mN h4.out.symm,below_drewN nE _⟩
     .have oR:=uu m1.node.toList m2.node.toList
      rw[hl] at oR;have sy:=oR.symm;clear oR;have HL:Hid _:=hl;clear hl;go_wp2_with fail;go_quiet (fail)
      go_wp2_with fail;go_roundw
      case rel=>exact⟨q+1,.inl (by omega),by go_num,below_drewN nE _,HZ.out HL.out⟩
      case measure=>simp[intOf];omega
    .have h0:Hid (res=0):=H0.out qe.out λj hj=>hz.out j (by omega)
     go_wp2_with fail;go_ret;exact⟨mN h0.out.symm,nE⟩
theorem sB(a:Option Addr)(n cap:Nat)(w:World)(hn:20<n) :
 ni 17 #[sh a n cap] w λe w'=>e=Ia (O J 2)/\w'=w:=by
 go_enter func17,ntmps17;go_wp2_with fail;go_ret;exact⟨rfl,rfl⟩
theorem sC(a:Option Addr)(cap:Nat)(w:World) :
 ni 17 #[sh a 0 cap] w λe w'=>e=Ia (O J 0)/\w'=w:=by
 go_enter func17,ntmps17;go_wp2_with fail;go_loop [3] (λi=>i=O J 0) (λ_=>0)
 case atStart=>rfl
 case round=>
  subst hrel;go_wp2_with fail;go_loop [5] (λi=>i=O J 1) (λ_=>0)
  case atStart=>rfl
  case round=>
   subst hrel;go_wp2_with fail;go_ret;exact⟨rfl,rfl⟩
theorem rY(ms:List nZ)(v:Value)(w:World)(h:Sl w v ms) :
 ni 17 #[v] w λe w'=>e=Ia (O J (nu ms))/\Below w.heap.size w w':=by
 obtain⟨a,cap,rfl,hs,h⟩:=h;by_cases hn:20<ms.length
 .refine(sB a ms.length cap w hn).mono ?_
  rintro e w' ⟨rfl,rfl⟩;exact⟨mN (by rw[nu,if_pos hn]),If _ _⟩
 .rcases h with rfl|⟨b,off,rfl,hb,hr⟩
  .refine(sC a cap w).mono ?_
   rintro e w' ⟨rfl,rfl⟩;exact⟨rfl,If _ _⟩
  .exact tF ms b off cap w hr hb (by omega) hs
end Wh
end Go.Proofs.YtipbebleapjcjaaGreatDoor
namespace Go.Proofs.YtipbebleapjcjaaGreatDoor
open Go.RowKit Go.WideMaps Go.Maps
def xO(ms:List Mem):List ByteArray:=ms.map (·.name)
theorem tZ(ms:List Mem)(k:Nat):(xO ms).getD k Ie=(ms.getD k dm).name:=by
 by_cases h:k<ms.length
 .simp[xO,Ip,Ih h]
 .simp[xO,Ip,IK (by omega:ms.length<=k),dm]
structure Cnt(D:DataW Unit)(ns:List ByteArray)(k:Nat):Prop where
 tidy:Tidy D
 has:∀s,OG D (kS s)=OG (Dm ns k) (kS s)
 size:Ol D=Ol (Dm ns k)
 val:∀s,∃c:Int,D.atKey (kS s) (.lit (.int J 0))=.lit (.int J c)/\0<=c/\c<=k
theorem adl(ns:List ByteArray):Cnt (.map []) ns 0:=⟨tidy_empty,λ_=>rfl,rfl,λ_=>⟨0,rfl,Int.le_refl _,Int.le_refl _⟩⟩
theorem adm{D:DataW Unit}{ns:List ByteArray}{k:Nat}(h:Cnt D ns k){c:Int}(hc:D.atKey (kS (ns.getD k Ie)) (.lit (.int J 0))=.lit (.int J c)) :
 0<=c/\c<=k/\Cnt (D.put (kS (ns.getD k Ie)) (.lit (.int J (c+1)))) ns (k+1):=by
 obtain⟨c',hc',h0,h1⟩:=h.val (ns.getD k Ie);rw[hc] at hc';have e:c=c':=by injection hc' with h;injection h
 subst e;refine⟨h0,h1,h.tidy.put (vt _) _,λs=>?_,?_,λs=>?_⟩
 .by_cases e:ns.getD k Ie=s
  .subst e;rw[has_put_same h.tidy.isMap (vt _),Dm,has_put_same (Bt ns k).isMap (vt _)]
  .rw[has_put_other (Dg (Ne.symm e)),Dm,has_put_other (Dg (Ne.symm e))];exact h.has s
 .rw[size_put h.tidy,El,h.has,h.size]
 .by_cases e:ns.getD k Ie=s
  .subst e;exact⟨c+1,by rw[atKey_put_same h.tidy.isMap (vt _)],by omega,by omega⟩
  .rw[atKey_put_other (Dg (Ne.symm e))]
   obtain⟨d,hd,d0,d1⟩:=h.val s;exact⟨d,hd,d0,by omega⟩
theorem ak2{D:DataW Unit}{ms:List Mem}(h:Cnt D (xO ms) ms.length)(hd:¬ Az ms):Ol D<ms.length:=by
 rw[h.size];apply AO;apply Classical.byContradiction;intro hx;apply hd;intro i j yp hj e;exact hx ⟨i,j,yp,hj,by rw[tZ,tZ];exact e⟩
theorem ak3{D:DataW Unit}{ms:List Mem}(h:Cnt D (xO ms) ms.length)(hd:Az ms):Ol D=ms.length:=by
 rw[h.size];exact AM _ _ (λi j yp hj=>by rw[tZ,tZ];exact hd i j yp hj)
theorem SY{w w':World}{b n:Nat}{D:DataW Unit}(h:w.ownsMap AT 9 (JK (H:=Unit) AT 3) b n D)(hb:Below w.heap.size w w'):w'.ownsMap AT 9 (JK (H:=Unit) AT 3) b n D:=by
 have hl:=h.lt;obtain⟨es,clock,h1,h2⟩:=h;exact⟨es,clock,(hb.block b hl).trans h1,h2⟩
theorem row_one{w:World}{b off:Nat}{ms:List Mem}(hr:Row w b off ms){k:Nat}(hk:k<ms.length):Row w b (off+k*5) [ms.getD k dm]:=λj hj=>by
 have:j=0:=by simpa using hj
 subst this;simpa using hr k hk
def Roomy(v:Value):Prop:=match v with
 | sh _ n c=>n<=c
 |_=>True
theorem GP(ms:List Mem)(v:Value)(w:World)(hv:Sl w v ms)(uv:Roomy v) :
 Calls AT 117 #[v] w λe w'=>e=Ia (O J (yk ms))/\Below w.heap.size w w':=by
 obtain⟨pa,ca,rfl,od,ha⟩:=hv;have Le:ms.length<=ca:=uv;clear uv;by_cases hmany:5<ms.length
 .have HE:Hid (yk ms=2):=XU hmany
  go_enter func117,ntmps117;go_wp2_with fail;go_ret;exact⟨mN HE.out.symm,If _ _⟩
 have HA:Hid _:=ha;have HS:Hid (∀j,(ms.getD j dm).name.size<=Il):=od;clear ha od;generalize hN:ms.length=n at *;have HN:Hid (ms.length=n):=hN;clear hN;have hn5:n<=5:=by omega
 have yr:=ye;go_enter func117,ntmps117;go_wp2;go_loopw [15] (λi wr=>∃k:Nat,k<=n/\i=O J k/\Hid (∀j,j<k->(ms.getD j dm).e=0)/\Hid (∃D,wr.ownsMap AT 9 (JK (H:=Unit) AT 3) w.heap.size k D/\Cnt D (xO ms) k)/\Hid (Below w.heap.size w wr)) (λi _=>n-(intOf i).toNat)
 case atStart=>exact⟨0,Iw _,rfl,λj hj=>by omega,⟨_,Uz _ _ _ _,adl _⟩,(If _ _).alloc (By _) _⟩
 case round=>
  obtain⟨k,hk,rfl,HZ,HD,HB⟩:=hrel;obtain⟨D,HO,HC⟩:=HD.out;have HO:Hid (wr.ownsMap AT 9 (JK (H:=Unit) AT 3) w.heap.size k D):=HO;have HC:Hid (Cnt D (xO ms) k):=HC;clear HD;by_cases mS:k<n
  .obtain⟨b,off,hp,hl,hr⟩:∃b off,pa=AI ⟨b,off,U⟩/\b<w.heap.size/\Row w b off ms:=by
    rcases HA.out with h|h
    .have:=HN.out;rw[h] at this;simp at this;omega
    .exact h
   subst hp;have Bk:=hr.later HB.out hl;obtain⟨c0,c1,c2,c3,c4⟩:=Bk k (by rw[HN.out];exact mS);have sg:=HS.out k;have HX:Hid ((ms.getD k dm).e≠0->yk ms=(ms.getD k dm).e):=λh=>ak1 (by rw[HN.out];exact hn5) (by rw[HN.out];exact mS) HZ.out h;have o6:Hid ((ms.getD k dm).e=0->∀j,j<k+1->(ms.getD j dm).e=0):=λh j hj=>by
    by_cases e:j=k
    .subst e;exact h
    .exact HZ.out j (by omega)
   have sr:Hid (Row wr b (off+k*5) [ms.getD k dm]):=row_one Bk (by rw[HN.out];exact mS);have HG:Hid (∀(c:Int),D.atKey (kS (ms.getD k dm).name) (.lit (.int J 0))=.lit (.int J c)->0<=c/\c<=k/\Cnt (D.put (kS (ms.getD k dm).name) (.lit (.int J (c+1)))) (xO ms) (k+1)):=λc hc=>by
    have h:=adm HC.out (c:=c) (by rw[tZ];exact hc);rw[tZ] at h;exact h
   have od:=HB.out.size;generalize(ms.getD k dm)=mk at *;have yt:Hid (∀W,Below wr.heap.size wr W->∀cc,Calls AT 60 #[sh (AI ⟨b,off+k*5,U⟩) 1 cc] W λe w'=>e=Ia (O J mk.e)/\Below W.heap.size W w'):=λW hW cc=>by
    have h:=nU [mk] (sh (AI ⟨b,off+k*5,U⟩) 1 cc) W ⟨_,cc,rfl,oz (λx hx=>by simp at hx;subst hx;exact sg),.inr ⟨b,_,rfl,by have:=hW.size;omega,sr.out.later hW (by omega)⟩⟩;rw[vC] at h;exact h
   obtain⟨nm,st,lf,ad,sv⟩:=mk;simp only at c0 c1 c2 c3 c4 sg HX o6 HG yt;have Sm:keyOf AT 9 (I nm)=AI (kS nm):=keyOf_string_mk IF sg;clear hr Bk HZ sr;have tp:(k:Int)<n:=by omega
   have hkc:(k:Int)+1<=(ca:Int):=by omega
   go_wp2_with fail;refine(yt.out _ ((If _ _).alloc (By _) _) _).mono ?_;rintro e w1 ⟨rfl,mO⟩;have uH:Hid (w1.ownsMap _ _ _ _ _ _):=SY (HO.out.alloc _) mO;have mY:Hid _:=(HB.out.alloc HB.out.size _).trans (mO.mono (by simp;omega));have hm0:w1.cell? ⟨wr.heap.size,0,U⟩=AI (I nm):=(mO.cell (p:=⟨wr.heap.size,0,U⟩) (by simp)).trans (by simp);clear mO c0 c1 c2 c3 c4 HB HO yt;by_cases he:(Mem.mk nm st lf ad sv).e=0
   .have Am:((Mem.mk nm st lf ad sv).e !=0)=false:=by simpa using he
    have tu:Hid _:=o6.out he;clear HX o6 he;generalize(Mem.mk nm st lf ad sv).e=me at *;obtain⟨c,tP,qi,_⟩:=uH.out.lookup_int ag8 JQ IH (adj _) Sm;obtain⟨g0,g1,g2⟩:=HG.out c qi;have Cl:Hid _:=g2;clear g2 qi HG;go_wp2_with (first
     |(at_mapUpdate;refine wpList_mapUpdate_own _ rfl _ _ _ 164 rfl 9 3 ag8 JQ _ w.heap.size k _ rfl uH.out (by unfold Il;omega) _ _ _ rfl rfl Sm _ [] (plainElem_int IH (WalkArith.wf_i64 (by omega))) ?_)
     |fail)
    intro w2 ai7 adn;have R1:Hid (∃D,w2.ownsMap AT 9 (JK (H:=Unit) AT 3) w.heap.size (k+1) D/\Cnt D (xO ms) (k+1)):=⟨_,ai7,Cl.out⟩;have R2:Hid _:=mY.out.grown adn mY.out.size (λj hj=>by cases hj;exact By _);clear ai7 adn uH mY;go_wp2_with fail;go_roundw
    case rel=>exact⟨k+1,by omega,by go_num,tu,R1,R2⟩
    case measure=>simp[intOf];omega
   .have Am:((Mem.mk nm st lf ad sv).e !=0)=true:=by simpa using he
    have HR:Hid _:=HX.out he;generalize(Mem.mk nm st lf ad sv).e=me at *;clear he HX o6;go_wp2_with fail;go_ret;exact⟨mN HR.out.symm,mY.out⟩
  .have tp:k=n:=by omega
   subst tp;have Av:Hid (Ol D<k↔¬ Az ms):=by
    have h1:=HC.out;rw[<- HN.out] at h1 ⊢;exact⟨λh hd=>by rw[ak3 h1 hd] at h;omega,λhd=>ak2 h1 hd⟩
   have HE1:Hid (¬ Az ms->yk ms=6):=λhd=>SU (by rw[HN.out];exact hn5) (λj hj=>HZ.out j (by rw[<- HN.out];exact hj)) hd;have wm:Hid (Az ms->yk ms=0):=λhd=>aha (by rw[HN.out];exact hn5) (λj hj=>HZ.out j (by rw[<- HN.out];exact hj)) hd;by_cases hd:Az ms
   .have HE:Hid _:=wm.out hd
    have hs:¬ ((Ol D:Int)<(k:Int)):=by have:=Av.out;intro h;exact(this.1 (by omega)) hd
    clear HE1 wm hd Av HZ;go_wp2_with (at_len;refine wpList_len_own _ rfl _ 164 rfl 9 3 JQ _ _ _ _ rfl HO.out ?_);go_ret;exact⟨mN HE.out.symm,HB.out⟩
   .have HE:Hid _:=HE1.out hd
    have hs:((Ol D:Int)<(k:Int)):=by have:=Av.out.2 hd;omega
    clear HE1 wm hd Av HZ;go_wp2_with (at_len;refine wpList_len_own _ rfl _ 164 rfl 9 3 JQ _ _ _ _ rfl HO.out ?_);go_ret;exact⟨mN HE.out.symm,HB.out⟩
structure GQ(w:World)(p:Pk)(vm vs vg vw:Value):Prop where
 ms:Sl w vm p.ms
 sv:Sv.Sl w vs p.sv
 gw:Gw.Sl w vg p.gw
 wh:Wh.Sl w vw p.wh
 tG:p.tG.size<=Il
 room:Roomy vm
theorem GQ.below{w w':World}{p:Pk}{vm vs vg vw:Value}(h:GQ w p vm vs vg vw)(hb:Below w.heap.size w w'):GQ w' p vm vs vg vw:=⟨h.ms.below hb,h.sv.below hb,h.gw.below hb,h.wh.below hb,h.tG,h.room⟩
theorem yH{α:Type}(l:List α):l.isEmpty=decide (l.length=0):=by cases l<;>simp
theorem V6{P:Prop}(h:P:=by
 subst hm;go_wp2_with fail;refine(HS.out _ CP.out).mono ?_;rintro e w2 ⟨rfl,mZ⟩;have nR:Hid _:=Dw.out _ _ mY.out mZ;clear x2 x3 x4 x5 mZ;obtain⟨⟨x2,x3,x4,x5⟩,aoO⟩:=HX.out w2 nR.out;have ahc:Hid _:=aoO;clear aoO;by_cases An:se=0
 .subst An
  go_wp2_with fail;refine(HG.out _ ahc.out).mono ?_;rintro e w3 ⟨rfl,nC⟩;have oT:Hid _:=Dw.out _ _ nR.out nC;clear x2 x3 x4 x5 nC;obtain⟨⟨x2,x3,x4,x5⟩,aoP⟩:=HX.out w3 oT.out;have ahd:Hid _:=aoP;clear aoP;by_cases Ep:ge=0
  .subst Ep
   go_wp2_with fail;refine(HW.out _ ahd.out).mono ?_;rintro e w4 ⟨rfl,qA⟩;have auz:Hid _:=ahd.out.trans (qA.mono ahd.out.size);clear qA;go_wp2_with fail;go_ret;exact⟨mN wm.out.symm,auz.out⟩
  .have auA:(ge !=0)=true:=by simpa using Ep
   have HR:Hid (res=ge):=wm.out.trans (by simp[Ep]);clear Ep;go_wp2_with fail;go_ret;exact⟨mN HR.out.symm,ahd.out⟩
 .have auB:(se !=0)=true:=by simpa using An
  have HR:Hid (res=se):=wm.out.trans (by simp[An]);clear An;go_wp2_with fail;go_ret;exact⟨mN HR.out.symm,ahc.out⟩):P:=h
theorem Fu(p:Pk)(vm vs vg vw:Value)(w:World)(h:GQ w p vm vs vg vw)(hlen:p.whole=true\/p.sv.length+p.gw.length+p.wh.length<=4611686018427387904) :
 Calls AT 65 #[Iu #[I p.tG,Ic p.whole,vm,vs,vg,vw]] w λe w'=>e=Ia (O J p.e)/\Below w.heap.size w w':=by
 obtain⟨tG,whole,ms,sv,gw,wh⟩:=p;obtain⟨vP,V7,Bo,Rn,hfr,uv⟩:=h;simp only at vP V7 Bo Rn hfr hlen ⊢;have HM1:Hid (∀W,Below w.heap.size w W->Calls _ _ _ _ _):=λW hW=>nU ms vm W (vP.below hW);have HM2:Hid (∀W,Below w.heap.size w W->Calls _ _ _ _ _):=λW hW=>GP ms vm W (vP.below hW) uv;have HS:Hid (∀W,Below w.heap.size w W->Calls _ _ _ _ _):=λW hW=>Sv.nU sv vs W (V7.below hW);have HG:Hid (∀W,Below w.heap.size w W->Calls _ _ _ _ _):=λW hW=>Gw.nU gw vg W (Bo.below hW);have HW:Hid (∀W,Below w.heap.size w W->Calls _ _ _ _ _):=λW hW=>Wh.nU wh vw W (Rn.below hW);have HE:Hid (Pk.e ⟨tG,whole,ms,sv,gw,wh⟩=if(mT tG&&(whole||(decide (sv.length=0)&&(decide (gw.length=0)&&decide (wh.length=0)))))=true then
  (if(if whole=true then nu ms else yk ms)=0 then(if Sv.nu sv=0 then(if Gw.nu gw=0 then Wh.nu wh else Gw.nu gw) else Sv.nu sv) else(if whole=true then nu ms else yk ms)) else 1):=by
  show Pk.e _=_;rw[<- yH,<- yH,<- yH];rfl
 generalize Pk.e ⟨tG,whole,ms,sv,gw,wh⟩=res at *;obtain⟨a2,c2,rfl,_,_⟩:=V7;obtain⟨a3,c3,rfl,_,_⟩:=Bo;obtain⟨a4,c4,rfl,_,_⟩:=Rn;clear vP uv;generalize Sv.nu sv=se at *;generalize Gw.nu gw=ge at *;generalize Wh.nu wh=we at *;generalize nu ms=m1 at *;generalize yk ms=m2 at *;generalize sv.length=n2 at *;generalize gw.length=n3 at *;generalize wh.length=n4 at *;obtain⟨W0,rm,rG,-,pS⟩:=pL w #[I tG,Ic whole,vm,sh a2 n2 c2,sh a3 n3 c3,sh a4 n4 c4] 76;have Ct:w.heap.size<W0.heap.size:=by rw[rm];simp
 have pN:Hid _:=rG;have HX:Hid (∀W,Below W0.heap.size W0 W->(W.cell? ⟨w.heap.size,2,U⟩=AI vm/\W.cell? ⟨w.heap.size,3,U⟩=AI (sh a2 n2 c2)/\W.cell? ⟨w.heap.size,4,U⟩=AI (sh a3 n3 c3)/\W.cell? ⟨w.heap.size,5,U⟩=AI (sh a4 n4 c4))/\Below w.heap.size w W):=λW hW=>
  have hg:=(hW.block _ Ct).trans pS
  ⟨⟨fi hg 2,fi hg 3,fi hg 4,fi hg 5⟩,rG.trans (hW.mono (by omega))⟩
 have Dw:Hid (∀W W',Below W0.heap.size W0 W->Below W.heap.size W W'->Below W0.heap.size W0 W'):=λW W' h1 h2=>h1.trans (h2.mono h1.size);go_enter func65,ntmps65;rcases hlab:mT tG with _|_
 .have HR:Hid (res=1):=HE.out.trans (by rw[hlab];rfl)
  go_wp2_with (go_at_call 78;refine(nL _ _ hfr).mono ?_;rintro e w' ⟨rfl,rfl⟩;rw[hlab]);go_ret;exact⟨mN HR.out.symm,(If _ _).alloc (By _) _⟩
 .cases whole
  .by_cases hal:n2=0/\n3=0/\n4=0
   .obtain⟨rfl,rfl,rfl⟩:=hal
    have wm:Hid (res=if m2=0 then(if se=0 then(if ge=0 then we else ge) else se) else m2):=HE.out.trans (by rw[hlab];rfl);clear HE HM1;go_wp2_with (first|(go_at_call 78;refine(nL _ _ hfr).mono ?_;rintro e w' ⟨rfl,rfl⟩;rw[hlab])|fail);rw[<- rm];refine(HM2.out _ pN.out).mono ?_;rintro e w1 ⟨rfl,mO⟩;obtain⟨⟨x2,x3,x4,x5⟩,adp⟩:=HX.out w1 mO;have mY:Hid _:=mO;have CP:Hid _:=adp;clear mO adp;by_cases hm:m2=0
    .exact V6
    .have hm':(m2 !=0)=true:=by simpa using hm
     have HR:Hid _:=wm.out.trans (if_neg hm);clear hm;go_wp2_with fail;go_ret;exact⟨mN HR.out.symm,CP.out⟩
   .have HR:Hid (res=1):=HE.out.trans (by
     rw[hlab,if_neg];simp only[OR,Bool.false_or,IP,decide_eq_true_eq];exact hal)
    have hlen:n2+n3+n4<=4611686018427387904:=by
     rcases hlen with h|h
     .cases h
     .exact h
    have aCu:(0:Int)<(n2:Int)+(n3:Int)+(n4:Int):=by omega
    go_wp2_with (go_at_call 78;refine(nL _ _ hfr).mono ?_;rintro e w' ⟨rfl,rfl⟩;rw[hlab]);go_ret;exact⟨mN HR.out.symm,(If _ _).alloc (By _) _⟩
  .have wm:Hid (res=if m1=0 then(if se=0 then(if ge=0 then we else ge) else se) else m1):=HE.out.trans (by rw[hlab];rfl)
   clear HE HM2;go_wp2_with (first|(go_at_call 78;refine(nL _ _ hfr).mono ?_;rintro e w' ⟨rfl,rfl⟩;rw[hlab])|fail);rw[<- rm];refine(HM1.out _ pN.out).mono ?_;rintro e w1 ⟨rfl,mO⟩;obtain⟨⟨x2,x3,x4,x5⟩,adp⟩:=HX.out w1 mO;have mY:Hid _:=mO;have CP:Hid _:=adp;clear mO adp;by_cases hm:m1=0
   .exact V6
   .have hm':(m1 !=0)=true:=by simpa using hm
    have HR:Hid _:=wm.out.trans (if_neg hm);clear hm;go_wp2_with fail;go_ret;exact⟨mN HR.out.symm,CP.out⟩
end Go.Proofs.YtipbebleapjcjaaGreatDoor
namespace Go.Proofs.YtipbebleapjcjaaGreatDoor
open Go.RowKit
def nQ.cs(r:nQ):List Value:=[I r.m.name,O J r.m.state,O J r.m.nJ,O J r.m.addr,Ic r.m.server,O J r.told]
def ru(rs:List nQ):List Value:=rs.flatMap nQ.cs
theorem uW(r:nQ):r.cs.length=6:=rfl
theorem xj(m:nQ)(r:List nQ):ru (m::r)=m.cs++ru r:=by simp[ru]
theorem Fv(a b:List nQ):ru (a++b)=ru a++ru b:=by simp[ru]
theorem pZ:∀ms:List nQ,(ru ms).length=ms.length*6
 |[]=>rfl
 |m::r=>by rw[xj,Iq,pZ r,uW,Je];omega
theorem Fw:∀(ms:List nQ) (i:Nat),(ru ms).take (i*6)=ru (ms.take i)
 |[],i=>by simp[ru]
 |m::r,0=>by simp[ru]
 |m::r,i+1=>by
  rw[xj,List.take_succ_cons,xj,show(i+1)*6=m.cs.length+i*6 by rw[uW];omega,List.take_length_add_append,Fw r i]
theorem Nr:∀(ms:List nQ) (i:Nat),(ru ms).drop (i*6)=ru (ms.drop i)
 |[],i=>by simp[ru]
 |m::r,0=>by simp
 |m::r,i+1=>by
  rw[xj,List.drop_succ_cons,show(i+1)*6=m.cs.length+i*6 by rw[uW];omega,List.drop_length_add_append,Nr r i]
theorem Lt(m:nQ):∀v∈m.cs,v.oneCell'=true:=by
 intro v hv;simp[nQ.cs] at hv;rcases hv with rfl|rfl|rfl|rfl|rfl|rfl<;>rfl
theorem V8(ms:List nQ):∀v∈ru ms,v.oneCell'=true:=by
 intro v hv;obtain⟨m,_,h⟩:=O0.1 hv;exact Lt m v h
theorem xP(ms:List nQ)(j:Nat)(hj:j<ms.length)(t:Nat)(ht:t<6):(ru ms)[j*6+t]?=(ms.getD j dr).cs[t]?:=by
 induction ms generalizing j with
 |nil=>simp at hj
 |cons m r ih=>
  rw[xj];cases j with
  |zero=>rw[Js (by rw[uW];omega)];simp
  |succ j=>
   rw[List.getElem?_append_right (by rw[uW];omega),uW,show(j+1)*6+t-6=j*6+t by omega,ih j (by simpa using hj)];simp
abbrev oE(base:Nat)(w:World)(v:Value)(ms:List nQ):Prop:=w.ownsRow base 57 6 v ms.length (ru ms)
theorem Ns(base:Nat)(w:World):oE base w (sh U 0 0) []:=Jz w base 57 6
theorem Kk{base:Nat}{w:World}{v:Value}{L:List nQ}{m:nQ}(h:w.ownsRow base 57 6 v (L.length+1) (ru L++m.cs)):oE base w v (L++[m]):=by
 have e:ru (L++[m])=ru L++m.cs:=by rw[Fv,xj];simp[ru]
 show w.ownsRow base 57 6 v (L++[m]).length (ru (L++[m]));rw[e,Iq];exact h
theorem Lu{rs:List nQ}(h:∀r∈rs,r.m.name.size<=Il):∀j,(rs.getD j dr).m.name.size<=Il:=λj=>by
 by_cases hj:j<rs.length
 .rw[show rs.getD j dr=rs[j] by simp[Ip,Ih hj]]
  exact h _ (IU hj)
 .rw[show rs.getD j dr=dr by simp[Ip,IK (by omega:rs.length<=j)]]
  exact Iw _
theorem ahe{rs:List nQ}(h:∀j,(rs.getD j dr).m.name.size<=Il):∀m∈rs,m.m.name.size<=Il:=by
 intro m hm;obtain⟨j,hj,rfl⟩:=I2 hm;have:=h j
 rwa [show rs.getD j dr=rs[j] by simp[Ip,Ih hj]] at this
theorem oE.sl{base:Nat}{w:World}{v:Value}{ms:List nQ}(h:oE base w v ms)(hs:∀j,(ms.getD j dr).m.name.size<=Il):yd w v ms:=by
 rcases h.2 with⟨rfl,h0⟩|⟨g,c,cur,rfl,qa,hg,rF,qw,oH,nA⟩
 .exact⟨U,0,by rw[h0],hs,.inl (List.eq_nil_of_length_eq_zero h0)⟩
 .refine⟨_,c,rfl,hs,.inr ⟨g,0,rfl,(Ig.1 hg).1,λj hj=>?_⟩⟩
  have hc:∀t,t<6->w.cell? ⟨g,0+j*6+t,U⟩=(ms.getD j dr).cs[t]?:=λt ht=>by
   rw[fi hg,<- xP ms j hj t ht,<- nA,IQ (by omega)];simp
  exact⟨hc 0 (by omega),hc 1 (by omega),hc 2 (by omega),hc 3 (by omega),hc 4 (by omega),hc 5 (by omega)⟩
theorem oE.below{base:Nat}{w w':World}{v:Value}{ms:List nQ}(h:oE base w v ms)(hb:Below w.heap.size w w'):oE base w' v ms:=by
 obtain⟨h1,h2⟩:=h;refine⟨h1,?_⟩;rcases h2 with h2|⟨g,c,cur,hv,qa,hg,hr⟩
 .exact .inl h2
 .exact .inr ⟨g,c,cur,hv,qa,by rw[hb.block g (Ig.1 hg).1];exact hg,hr⟩
theorem oE.base{b b':Nat}{w:World}{v:Value}{ms:List nQ}(h:oE b w v ms)(hb:b'<=b):oE b' w v ms:=by
 obtain⟨h1,h2⟩:=h;refine⟨h1,?_⟩;rcases h2 with h2|⟨g,c,cur,hv,qa,hr⟩
 .exact .inl h2
 .exact .inr ⟨g,c,cur,hv,IB hb qa,hr⟩
theorem oE.lt{base:Nat}{w:World}{v:Value}{ms:List nQ}(h:oE base w v ms)(k:Nat)(hk:v.ownBlock=AI k):base<=k/\k<w.heap.size:=I3 h k hk
theorem oE.slice{base:Nat}{w:World}{v:Value}{ms:List nQ}(h:oE base w v ms):∃a c,v=sh a ms.length c:=by
 rcases h.2 with⟨rfl,h0⟩|⟨g,c,cur,rfl,_⟩
 .exact⟨U,0,by rw[h0]⟩
 .exact⟨_,c,rfl⟩
theorem Tryz.Kl:(Tryz.prog.info? 57).map (λi=>(i.zero,i.size,i.bytes))=AI (AI (Iu #[I ⟨#[]⟩,O J 0,O J 0,O J 0,Ic false,O J 0]),6,56):=by kernel_rfl
theorem XW{rs:List nQ}{w:World}{b off:Nat}(hr:vU w b off rs){j:Nat}{u:Value}(hj:(ru rs)[j]?=AI u):w.cell? ⟨b,off+j,U⟩=AI u:=by
 have VD:j<rs.length*6:=by rw[<- pZ];exact(I7.1 hj).1
 have h1:=xP rs (j/6) (by omega) (j%6) (by omega);rw[show j/6*6+j%6=j by omega,hj] at h1;obtain⟨c0,c1,c2,c3,c4,c5⟩:=hr (j/6) (by omega);have oH:j%6=0\/j%6=1\/j%6=2\/j%6=3\/j%6=4\/j%6=5:=by omega
 rcases oH with e|e|e|e|e|e
 .rw[show off+j=off+j/6*6 by omega,c0];rw[e] at h1;simpa[nQ.cs] using h1.symm
 .rw[show off+j=off+j/6*6+1 by omega,c1];rw[e] at h1;simpa[nQ.cs] using h1.symm
 .rw[show off+j=off+j/6*6+2 by omega,c2];rw[e] at h1;simpa[nQ.cs] using h1.symm
 .rw[show off+j=off+j/6*6+3 by omega,c3];rw[e] at h1;simpa[nQ.cs] using h1.symm
 .rw[show off+j=off+j/6*6+4 by omega,c4];rw[e] at h1;simpa[nQ.cs] using h1.symm
 .rw[show off+j=off+j/6*6+5 by omega,c5];rw[e] at h1;simpa[nQ.cs] using h1.symm
theorem sQ(rs:List nQ)(v:Value)(w:World)(h:yd w v rs)(hn:rs.length<=1000) :
 Calls AT 91 #[v] w λe w'=>∃v',e=Ia v'/\oE w.heap.size w' v' rs/\Below w.heap.size w w':=by
 obtain⟨a,cap,rfl,hs,h⟩:=h;obtain⟨i0,qg,oS,so,sf⟩:=Jc Tryz.Kl;cases a with
 |none=>
  have he:rs=[]:=by
   rcases h with h|⟨b,off,h,_⟩
   .exact h
   .cases h
  subst he;clear h hs;have uI:=λ(w:World)=>JB (P:=AT) w 23 57 U 0 cap 0 0 OC;simp only[OH,Qs] at uI ⊢;go_enter func91,ntmps91;go_wp2_with fail;go_ret;exact⟨_,rfl,Ns _ _,If _ _⟩
 |some a=>
  have uI:=λ(w:World)=>JB (P:=AT) w 23 57 (AI a) rs.length cap 0 0 OC;simp only[Qt] at uI;have hnews:Hid (∀j u,(ru rs)[j]?=AI u->(w.alloc (Ib #[] 57)).cell? (a.add j)=AI u):=by
   intro j u hj;rcases h with h|⟨b,off,h,hb,hr⟩
   .subst h;simp[ru] at hj
   .cases h
    rw[I4,Oc (w:=w) _ b _ hb];exact XW hr hj
  have HO:Hid ((w.alloc (Ib #[] 57)).ownsRow w.heap.size 57 6 (sh (AI ⟨w.heap.size,0,U⟩) 0 0) 0 []):=Qv w #[] 0 (By _) (by unfold Il;omega) rfl;clear h hs;go_enter func91,ntmps91;go_wp2_with (at_builtin;refine IY _ rfl _ _ 23 rfl w.heap.size 57 i0 _ 6 56 OC qg oS so sf rfl (by omega) _ 0 [] rfl HO.out a rs.length cap (ru rs) rfl (pZ rs) hnews.out (V8 rs) (by unfold Il;omega) (by omega) (by simp) ?_);intro v' w' r1 r2 r3;go_wp2_with fail;go_ret;refine⟨v',rfl,?_,?_⟩
  .simpa using r1
  .exact((If _ _).alloc (By _) _).grown r2 (by simp) (λk hk=>by simp[Jb] at hk;omega)
end Go.Proofs.YtipbebleapjcjaaGreatDoor
namespace Go.Proofs.YtipbebleapjcjaaGreatDoor
open Go.RowKit Go.WideMaps Go.Maps
theorem BN{w:World}{b n:Nat}{D:DataW Unit}(h:w.ownsMap AT 9 (JK (H:=Unit) AT 3) b n D){s:ByteArray}(hs:s.size<=Il) :
 ∃c:Int,(Instr.lookup 164 (.map (AI b)) (I s) true).run AT w=.ok (Ir #[O J c,Ic (OG D (kS s))]) w/\D.atKey (kS s) (.lit (.int J 0))=.lit (.int J c):=by
 obtain⟨v,ps,tP,hv⟩:=h.look_ok ag8 JQ (adj _) (plainElem_int IH (by decide)) (keyOf_string_mk IF hs);obtain⟨c,rfl,hc,_⟩:=plainElem_int_inv IH hv;exact⟨c,tP,congrArg Prod.fst hc⟩
def V9(rs:List nQ)(nm:ByteArray):Prop:=∀j,j<rs.length->(rs.getD j dr).m.name≠nm
theorem Wa{rs:List nQ}{nm:ByteArray}(h:V9 rs nm):OG (Dm (rB rs) rs.length) (kS nm)=false:=by
 cases hh:OG (Dm (rB rs) rs.length) (kS nm)
 .rfl
 .obtain⟨j,hj,e⟩:=(Cs _ _ _).1 hh
  rw[pF] at e;exact absurd e (h j hj)
theorem ahf(rs:List nQ)(v:Value)(m:Mem)(w:World)(hv:yd w v rs)(hm:m.name.size<=Il)(h0:o5 rs=0)(he:m.e=0)(tY:V9 rs m.name)(hl:rs.length<20) :
 Calls AT 195 #[v,Iu #[I m.name,O J m.state,O J m.nJ,O J m.addr,Ic m.server]] w λe w'=>∃v',e=Ia (Ir #[v',O J 0])/\oE w.heap.size w' v' (rs++[⟨m,0⟩])/\Below w.heap.size w w':=by
 obtain⟨i0,qg,oS,so,sf⟩:=Jc Tryz.Kl;have HV:Hid (yd w v rs):=hv;have vE:=λ(w:World) (h:yd w v rs)=>sP rs v w h;rw[h0] at vE;have qw:=λw=>rq m w hm;rw[he] at qw;have HH:Hid _:=Wa tY;clear h0 he hv;obtain⟨nm,st,lf,ad,sv⟩:=m;simp only at *;have zZ:Below w.heap.size w (w.alloc (Ib #[I nm,O J st,O J lf,O J ad,Ic sv] 55)):=(If _ _).alloc (By _) _;go_enter func195,ntmps195;go_wp2_with fail;refine(vE _ (HV.out.below zZ)).mono ?_;rintro e w1 ⟨rfl,mO⟩;have c1:∀o,w1.cell? ⟨w.heap.size,o,U⟩=#[I nm,O J st,O J lf,O J ad,Ic sv][o]?:=λo=>by
  rw[mO.cell (p:=⟨w.heap.size,o,U⟩) (by simp)];exact oP rfl
 have mY:Hid _:=zZ.trans (mO.mono (by simp));have pC:w.heap.size<w1.heap.size:=by have:=mO.size;simp at this;omega
 clear mO zZ vE;go_wp2_with fail;refine(qw _).mono ?_;rintro e w2 ⟨rfl,mZ⟩;have c2:∀o,w2.cell? ⟨w.heap.size,o,U⟩=#[I nm,O J st,O J lf,O J ad,Ic sv][o]?:=λo=>by
  rw[mZ.cell (p:=⟨w.heap.size,o,U⟩) (by simp only;omega)];exact c1 o
 have nR:Hid _:=mY.out.trans (mZ.mono mY.out.size);have xC:w.heap.size<w2.heap.size:=by have:=mZ.size;omega
 clear mZ c1 pC mY qw;go_wp2_with fail;refine(sQ rs v _ (HV.out.below nR.out) (by omega)).mono ?_;rintro e w3 ⟨v3,rfl,AR,nC⟩;have tQ:Hid (oE _ _ _ _):=AR;have c3:w3.cell? ⟨w.heap.size,0,U⟩=AI (I nm):=by
  rw[nC.cell (p:=⟨w.heap.size,0,U⟩) (by simp only;omega)];exact c2 0
 have C3:Hid (∀o,w3.cell? ⟨w.heap.size,o,U⟩=#[I nm,O J st,O J lf,O J ad,Ic sv][o]?):=λo=>by
  rw[nC.cell (p:=⟨w.heap.size,o,U⟩) (by simp only;omega)];exact c2 o
 have oT:Hid _:=nR.out.trans (nC.mono nR.out.size);have zV:w.heap.size<w3.heap.size:=by have:=nC.size;omega
 have ak5:=nC.size;clear nC AR c2;go_wp2_with fail;go_region_held3 (λw'=>w'.cell? ⟨w.heap.size,0,U⟩=AI (I nm)) (first|assumption|go_keep) (first|(go_at_call 109;refine(BL rs v _ ((HV.out.below oT.out).below (If _ _).drew) (by omega)).mono ?_;rintro e w4 ⟨rfl,hown,qA⟩;obtain⟨cq,tP,qi⟩:=BN hown hm;rw[HH.out] at tP;have Bk:(Instr.lookup 164 (.map (AI w3.heap.size)) (I nm) true).run AT w4=.ok (Ir #[O J cq,Ic false]) w4:=tP;clear tP qi hown;have qP:Hid (Below w3.heap.size w3 w4):=(If w3.heap.size w3).drew.trans qA;have hS:w4.cell? ⟨w.heap.size,0,U⟩=AI (I nm):=((qA.cell (p:=⟨w.heap.size,0,U⟩) zV).trans c3);clear qA))
 obtain⟨a3,XX,SZ⟩:=tQ.out.slice;subst SZ;have C4:∀o,w4.cell? ⟨w.heap.size,o,U⟩=#[I nm,O J st,O J lf,O J ad,Ic sv][o]?:=λo=>by
  rw[qP.out.cell (p:=⟨w.heap.size,o,U⟩) zV];exact C3.out o
 have Cm:Hid (oE _ _ _ _):=tQ.out.below qP.out;have qB:Hid _:=oT.out.trans (qP.out.mono oT.out.size);have uJ:w2.heap.size<=w4.heap.size:=by have:=qP.out.size;omega
 have Nt:Hid (∀ob,(w4.alloc ob).ownsRow w2.heap.size 57 6 (sh a3 rs.length XX) rs.length (ru rs)):=λob=>Cm.out.below ((If _ _).alloc (By _) _);have Mq:Hid (∀k,(Value.slice a3 rs.length XX).ownBlock=AI k->w.heap.size<=k):=λk hk=>by have:=(Cm.out.lt k hk).1;omega
 have HSN:Hid (∀(w':World) (v':Value),w'.ownsRow w2.heap.size 57 6 v' (rs.length+1) (ru rs++(nQ.mk ⟨nm,st,lf,ad,sv⟩ 0).cs)->oE w.heap.size w' v' (rs++[⟨⟨nm,st,lf,ad,sv⟩,0⟩])):=λw' v' h=>(Kk h).base (by omega);clear tQ C3 qP oT c3 Bk Cm;generalize hN:rs.length=n at *;have HN:Hid _:=hN;clear hN;go_wp2_with (at_builtin;refine IY _ rfl _ _ 23 rfl w2.heap.size 57 i0 _ 6 56 OC qg oS so sf rfl (by omega) _ n (ru rs) rfl ?hown ⟨w4.heap.size,0,U⟩ 1 1 (nQ.mk ⟨nm,st,lf,ad,sv⟩ 0).cs rfl rfl ?hnews (Lt _) ?h63 ?hbytes ?hbase ?_)
 case hown=>exact Nt.out _
 case hnews=>(intro j u hj;rw[I4];exact(fi (Ii w4 (Ib #[I nm,O J st,O J lf,O J ad,Ic sv,O J 0] 57)) (0+j)).trans (by simpa[nQ.cs] using hj))
 case h63=>(unfold Il;omega)
 case hbytes=>omega
 case hbase=>(simp;omega)
 intro v' w5 r1 r2 r3;have R1:Hid (oE _ _ _ _):=HSN.out w5 v' r1;have R2:Hid _:=(qB.out.alloc qB.out.size _).grown r2 (by have:=qB.out.size;simp;omega) (λk hk=>Mq.out k hk);clear r1 r2 r3;go_wp2_with fail;go_ret2;exact⟨v',rfl,R1.out,R2.out⟩
end Go.Proofs.YtipbebleapjcjaaGreatDoor
namespace Go.Proofs.YtipbebleapjcjaaGreatDoor
namespace Wh
open Go.RowKit
theorem sY(ms:List nZ)(v:Value)(w:World)(h:Sl w v ms)(hn:ms.length<=1000) :
 ni 94 #[v] w λe w'=>∃v',e=Ia v'/\Own w.heap.size w' v' ms/\Below w.heap.size w w':=by
 obtain⟨a,cap,rfl,hs,h⟩:=h;obtain⟨i0,qg,oS,so,sf⟩:=Jc Tryz.akY;cases a with
 |none=>
  have he:ms=[]:=by
   rcases h with h|⟨b,off,h,_⟩
   .exact h
   .cases h
  subst he;clear h hs;have uI:=λ(w:World)=>JB (P:=AT) w 28 97 U 0 cap 0 0 underlying28;simp only[OH,Qs] at uI ⊢;go_enter func94,ntmps94;go_wp2_with fail;go_ret;exact⟨_,rfl,nh _ _,If _ _⟩
 |some a=>
  have uI:=λ(w:World)=>JB (P:=AT) w 28 97 (AI a) ms.length cap 0 0 underlying28;simp only[Qt] at uI;have hnews:Hid (∀j u,(fl ms)[j]?=AI u->(w.alloc (Ib #[] 97)).cell? (a.add j)=AI u):=by
   intro j u hj;rcases h with h|⟨b,off,h,hb,hr⟩
   .subst h;simp[fl] at hj
   .cases h
    have VD:j<ms.length*6:=by rw[<- pD];exact(I7.1 hj).1
    have h1:=rz ms (j/6) (by omega) (j%6) (by omega);rw[show j/6*6+j%6=j by omega,hj] at h1;rw[I4,Oc (w:=w) _ b _ hb];obtain⟨c0,c1,c2,c3,c4,c5⟩:=hr (j/6) (by omega);have oH:j%6=0\/j%6=1\/j%6=2\/j%6=3\/j%6=4\/j%6=5:=by omega
    rcases oH with e|e|e|e|e|e
    .rw[show off+j=off+j/6*6 by omega,c0];rw[e] at h1;simpa[nZ.cs] using h1.symm
    .rw[show off+j=off+j/6*6+1 by omega,c1];rw[e] at h1;simpa[nZ.cs] using h1.symm
    .rw[show off+j=off+j/6*6+2 by omega,c2];rw[e] at h1;simpa[nZ.cs] using h1.symm
    .rw[show off+j=off+j/6*6+3 by omega,c3];rw[e] at h1;simpa[nZ.cs] using h1.symm
    .rw[show off+j=off+j/6*6+4 by omega,c4];rw[e] at h1;simpa[nZ.cs] using h1.symm
    .rw[show off+j=off+j/6*6+5 by omega,c5];rw[e] at h1;simpa[nZ.cs] using h1.symm
  have HO:Hid ((w.alloc (Ib #[] 97)).ownsRow w.heap.size 97 6 (sh (AI ⟨w.heap.size,0,U⟩) 0 0) 0 []):=Qv w #[] 0 (By _) (by unfold Il;omega) rfl;clear h hs;go_enter func94,ntmps94;go_wp2_with (at_builtin;refine IY _ rfl _ _ 28 rfl w.heap.size 97 i0 _ 6 56 underlying28 qg oS so sf rfl (by omega) _ 0 [] rfl HO.out a ms.length cap (fl ms) rfl (pD ms) hnews.out (tA ms) (by unfold Il;omega) (by omega) (by simp) ?_);intro v' w' r1 r2 r3;go_wp2_with fail;go_ret;refine⟨v',rfl,?_,?_⟩
  .simpa using r1
  .exact((If _ _).alloc (By _) _).grown r2 (by simp) (λk hk=>by simp[Jb] at hk;omega)
end Wh
end Go.Proofs.YtipbebleapjcjaaGreatDoor
namespace Go.Proofs.YtipbebleapjcjaaGreatDoor
open Go.RowKit
def adq(acc:List ByteArray)(n:ByteArray):List ByteArray:=if acc.any (λy=>decide (y=n))=true then acc else acc++[n]
theorem Wb{acc:List ByteArray}{n:ByteArray}:acc.any (λy=>decide (y=n))=true↔n∈acc:=by simp
theorem BO{acc:List ByteArray}{n:ByteArray}(h:n∈acc):adq acc n=acc:=if_pos (Wb.2 h)
theorem yI{acc:List ByteArray}{n:ByteArray}(h:n ∉ acc):adq acc n=acc++[n]:=if_neg (λh2=>h (Wb.1 h2))
def nF(L:List Sv.nj):List ByteArray:=L.foldl (λacc s=>adq acc s.node) []
def Aa(acc:List ByteArray)(n:ByteArray):List ByteArray:=if acc.getLast?=AI n then acc else acc++[n]
def qH(L:List Sv.nj):List ByteArray:=L.foldl (λacc s=>Aa acc s.node) []
theorem rR(L:List Sv.nj)(s:Sv.nj):nF (L++[s])=adq (nF L) s.node:=by simp[nF,QW]
theorem yJ(L:List Sv.nj)(s:Sv.nj):qH (L++[s])=Aa (qH L) s.node:=by simp[qH,QW]
theorem Ta{α:Type}(l:List α):l=[]\/∃r x,l=r++[x]:=by
 by_cases h:l=[]
 .exact .inl h
 .exact .inr ⟨l.dropLast,l.getLast h,(List.dropLast_concat_getLast h).symm⟩
theorem yK{α:Type}{p:List α->Prop}(h0:p [])(h1:∀l x,p l->p (l++[x]))(l:List α):p l:=by
 have h:∀r:List α,p r.reverse:=by
  intro r;induction r with
  |nil=>exact h0
  |cons a r ih=>rw[List.reverse_cons];exact h1 _ _ ih
 have:=h l.reverse
 rwa [List.reverse_reverse] at this
theorem adr{acc:List ByteArray}{n x:ByteArray}:x∈adq acc n↔x∈acc\/x=n:=by
 by_cases h:n∈acc
 .rw[BO h]
  exact⟨.inl,λh2=>h2.elim id (λe=>e▸h)⟩
 .rw[yI h];simp
theorem ua(L:List Sv.nj):∀x,x∈nF L↔∃s∈L,s.node=x:=by
 refine yK (p:=λL=>∀x,x∈nF L↔∃s∈L,s.node=x) (by simp[nF]) (λl s ih x=>?_) L;rw[rR,adr,ih x];constructor
 .rintro(⟨y,hy,e⟩|rfl)
  .exact⟨y,List.mem_append_left _ hy,e⟩
  .exact⟨s,by simp,rfl⟩
 .rintro⟨y,hy,e⟩
  rcases JI.1 hy with h|h
  .exact .inl ⟨y,h,e⟩
  .simp at h;subst h;exact .inr e.symm
theorem XY{a b:ByteArray}(h1:oh a b<=0)(h2:oh b a<=0):a=b:=by
 have h3:=zh b a;have h4:¬ oh a b<0:=λh=>by have:=h3.2 h;omega
 exact(oQ a b).1 (by omega)
abbrev UpN(L:List Sv.nj):Prop:=L.Pairwise λa b=>oh a.node b.node<=0
theorem ak6{ms:List Sv.nj}(h:Sv.pj ms):UpN ms:=h.imp λ{a b} VW=>by
 have h2:(if oh a.node b.node=0 then oh a.oI b.oI else oh a.node b.node)<0:=VW;split at h2<;>omega
theorem Nu(L:List Sv.nj):UpN L->(nF L).getLast?=L.getLast?.map Sv.nj.node:=by
 refine yK (p:=λL=>UpN L->(nF L).getLast?=L.getLast?.map Sv.nj.node) (λ_=>rfl) (λl s ih hu=>?_) L;have hul:UpN l:=(Ox.1 hu).1;have hls:∀x∈l,oh x.node s.node<=0:=λx hx=>(Ox.1 hu).2.2 x hx s (by simp);have ih:=ih hul;rw[rR];by_cases hm:s.node∈nF l
 .rw[BO hm]
  obtain⟨x,hx,XZ⟩:=(ua l s.node).1 hm;rcases Ta l with rfl|⟨r,y,rfl⟩
  .simp at hx
  .rw[ih]
   simp only[List.getLast?_append,List.getLast?_singleton,Option.some_or,Option.map_some,Option.some.injEq];have hy:oh y.node s.node<=0:=hls y (by simp);rcases JI.1 hx with h|h
   .have hxy:oh x.node y.node<=0:=(Ox.1 hul).2.2 x h y (by simp)
    rw[<- XZ] at hy ⊢;exact XY hy hxy
   .simp at h
    rw[<- XZ,h]
 .rw[yI hm]
  simp
theorem adt(L:List Sv.nj):UpN L->qH L=nF L:=by
 refine yK (p:=λL=>UpN L->qH L=nF L) (λ_=>rfl) (λl s ih hu=>?_) L;have hul:UpN l:=(Ox.1 hu).1;have hls:∀x∈l,oh x.node s.node<=0:=λx hx=>(Ox.1 hu).2.2 x hx s (by simp);rw[yJ,rR,ih hul];unfold Aa;by_cases hm:s.node∈nF l
 .have h2:UpN (l++[s]):=hu
  have h3:=Nu _ h2;rw[rR] at h3;rw[BO hm] at h3 ⊢;rw[if_pos];rw[h3];simp
 .rw[yI hm,if_neg]
  intro h;exact hm (List.mem_of_getLast? h)
theorem AZ(L:List Sv.nj):(nF L).length<=L.length:=by
 refine yK (p:=λL=>(nF L).length<=L.length) (by simp[nF]) (λl s ih=>?_) L;rw[rR];by_cases hm:s.node∈nF l
 .rw[BO hm];simp;omega
 .rw[yI hm];simp;omega
def nf(ms:List Mem)(L:List Sv.nj):List Sv.nj:=L.filter λs => !wL ms s.node
def tf(L:List Sv.nj)(n:ByteArray):List Sv.nj:=L.filter λs=>decide (s.node=n)
def qp(ns:List ByteArray)(L:List Sv.nj):List Sv.nj:=ns.flatMap (tf L)
def si(p:Pl)(wh:List Wh.nZ)(ms:List Mem)(found:List Sv.nj):List Sv.nj:=(qp (GD p wh (nF (nf ms found))) (nf ms found)).take 20
theorem Wc{p:Pl}{wh:List Wh.nZ}{ns:List ByteArray}{x:ByteArray}:x∈GD p wh ns↔x∈ns:=by
 unfold GD;have h:=(So.xa (MX (dV (Dd (qR p) wh wh.length))) ns ns.length).2;rw[JU] at h;exact h.mem_iff
theorem adu{ms:List Mem}{L:List Sv.nj}{n:ByteArray}(h:wL ms n=false):tf (nf ms L) n=tf L n:=by
 unfold tf nf;rw[List.filter_filter];apply List.filter_congr;intro s _;by_cases e:s.node=n
 .simp[e,h]
 .simp[e]
theorem Tb{p:Pl}{wh:List Wh.nZ}{ms:List Mem}{L:List Sv.nj}:si p wh ms L=(qp (GD p wh (nF (nf ms L))) L).take 20:=by
 unfold si qp;congr 1;rw[List.flatMap_def,List.flatMap_def];congr 1;apply List.map_congr_left;intro n hn;obtain⟨s,hs,e⟩:=(ua _ n).1 (Wc.1 hn);refine adu ?_;have h2:=(JT.1 hs).2;rw[e] at h2;simpa using h2
def qN(n here:ByteArray):Qu:=⟨⟨#[]⟩,⟨#[]⟩,n,here⟩
def pG(name here:ByteArray)(t:Int)(s:Sv.nj):Rc.Rec:=
 ⟨name,t,0,if t=1 then s.addr else 0,if t=16 then s.oI else⟨#[]⟩,if t=33 then s.port else 0,if t=33 then tN (qN s.node here) else⟨#[]⟩⟩
def qI(here:ByteArray)(t:Int)(s:Sv.nj):Int:=if t=33 then rH (qN s.node here) else 0
def qJ(here:ByteArray)(t:Int):List Sv.nj->Int
 |[]=>0
 |s::r=>if qI here t s=0 then qJ here t r else qI here t s
theorem CQ{here:ByteArray}{t:Int}:∀{L:List Sv.nj},(∀j,j<L.length->qI here t (L.getD j Sv.dm)=0)->qJ here t L=0
 |[],_=>rfl
 |s::r,h=>by
  have h0:=h 0 (by simp);simp at h0;rw[qJ,if_pos h0];exact CQ λj hj=>by have:=h (j+1) (by simpa using hj);simpa using this
theorem Fx{here:ByteArray}{t:Int}:∀{L:List Sv.nj} {k:Nat},k<L.length->(∀j,j<k->qI here t (L.getD j Sv.dm)=0)->qI here t (L.getD k Sv.dm)≠0->qJ here t L=qI here t (L.getD k Sv.dm)
 |[],k,hk,_,_=>by simp at hk
 |s::r,0,_,_,h=>by
  simp at h;rw[qJ,if_neg h];simp
 |s::r,k+1,hk,h,h2=>by
  have h0:=h 0 (by simp);simp at h0;rw[qJ,if_pos h0];have:=Fx (L:=r) (k:=k) (by simpa using hk) (λj hj=>by have:=h (j+1) (by omega);simpa using this) (by simpa using h2);simpa using this
structure Ans where
 rs:List Rc.Rec
 code:Int
 e:Int
def ub(q:Qu)(t:Int)(here:ByteArray)(sv:List Sv.nj)(ms:List Mem)(p:Pl)(wh:List Wh.nZ):Ans:=
 if Sv.nc sv q.service ⟨#[]⟩=[] then⟨[],3,0⟩
 else if qJ here t (si p wh ms (Sv.nc sv q.service q.tag))=0 then⟨(si p wh ms (Sv.nc sv q.service q.tag)).map (pG (tN q) here t),0,0⟩
 else⟨[],0,qJ here t (si p wh ms (Sv.nc sv q.service q.tag))⟩
def uX(q:Qu)(t:Int)(ms:List Mem):Ans:=
 if(qO ms q.node).state=1\/(qO ms q.node).state=2 then(if t=1 then⟨[⟨tN q,1,0,(qO ms q.node).addr,⟨#[]⟩,0,⟨#[]⟩⟩],0,0⟩ else⟨[],0,0⟩) else⟨[],3,0⟩
def uY(q:Qu)(t:Int)(here:ByteArray)(sv:List Sv.nj)(ms:List Mem)(p:Pl)(wh:List Wh.nZ):Ans:=
 if rH q=0 then(if q.mM.size≠0/\q.mM≠here then⟨[],3,0⟩ else if q.node.size≠0 then uX q t ms else ub q t here sv ms p wh) else⟨[],0,rH q⟩
def Km(p:Pl)(wh:List Wh.nZ):Int:=if 20<wh.length then 2 else pR (p::(oN wh).map oJ)
def Ab(here:ByteArray)(sv:List Sv.nj)(ms:List Mem)(p:Pl)(wh:List Wh.nZ):Int:=
 if mT here=true then(if Sv.nu sv=0 then(if nu ms=0 then Km p wh else nu ms) else Sv.nu sv) else 1
theorem Nv(p:Pl)(wh:List Wh.nZ)(ms:List Mem)(L:List Sv.nj):(si p wh ms L).length<=20:=by unfold si;exact Oh _ _
theorem adv{p:Pl}{wh:List Wh.nZ}{ms:List Mem}{L:List Sv.nj}{s:Sv.nj}(h:s∈si p wh ms L):s∈L/\wL ms s.node=false:=by
 unfold si qp at h;have h1:=Jr h;obtain⟨n,_,h2⟩:=O0.1 h1;have h3:=(JT.1 h2).1;have h4:=JT.1 h3;exact⟨h4.1,by simpa using h4.2⟩
theorem ak7(a b:ByteArray):(a.toList==b.toList)=decide (a=b):=by
 by_cases h:a=b
 .subst h;simp
 .rw[(o0 h).1,decide_eq_false h]
theorem adw(m:Mem)(nb:Nat)(nm:ByteArray)(w:World)(h:w.cell? ⟨nb,0,U⟩=AI (I nm)) :
 Calls AT 286 #[Iu #[I m.name,O J m.state,O J m.nJ,O J m.addr,Ic m.server],.pointer (AI ⟨nb,0,U⟩)] w λe w'=>e=Ia (Ic (decide (m.name=nm)))/\w'=w.alloc (Ib #[I m.name,O J m.state,O J m.nJ,O J m.addr,Ic m.server] 55):=by
 have hb:=II w _ h;have h2:∀ob,(w.alloc ob).cell? ⟨nb,0,U⟩=AI (I nm):=λob=>by
  rw[((If w.heap.size w).alloc (By _) ob).cell (p:=⟨nb,0,U⟩) hb];exact h
 obtain⟨mn,st,lf,ad,sv⟩:=m;go_enter func286,ntmps286;go_wp2_with fail;go_ret;exact⟨mW (ak7 _ _),rfl⟩
theorem Tc(ms:List Mem)(pa:Option Addr)(n c nb:Nat)(nm:ByteArray)(w:World)(hv:Sl w (sh pa n c) ms)(Ho:n<=1000)(ht:w.cell? ⟨nb,0,U⟩=AI (I nm)) :
 Calls AT 120 #[sh pa n c,JD (.func 286) #[] #[.pointer (AI ⟨nb,0,U⟩)]] w λe w'=>
  ((e=Ia (O J (-1))/\Hid (oX ms nm=U))\/(∃i:Nat,i<n/\e=Ia (O J i)/\Hid (oX ms nm=AI (ms.getD i dm))))/\Below w.heap.size w w':=by
 obtain⟨pa',ca,he,_,ha⟩:=hv;simp only[IM] at he;obtain⟨rfl,hN,rfl⟩:=he;have HA:Hid _:=ha;have HN:Hid _:=hN.symm;have HT:Hid _:=ht;have htb:=II w _ ht;clear ha hN ht;go_enter func120,ntmps120;go_wp2_with fail;go_loopw [8] (λi wr=>∃k:Nat,k<=n/\i=O J k/\Hid (∀j,j<k->(ms.getD j dm).name≠nm)/\Hid (Below w.heap.size w wr)) (λi _=>n-(intOf i).toNat)
 case atStart=>exact⟨0,Iw _,rfl,λj hj=>by omega,If _ _⟩
 case round=>
  obtain⟨k,hk,rfl,HZ,HB⟩:=hrel;by_cases mS:k<n
  .obtain⟨b,off,tr,o8,hr⟩:∃b off,pa=AI ⟨b,off,U⟩/\b<w.heap.size/\Row w b off ms:=by
    rcases HA.out with h|h
    .have:=HN.out;rw[h] at this;simp at this;omega
    .exact h
   subst tr;obtain⟨c0,c1,c2,c3,c4⟩:=hr.later HB.out o8 k (by rw[HN.out];exact mS);clear hr;have Rk:wr.cell? ⟨nb,0,U⟩=AI (I nm):=by rw[HB.out.cell (p:=⟨nb,0,U⟩) htb];exact HT.out
   have HY:Hid ((ms.getD k dm).name=nm->oX ms nm=AI (ms.getD k dm)):=λh=>zF (by rw[HN.out];exact mS) HZ.out h;have o6:Hid ((ms.getD k dm).name≠nm->∀j,j<k+1->(ms.getD j dm).name≠nm):=λh j hj=>by
    by_cases e:j=k
    .subst e;exact h
    .exact HZ.out j (by omega)
   have hF:=λw h=>adw (ms.getD k dm) nb nm w h;by_cases vO:(ms.getD k dm).name=nm
   .have HF:Hid _:=HY.out vO
    rw[decide_eq_true vO] at hF;clear vO o6 HY;generalize hmk:ms.getD k dm=mk at *;have Mt:Hid _:=hmk;clear hmk;obtain⟨mn,st,lf,ad,sv⟩:=mk;simp only at c0 c1 c2 c3 c4 hF;go_wp2_with fail;refine(hF _ Rk).mono ?_;rintro e w1 ⟨rfl,rfl⟩;go_wp2_with fail;go_ret;exact⟨.inr ⟨k,mS,rfl,by rw[Mt.out];exact HF⟩,HB.out.alloc HB.out.size _⟩
   .have tu:Hid _:=o6.out vO
    rw[decide_eq_false vO] at hF;clear vO o6 HY HZ;generalize ms.getD k dm=mk at *;obtain⟨mn,st,lf,ad,sv⟩:=mk;simp only at c0 c1 c2 c3 c4 hF;go_wp2_with fail;refine(hF _ Rk).mono ?_;rintro e w1 ⟨rfl,rfl⟩;go_wp2_with fail;go_roundw
    case rel=>exact⟨k+1,by omega,by go_num,tu,HB.out.alloc HB.out.size _⟩
    case measure=>simp[intOf];omega
  .have tu:Hid _:=zE λj hj=>HZ.out j (by have:=HN.out;omega)
   clear HZ;go_wp2_with fail;go_ret;exact⟨.inl ⟨rfl,tu⟩,HB.out⟩
abbrev tH(here:ByteArray)(vs vm:Value)(px py pz ph pq:Int)(vw:Value):Array Value:=#[I here,vs,vm,O J px,O J py,O J pz,O J ph,O J pq,vw]
theorem uc{ms:List Mem}{t:ByteArray}{m:Mem}(h:oX ms t=AI m):qO ms t=m:=by unfold qO;rw[h];rfl
theorem zG{ms:List Mem}{t:ByteArray}(h:oX ms t=U):qO ms t=dm:=by unfold qO;rw[h];rfl
theorem Wd{P:Prop}(h:P:=by
 exact((((HB.out.setCell (p:=⟨w.heap.size+2,0,U⟩) (by simp) _).setCell (p:=⟨w.heap.size+2,1,U⟩) (by simp) _).setCell (p:=⟨w.heap.size+2,2,U⟩) (by simp) _).setCell (p:=⟨w.heap.size+2,3,U⟩) (by simp) _).setCell (p:=⟨w.heap.size+2,4,U⟩) (by simp) _):P:=h
theorem Dx(here:ByteArray)(ps pm pw:Option Addr)(ns cs nm cm nw cw:Nat)(px py pz ph pq:Int)(ms:List Mem)(t:ByteArray)(w:World)(hm:Sl w (sh pm nm cm) ms)(hn:nm<=1000) :
 Calls AT 258 #[Iu (tH here (sh ps ns cs) (sh pm nm cm) px py pz ph pq (sh pw nw cw)),I t] w λe w'=>e=Ia (Iu #[I (qO ms t).name,O J (qO ms t).state,O J (qO ms t).nJ,O J (qO ms t).addr,Ic (qO ms t).server])/\Below w.heap.size w w':=by
 have HM:Hid (Sl _ _ _):=hm;clear hm;go_enter func258,ntmps258;go_wp2_with fail;obtain⟨W,hW⟩:∃W,W=((w.alloc (Ib (tH here (sh ps ns cs) (sh pm nm cm) px py pz ph pq (sh pw nw cw)) 87)).alloc (Ib #[I t] 9)).alloc (Ib #[I ⟨#[]⟩,O J 0,O J 0,O J 0,Ic false] 55):=⟨_,rfl⟩;rw[<- hW];have rj:Below w.heap.size w W:=by rw[hW];exact(((If _ _).alloc (By _) _).alloc (by simp) _).alloc (by simp;omega) _
 have pS:W.heap[w.heap.size]?=AI (Ib (tH here (sh ps ns cs) (sh pm nm cm) px py pz ph pq (sh pw nw cw)) 87 (0,0)):=by
  rw[hW,Iv _ _ _ (by simp;omega),Iv _ _ _ (by simp)];exact Ii w _
 have ou:W.heap[w.heap.size+1]?=AI (Ib #[I t] 9 (0,0)):=by
  rw[hW,Iv _ _ _ (by simp)];have h:=Ii (w.alloc (Ib (tH here (sh ps ns cs) (sh pm nm cm) px py pz ph pq (sh pw nw cw)) 87)) (Ib #[I t] 9);simpa using h
 have vR:W.heap[w.heap.size+2]?=AI (Ib #[I ⟨#[]⟩,O J 0,O J 0,O J 0,Ic false] 55 (0,0)):=by
  rw[hW];have h:=Ii ((w.alloc (Ib (tH here (sh ps ns cs) (sh pm nm cm) px py pz ph pq (sh pw nw cw)) 87)).alloc (Ib #[I t] 9)) (Ib #[I ⟨#[]⟩,O J 0,O J 0,O J 0,Ic false] 55);simpa using h
 have CB:w.heap.size+3<=W.heap.size:=by rw[hW];simp
 clear hW;refine(Tc ms pm nm cm _ t W (HM.out.below rj) hn (fi ou 0)).mono ?_;rintro e w1 ⟨Er,mO⟩;have h0:=(mO.block _ (by omega)).trans pS;have h2:=(mO.block _ (by omega)).trans vR;have HB:Hid _:=rj.trans (mO.mono (by omega));have HM1:Hid (Sl _ _ _):=HM.out.below HB.out;have d2:=fi h0 2;have r0:=fi h2 0;have r1:=fi h2 1;have r2:=fi h2 2;have r3:=fi h2 3;have r4:=fi h2 4;have z0:w1.frozen? ⟨w.heap.size+2,0,U⟩=false:=by simp[Ij,h2]
 have z1:w1.frozen? ⟨w.heap.size+2,1,U⟩=false:=by simp[Ij,h2]
 have z2:w1.frozen? ⟨w.heap.size+2,2,U⟩=false:=by simp[Ij,h2]
 have z3:w1.frozen? ⟨w.heap.size+2,3,U⟩=false:=by simp[Ij,h2]
 have z4:w1.frozen? ⟨w.heap.size+2,4,U⟩=false:=by simp[Ij,h2]
 have xC:=(Ig.1 h2).1;clear rj pS ou vR mO h0 h2 CB;rcases Er with⟨rfl,HF⟩|⟨i,hi,rfl,HF⟩
 .have HO:Hid _:=zG HF.out
  go_wp2_with fail;refine IE (v:=Iu #[I ⟨#[]⟩,O J 0,O J 0,O J 0,Ic false]) ?_ rfl ⟨by rw[HO.out];rfl,?_⟩
  .simp[results,results258,go_sem,r0,r1,r2,r3,r4]
  exact Wd
 .have HO:Hid _:=uc HF.out
  obtain⟨pa',ca,he,_,ha⟩:=HM1.out;simp only[IM] at he;obtain⟨rfl,hN,rfl⟩:=he;obtain⟨b,off,tr,o8,hr⟩:∃b off,pm=AI ⟨b,off,U⟩/\b<w1.heap.size/\Row w1 b off ms:=by
   rcases ha with h|h
   .rw[h] at hN;simp at hN;omega
   .exact h
  subst tr;obtain⟨c0,c1,c2,c3,c4⟩:=hr i (by omega);clear hr hN ha HF;generalize ms.getD i dm=mk at *;obtain⟨mn,st,lf,ad,sv⟩:=mk;simp only at c0 c1 c2 c3 c4;go_wp2_with fail;refine IE (v:=Iu #[I mn,O J st,O J lf,O J ad,Ic sv]) ?_ rfl ⟨by rw[HO.out],?_⟩
  .simp[results,results258,go_sem,r0,r1,r2,r3,r4]
  exact Wd
theorem X0(a:ByteArray)(b c d:Int)(e:Bool)(w:World):(Instr.field 55 (Iu #[I a,O J b,O J c,O J d,Ic e]) 1).run AT w=.ok (O J b) w:=by kernel_rfl
theorem X6(here:ByteArray)(ps pm pw:Option Addr)(ns cs nm cm nw cw:Nat)(px py pz ph pq:Int)(ms:List Mem)(t:ByteArray)(w:World)(hm:Sl w (sh pm nm cm) ms)(hn:nm<=1000) :
 Calls AT 287 #[Iu (tH here (sh ps ns cs) (sh pm nm cm) px py pz ph pq (sh pw nw cw)),I t] w λe w'=>e=Ia (Ic (wL ms t))/\Below w.heap.size w w':=by
 have HM:Hid (Sl _ _ _):=hm;clear hm;have HU:Hid (wL ms t=(decide ((qO ms t).state=3)||decide ((qO ms t).state=4))):=rfl;generalize wL ms t=R at *;go_enter func287,ntmps287;go_wp2_with fail;have rj:Below w.heap.size w (w.alloc (Ib (tH here (sh ps ns cs) (sh pm nm cm) px py pz ph pq (sh pw nw cw)) 87)):=(If _ _).alloc (By _) _;refine(Dx here ps pm pw ns cs nm cm nw cw px py pz ph pq ms t _ (HM.out.below rj) hn).mono ?_;rintro e w1 ⟨rfl,mO⟩;have HB:Hid _:=rj.trans (mO.mono (by simp));clear mO rj;generalize qO ms t=m at *;obtain⟨mn,st,lf,ad,sv⟩:=m;have aCw:=X0;by_cases h3:st=3
 .have HR:Hid (R=true):=HU.out.trans (by simp[h3])
  subst h3;go_wp2_with fail;go_ret;exact⟨mW HR.out.symm,HB.out⟩
 .have HR:Hid (R=decide (st=4)):=HU.out.trans (by simp[h3])
  have h3':(st==3)=false:=by simpa using h3
  go_wp2_with fail;go_ret;exact⟨mW (by rw[HR.out];rfl),HB.out⟩
end Go.Proofs.YtipbebleapjcjaaGreatDoor
namespace Go.Proofs
open Go.Shelf
def Tryz.Nw:Go.Shelf.Ren:=⟨fun|10=>188|6=>138|n=>n,fun|22=>107|23=>9|25=>46|3=>3|4=>4|0=>0|n=>n,fun|n=>n⟩
theorem Tryz.auD:Go.Proofs.SlLaysH.n10 AT Tryz.Nw:={
 mixed:=by kernel_rfl
 f6:=⟨Tryz.f138.name,by decide,Tryz.func138.trans (congrArg AI (by kernel_rfl))⟩
 f10:=⟨Tryz.f188.name,by decide,Tryz.func188.trans (congrArg AI (by kernel_rfl))⟩
 t0:=Oe
 a0:=Qe
 z0:=OZ
 v0:=Oq
 t3:=IH
 a3:=No
 z3:=JY
 v3:=J0
 t4:=Jo
 a4:=OE
 z4:=Oo
 v4:=J1
 t22:=IS
 a22:=QN
 z22:=QD
 v22:=Qa
 a23:=Oj
 z23:=J8
 t25:=underlying46
 a25:=isAgg46
 z25:=sizeOf46
 v25:=Tryz.zeroValue46 }
def Tryz.We:Go.Shelf.Ren:=⟨fun|6=>138|n=>n,fun|22=>107|23=>9|25=>46|3=>3|0=>0|4=>4|n=>n,fun|n=>n⟩
theorem Tryz.ixS:Go.Proofs.SlLaysH.n6 AT Tryz.We:={
 mixed:=by kernel_rfl
 f6:=⟨Tryz.f138.name,by decide,Tryz.func138.trans (congrArg AI (by kernel_rfl))⟩
 t0:=Oe
 a0:=Qe
 z0:=OZ
 v0:=Oq
 t3:=IH
 a3:=No
 z3:=JY
 v3:=J0
 t4:=Jo
 a4:=OE
 z4:=Oo
 v4:=J1
 t22:=IS
 a22:=QN
 z22:=QD
 v22:=Qa
 a23:=Oj
 z23:=J8
 t25:=underlying46
 a25:=isAgg46
 z25:=sizeOf46
 v25:=Tryz.zeroValue46 }
end Go.Proofs
namespace Go.Proofs.YtipbebleapjcjaaGreatDoor
open Go.RowKit Go.Shelf Go.Lib Go.Sort
theorem Dy(x:ByteArray)(W:World):FnGives AT 187 #[] #[I x] (Ic (decide (x.size=0))) W:=by
 show Calls AT 187 #[I x] W _;by_cases h:x.size=0
 .have e:=nB h
  subst e;go_enter func187,ntmps187;go_wp2_with fail;go_ret;exact⟨rfl,0,rfl⟩
 .obtain⟨n1,n2⟩:=oC h
  rw[show decide (x.size=0)=false by simpa using h];clear h;go_enter func187,ntmps187;go_wp2_with fail;go_ret;exact⟨rfl,0,rfl⟩
theorem aoQ:∀w,(zeroValue 9).run AT w=.ok (I (⟨#[]⟩:ByteArray)) w:=Tryz.zeroValue9
theorem aaa{α:Type}[Inhabited α](enc:α->Value)(w:World)(q blk off g:Nat)(d:Array α)(nK:g≠blk):(putRow enc (Ju w q) blk off d).heap[g]?=w.heap[g]?:=by
 show(w.heap.modify blk _)[g]?=_;rw[Array.getElem?_modify,if_neg (Ne.symm nK)]
theorem aab{α:Type}[Inhabited α](enc:α->Value)(w:World)(q blk off B:Nat)(d:Array α)(hB:B<=blk):Below B w (putRow enc (Ju w q) blk off d):=
 ⟨rfl,rfl,rfl,by simp[Ju],λk hk=>aaa enc w q blk off k d (by omega)⟩
theorem BP:∀(xs:List (List UInt8)),Lib.join xs [46]=jn xs
 |[]=>rfl
 |[x]=>by simp[Lib.join,jn]
 |x::y::r=>by
  have ih:=BP (y::r);simp[Lib.join,jn] at ih ⊢;first|exact ih|simp[ih]
theorem Kn(xs:List ByteArray)(w:World)(g:Nat)(hg:w.heap[g]?=AI (Ib (xs.map I).toArray 9 (0,0)))(hn:xs.length<=10)(hz:(jn ((xs.filter λx => !decide (x.size=0)).map bytes)).length<=1000) :
 Calls AT 141 #[sh (AI ⟨g,0,U⟩) xs.length xs.length] w λe w'=>e=Ia (I (mk (jn ((xs.filter λx => !decide (x.size=0)).map bytes))))/\Below g w w':=by
 have eg:∀args w,(callFunc 187 args).run AT w=.ok (.enter 187 args) w:=enters_of func187 (by kernel_rfl) rfl;have mS:g<w.heap.size:=(Ig.1 hg).1;have hH:Holds I w g 0 xs.toArray:=λj hj=>by
  have DY:j<xs.length:=by simpa using hj
  refine⟨?_,?_⟩
  .rw[I6,fi hg]
   simp[DY]
  .simp[Ij,hg]
 have zW:=AnyE.slices_DeleteFunc (P:=AT) (ρ:=Tryz.Nw) Tryz.auD I (λ_=>rfl) (λx:ByteArray=>decide (x.size=0)) 187 #[] eg ⟨#[]⟩ aoQ g 0 xs.length xs.toArray w (λW x _=>Dy x W) (λn os dk x _=>Dy x _) hH (by simp;omega) (by simp);change Calls AT 188 _ _ _ at zW;simp only[List.size_toArray] at zW;have Rj:Hid ((xs.filter λx => !decide (x.size=0)).length<=xs.length):=OJ _ _;generalize hF:(xs.filter λx => !decide (x.size=0))=F at *;have HCE:Hid (∀q j,j<F.length->(putRow I (Ju w q) g 0 (F++List.replicate (xs.length-F.length) (⟨#[]⟩:ByteArray)).toArray).cell? ⟨g,0+j,U⟩=AI (I (F.getD j Ie))):=λq j hj=>by
  have od:((F++List.replicate (xs.length-F.length) (⟨#[]⟩:ByteArray)).toArray).size=xs.toArray.size:=by simp;have:=Rj.out;omega
  have h:=cell?_putRow I (Ju w q) g 0 xs.toArray _ (λj hj=>hH j hj) od j (by rw[od];simp;have:=Rj.out;omega);rw[h];simp[Ip,hj,Js hj]
 have HBP:Hid (∀q,Below g w (putRow I (Ju w q) g 0 (F++List.replicate (xs.length-F.length) (⟨#[]⟩:ByteArray)).toArray)):=λq=>aab _ _ _ _ _ _ _ (By _);have auE:Hid (Calls AT 188 #[sh (AI ⟨g,0,U⟩) xs.length xs.length,JD (.func 187) #[] #[]] w λe w'=>e=Ia (sh (AI ⟨g,0,U⟩) F.length xs.length)/\Hid (∀j,j<F.length->w'.cell? ⟨g,0+j,U⟩=AI (I (F.getD j Ie)))/\Hid (Below g w w')/\g<w'.heap.size):=(show Calls _ _ _ _ _ by
  refine zW.mono ?_;rintro e w' ⟨rfl,q,rfl⟩;exact⟨rfl,HCE.out q,HBP.out q,by rw[size_putRow];exact mS⟩)
 have HJ:Hid (∀W,(∀j,j<F.length->W.cell? ⟨g,0+j,U⟩=AI (I (F.getD j Ie)))->g<W.heap.size->Calls AT 139 #[sh (AI ⟨g,0,U⟩) F.length xs.length,I ⟨#[46]⟩] W λe w'=>e=Ia (I (mk (jn (F.map bytes))))/\Below W.heap.size W w'):=λW h1 h2=>by
  have h3:=Tryz.strings_Join g 0 xs.length F ⟨#[46]⟩ W (λj x hj=>by
   obtain⟨hj1,DY⟩:=I7.1 hj;rw[h1 j hj1];simp[Ip,hj1,DY]) h2 (by have:=Rj.out;omega) Rj.out (by
   rw[show(J9 #[46]).data.toList=[46] from rfl,BP];exact IB hz (by omega))
  rw[show(J9 #[46]).data.toList=[46] from rfl,BP] at h3;exact h3
 clear zW HCE HBP hg hH hz eg;generalize mk (jn (F.map bytes))=R at *;generalize F.length=fl at *;generalize xs.length=n at *;go_enter func141,ntmps141;go_wp2_with (first|(go_at_call 188;refine auE.out.mono ?_;rintro e w1 ⟨rfl,Ko,mY,o8⟩)|(go_at_call 139;refine(HJ.out _ Ko.out o8).mono ?_;rintro e w2 ⟨rfl,mZ⟩));go_ret;exact⟨rfl,mY.out.trans (mZ.mono (Jw o8))⟩
end Go.Proofs.YtipbebleapjcjaaGreatDoor
namespace Go.Proofs.YtipbebleapjcjaaGreatDoor
open Go.RowKit
theorem Wf:∀(xs:List (List UInt8)),(∀x∈xs,x.length<=30)->(jn xs).length<=31*xs.length
 |[],_=>by simp[jn]
 |[x],h=>by have:=h x Jg;simp[jn];omega
 |x::y::r,h=>by
  have h1:=h x Jg;have h2:=Wf (y::r) (λz hz=>h z (List.mem_cons_of_mem _ hz));show(x++46::jn (y::r)).length<=_;simp only[Iq,Je] at h2 ⊢;omega
theorem tI(s:ByteArray)(r:List ByteArray):(((s::r).filter λx => !decide (x.size=0)).map bytes)=opt s++(r.filter λx => !decide (x.size=0)).map bytes:=by
 by_cases h:s.size=0
 .rw[rQ h,List.filter_cons_of_neg (by simp[h])];rfl
 .rw[oW h,List.filter_cons_of_pos (by simp[h])];rfl
theorem aoR(sv tg ce:ByteArray):(([tg,sv,qU,ce,qm].filter λx => !decide (x.size=0)).map bytes)=opt tg++(opt sv++([Aw]++(opt ce++[tT]))):=by
 rw[tI,tI,tI,tI,tI];rfl
theorem aoS(nd ce:ByteArray):(([nd,qV,ce,qm].filter λx => !decide (x.size=0)).map bytes)=opt nd++([Ax]++(opt ce++[tT])):=by
 rw[tI,tI,tI,tI];rfl
theorem Fy{s:ByteArray}(h:s.size<=30):∀x∈opt s,x.length<=30:=λx hx=>by
 unfold opt at hx;split at hx
 .cases hx
 .simp at hx;subst hx;simpa[bytes] using h
theorem BQ(s:ByteArray):(opt s).length<=1:=by unfold opt;split<;>simp
theorem aoT{sv tg ce:ByteArray}(h1:sv.size<=30)(h2:tg.size<=30)(h3:ce.size<=30):(jn (opt tg++(opt sv++([Aw]++(opt ce++[tT]))))).length<=155:=by
 refine IB (Wf _ λx hx=>?_) ?_
 .simp only[JI,JR] at hx
  rcases hx with h|h|h|h|h
  .exact Fy h2 x h
  .exact Fy h1 x h
  .subst h;decide
  .exact Fy h3 x h
  .subst h;decide
 .have a:=BQ tg;have b:=BQ sv;have c:=BQ ce
  simp only[Iq,Jk];omega
theorem aoU{nd ce:ByteArray}(h1:nd.size<=30)(h3:ce.size<=30):(jn (opt nd++([Ax]++(opt ce++[tT])))).length<=155:=by
 refine IB (Wf _ λx hx=>?_) ?_
 .simp only[JI,JR] at hx
  rcases hx with h|h|h|h
  .exact Fy h1 x h
  .subst h;decide
  .exact Fy h3 x h
  .subst h;decide
 .have a:=BQ nd;have c:=BQ ce
  simp only[Iq,Jk];omega
theorem aoV(sv tg ce:ByteArray)(W:World)(g:Nat)(hg:W.heap[g]?=AI (Ib #[I tg,I sv,I qU,I ce,I qm] 9 (0,0)))(h1:sv.size<=30)(h2:tg.size<=30)(h3:ce.size<=30) :
 Calls AT 141 #[sh (AI ⟨g,0,U⟩) 5 5] W λe w'=>e=Ia (I (mk (jn (opt tg++(opt sv++([Aw]++(opt ce++[tT])))))))/\Below g W w':=by
 have h:=Kn [tg,sv,qU,ce,qm] W g hg (by simp) (by rw[aoR];exact IB (aoT h1 h2 h3) (by omega));rw[aoR] at h;exact h
theorem aoW(nd ce:ByteArray)(W:World)(g:Nat)(hg:W.heap[g]?=AI (Ib #[I nd,I qV,I ce,I qm] 9 (0,0)))(h1:nd.size<=30)(h3:ce.size<=30) :
 Calls AT 141 #[sh (AI ⟨g,0,U⟩) 4 4] W λe w'=>e=Ia (I (mk (jn (opt nd++([Ax]++(opt ce++[tT]))))))/\Below g W w':=by
 have h:=Kn [nd,qV,ce,qm] W g hg (by simp) (by rw[aoS];exact IB (aoU h1 h3) (by omega));rw[aoS] at h;exact h
theorem adx{q:Qu}(h:pt q=0):(prt q).size<=155:=by
 obtain⟨_,z1,z2,z3,z4,_⟩:=tX h;unfold prt yE;rw[sJ];split
 .exact aoT (pV z1) (pV z2) (pV z4)
 .exact aoU (pV z3) (pV z4)
theorem ady{P:Prop}(h:P:=by
 have Bv:Hid (S=⟨#[]⟩):=(show S=⟨#[]⟩ by rw[HS.out,if_neg (by rw[HE.out];exact hz)]);have xC:(ce'==0)=false:=by simpa using hz
 go_wp2_with fail;go_ret2;exact⟨BI Bv.out.symm HE.out.symm,XJ.out⟩):P:=h
theorem CR(q:Qu)(w:World)(hq:q.ok) :
 Calls AT 76 #[Iu #[I q.service,I q.tag,I q.node,I q.mM]] w λe w'=>e=Ia (Ir #[I (tN q),O J (rH q)])/\Below w.heap.size w w':=by
 have HCQ:Hid (∀W,Calls AT 140 #[Iu #[I q.service,I q.tag,I q.node,I q.mM]] W λe w'=>e=Ia (O J (pt q))/\Below W.heap.size W w'):=λW=>SK q W hq;by_cases h0:pt q=0
 .obtain⟨_,z1,z2,z3,z4,_⟩:=tX h0
  have y1:=pV z1;have y2:=pV z2;have y3:=pV z3;have y4:=pV z4;have Lv:=adx h0;have HJ5:Hid (∀(W:World) (g:Nat),W.heap[g]?=AI (Ib #[I q.tag,I q.service,I qU,I q.mM,I qm] 9 (0,0))->Calls AT 141 #[sh (AI ⟨g,0,U⟩) 5 5] W λe w'=>e=Ia (I (mk (jn (opt q.tag++(opt q.service++([Aw]++(opt q.mM++[tT])))))))/\Below g W w'):=λW g h=>aoV _ _ _ W g h y1 y2 y4;have HJ4:Hid (∀(W:World) (g:Nat),W.heap[g]?=AI (Ib #[I q.node,I qV,I q.mM,I qm] 9 (0,0))->Calls AT 141 #[sh (AI ⟨g,0,U⟩) 4 4] W λe w'=>e=Ia (I (mk (jn (opt q.node++([Ax]++(opt q.mM++[tT]))))))/\Below g W w'):=λW g h=>aoW _ _ W g h y3 y4;have HDC:Hid (∀W,Calls AT 73 #[I (prt q)] W λe w'=>e=Ia (O J (nS (prt q)))/\Below W.heap.size W w'):=λW=>uV _ W (by unfold Il;omega);have HE:Hid (rH q=nS (prt q)):=if_pos h0;have HS:Hid (tN q=if rH q=0 then prt q else⟨#[]⟩):=rfl;have HP:Hid (prt q=if q.node.size=0 then mk (jn (opt q.tag++(opt q.service++([Aw]++(opt q.mM++[tT]))))) else mk (jn (opt q.node++([Ax]++(opt q.mM++[tT]))))):=(show prt q=_ by unfold prt yE;split<;>rfl);rw[h0] at HCQ;generalize mk (jn (opt q.tag++(opt q.service++([Aw]++(opt q.mM++[tT])))))=N5 at *;generalize mk (jn (opt q.node++([Ax]++(opt q.mM++[tT]))))=N4 at *;generalize tN q=S at *;generalize hce:nS (prt q)=ce' at *;generalize prt q=T at *;generalize rH q=E at *;clear h0 hq hce z1 z2 z3 z4 y1 y2 y3 y4 Lv;obtain⟨sv,tg,nd,ce⟩:=q;simp only at HCQ HJ5 HJ4 HP ⊢;go_enter func76,ntmps76;go_wp2_with fail;refine(HCQ.out _).mono ?_;rintro e w1 ⟨rfl,mO⟩;obtain⟨f0,f1,f2,f3,mY,o8⟩:=Ll mO;clear mO;go_wp2_with fail;refine(HJ5.out _ _ (yD _ rfl)).mono ?_;rintro e w2 ⟨rfl,mZ⟩;have nR:Hid (Below w1.heap.size w1 w2):=((If _ _).alloc (By _) _).trans mZ;have g0:=(nR.out.cell (p:=⟨w.heap.size,0,U⟩) o8).trans f0;have g1:=(nR.out.cell (p:=⟨w.heap.size,1,U⟩) o8).trans f1;have g2:=(nR.out.cell (p:=⟨w.heap.size,2,U⟩) o8).trans f2;have g3:=(nR.out.cell (p:=⟨w.heap.size,3,U⟩) o8).trans f3;have oR:w1.heap.size<=w2.heap.size:=nR.out.size;clear f0 f1 f2 f3 mZ;by_cases hn:nd.size=0
  .have HT:N5=T:=by rw[HP.out,if_pos hn]
   subst HT;have en:=nB hn;subst en;clear hn HP;go_wp2_with fail;refine(HDC.out _).mono ?_;rintro e w4 ⟨rfl,qA⟩;have XJ:Hid (Below w.heap.size w w4):=(mY.out.trans (nR.out.mono (Jw o8))).trans (qA.mono (by omega));clear qA;by_cases hz:ce'=0
   .have Bv:Hid (S=N5):=Lm HS.out (by rw[HE.out];exact hz)
    subst hz;go_wp2_with fail;go_ret2;exact⟨BI Bv.out.symm HE.out.symm,XJ.out⟩
   .exact ady
  .have HT:N4=T:=by rw[HP.out,if_neg hn]
   subst HT;obtain⟨n1,n2⟩:=oC hn;clear hn HP;go_wp2_with fail;refine(HJ4.out _ _ (yD _ rfl)).mono ?_;rintro e w3 ⟨rfl,nC⟩;have oT:Hid (Below w2.heap.size w2 w3):=((If _ _).alloc (By _) _).trans nC;have sy:w2.heap.size<=w3.heap.size:=oT.out.size;clear nC;go_wp2_with fail;refine(HDC.out _).mono ?_;rintro e w4 ⟨rfl,qA⟩;have XJ:Hid (Below w.heap.size w w4):=((mY.out.trans (nR.out.mono (Jw o8))).trans (oT.out.mono (by omega))).trans (qA.mono (by omega));clear qA;by_cases hz:ce'=0
   .have Bv:Hid (S=N4):=Lm HS.out (by rw[HE.out];exact hz)
    subst hz;go_wp2_with fail;go_ret2;exact⟨BI Bv.out.symm HE.out.symm,XJ.out⟩
   .exact ady
 .have HE:Hid (rH q=pt q):=if_neg h0
  have HS:Hid (tN q=⟨#[]⟩):=if_neg (by rw[HE.out];exact h0);rw[HE.out,HS.out];have h1:(pt q==0)=false:=by simpa using h0
  clear HE HS;generalize pt q=r at *;go_enter func76,ntmps76;go_wp2_with (go_at_call 140;refine(HCQ.out _).mono ?_;rintro e w1 ⟨rfl,mO⟩);go_ret2;exact⟨rfl,((If _ _).alloc (By _) _).trans (mO.mono (by simp))⟩
theorem Lw{P:Prop}(h:P:=by
 exact((((If _ _).alloc (By _) _).alloc (by simp) _).alloc (by simp<;>omega) _).alloc (by simp<;>omega) _):P:=h
theorem Nx(here:ByteArray)(ps pm pw:Option Addr)(ns cs nm cm nw cw:Nat)(px py pz ph pq:Int)(name:ByteArray)(t:Int)(s:Sv.nj)(w:World)(hh:here.size<=Il)(hs:s.node.size<=Il) :
 Calls AT 261 #[Iu (tH here (sh ps ns cs) (sh pm nm cm) px py pz ph pq (sh pw nw cw)),Iu #[I name,O J t,O J 0,O J 0,I ⟨#[]⟩,O J 0,I ⟨#[]⟩],Iu #[I s.node,I s.oI,I s.name,I s.tag,O J s.addr,O J s.port,Ic s.ny,O J s.version,Ic s.gone]] w λe w'=>∃r:Rc.Rec,e=Ia (Ir #[Iu #[I r.name,O J r.mQ,O J r.nH,O J r.addr,I r.text,O J r.port,I r.target],O J (qI here t s)])/\(qI here t s=0->r=pG name here t s)/\Below w.heap.size w w':=by
 obtain⟨nd,oI,Fz,tag,ad,po,wQ,wR,wN⟩:=s;simp only at hs;by_cases h1:t=1
 .have HE:Hid (qI here t ⟨nd,oI,Fz,tag,ad,po,wQ,wR,wN⟩=0):=by subst h1;rfl
  have HR:Hid (pG name here t ⟨nd,oI,Fz,tag,ad,po,wQ,wR,wN⟩=⟨name,1,0,ad,⟨#[]⟩,0,⟨#[]⟩⟩):=by subst h1;rfl
  subst h1;go_enter func261,ntmps261;go_wp2_with fail;refine IE (v:=Ir #[Iu #[I name,O J 1,O J 0,O J ad,I ⟨#[]⟩,O J 0,I ⟨#[]⟩],O J 0]) ?_ rfl ⟨⟨name,1,0,ad,⟨#[]⟩,0,⟨#[]⟩⟩,by rw[HE.out],λ_=>HR.out.symm,?_⟩
  .simp[results,Uu,go_sem]
  .exact Lw
 .by_cases h16:t=16
  .have HE:Hid (qI here t ⟨nd,oI,Fz,tag,ad,po,wQ,wR,wN⟩=0):=by subst h16;rfl
   have HR:Hid (pG name here t ⟨nd,oI,Fz,tag,ad,po,wQ,wR,wN⟩=⟨name,16,0,0,oI,0,⟨#[]⟩⟩):=by subst h16;rfl
   subst h16;clear h1;go_enter func261,ntmps261;go_wp2_with fail;refine IE (v:=Ir #[Iu #[I name,O J 16,O J 0,O J 0,I oI,O J 0,I ⟨#[]⟩],O J 0]) ?_ rfl ⟨⟨name,16,0,0,oI,0,⟨#[]⟩⟩,by rw[HE.out],λ_=>HR.out.symm,?_⟩
   .simp[results,Uu,go_sem]
   .exact Lw
  .by_cases h33:t=33
   .have HE:Hid (qI here t ⟨nd,oI,Fz,tag,ad,po,wQ,wR,wN⟩=rH (qN nd here)):=by subst h33;rfl
    have HR:Hid (pG name here t ⟨nd,oI,Fz,tag,ad,po,wQ,wR,wN⟩=⟨name,33,0,0,⟨#[]⟩,po,tN (qN nd here)⟩):=by subst h33;rfl
    have HP:Hid (∀W,Calls _ _ _ _ _):=λW=>CR (qN nd here) W ⟨by show(J9 #[]).size<=Il;decide,by show(J9 #[]).size<=Il;decide,hs,hh⟩;subst h33;clear h1 h16;generalize rH (qN nd here)=PE at *;generalize tN (qN nd here)=PS at *;go_enter func261,ntmps261;go_wp2_with fail;obtain⟨W,hW⟩:∃W,W=(((w.alloc (Ib (tH here (sh ps ns cs) (sh pm nm cm) px py pz ph pq (sh pw nw cw)) 87)).alloc (Ib #[I name,O J 33,O J 0,O J 0,I ⟨#[]⟩,O J 0,I ⟨#[]⟩] 104)).alloc (Ib #[I nd,I oI,I Fz,I tag,O J ad,O J po,Ic wQ,O J wR,Ic wN] 93)).alloc (Ib #[I ⟨#[]⟩,O J 0,O J 0,O J 0,I ⟨#[]⟩,O J 0,I ⟨#[]⟩] 104):=⟨_,rfl⟩;rw[<- hW];have rj:Below w.heap.size w W:=by rw[hW];exact((((If _ _).alloc (By _) _).alloc (by simp) _).alloc (by simp<;>omega) _).alloc (by simp<;>omega) _
    have ou:W.heap[w.heap.size+1]?=AI (Ib #[I name,O J 33,O J 0,O J 0,I ⟨#[]⟩,O J 0,I ⟨#[]⟩] 104 (0,0)):=by
     rw[hW,Iv _ _ _ (by simp<;>omega),Iv _ _ _ (by simp)];have h:=Ii (w.alloc (Ib (tH here (sh ps ns cs) (sh pm nm cm) px py pz ph pq (sh pw nw cw)) 87)) (Ib #[I name,O J 33,O J 0,O J 0,I ⟨#[]⟩,O J 0,I ⟨#[]⟩] 104);simpa using h
    have vR:W.heap[w.heap.size+2]?=AI (Ib #[I nd,I oI,I Fz,I tag,O J ad,O J po,Ic wQ,O J wR,Ic wN] 93 (0,0)):=by
     rw[hW,Iv _ _ _ (by simp)];have h:=Ii ((w.alloc (Ib (tH here (sh ps ns cs) (sh pm nm cm) px py pz ph pq (sh pw nw cw)) 87)).alloc (Ib #[I name,O J 33,O J 0,O J 0,I ⟨#[]⟩,O J 0,I ⟨#[]⟩] 104)) (Ib #[I nd,I oI,I Fz,I tag,O J ad,O J po,Ic wQ,O J wR,Ic wN] 93);simpa using h
    have Cv:W.heap[w.heap.size+3]?=AI (Ib #[I ⟨#[]⟩,O J 0,O J 0,O J 0,I ⟨#[]⟩,O J 0,I ⟨#[]⟩] 104 (0,0)):=by
     rw[hW];have h:=Ii (((w.alloc (Ib (tH here (sh ps ns cs) (sh pm nm cm) px py pz ph pq (sh pw nw cw)) 87)).alloc (Ib #[I name,O J 33,O J 0,O J 0,I ⟨#[]⟩,O J 0,I ⟨#[]⟩] 104)).alloc (Ib #[I nd,I oI,I Fz,I tag,O J ad,O J po,Ic wQ,O J wR,Ic wN] 93)) (Ib #[I ⟨#[]⟩,O J 0,O J 0,O J 0,I ⟨#[]⟩,O J 0,I ⟨#[]⟩] 104);simpa using h
    have CB:w.heap.size+4<=W.heap.size:=by rw[hW];simp
    clear hW;refine(HP.out _).mono ?_;rintro e w1 ⟨rfl,mO⟩;have k1:=(mO.block _ (by omega)).trans ou;have k2:=(mO.block _ (by omega)).trans vR;have k3:=(mO.block _ (by omega)).trans Cv;have HB:Hid _:=rj.trans (mO.mono (by omega));have l0:=fi k1 0;have zl0:w1.frozen? ⟨w.heap.size+1,0,U⟩=false:=by simp[Ij,k1]
    have l1:=fi k1 1;have zl1:w1.frozen? ⟨w.heap.size+1,1,U⟩=false:=by simp[Ij,k1]
    have l2:=fi k1 2;have zl2:w1.frozen? ⟨w.heap.size+1,2,U⟩=false:=by simp[Ij,k1]
    have l3:=fi k1 3;have zl3:w1.frozen? ⟨w.heap.size+1,3,U⟩=false:=by simp[Ij,k1]
    have l4:=fi k1 4;have zl4:w1.frozen? ⟨w.heap.size+1,4,U⟩=false:=by simp[Ij,k1]
    have l5:=fi k1 5;have zl5:w1.frozen? ⟨w.heap.size+1,5,U⟩=false:=by simp[Ij,k1]
    have l6:=fi k1 6;have zl6:w1.frozen? ⟨w.heap.size+1,6,U⟩=false:=by simp[Ij,k1]
    have s0:=fi k2 0;have s1:=fi k2 1;have s2:=fi k2 2;have s3:=fi k2 3;have s4:=fi k2 4;have s5:=fi k2 5;have s6:=fi k2 6;have s7:=fi k2 7;have s8:=fi k2 8;have r0:=fi k3 0;have zr0:w1.frozen? ⟨w.heap.size+3,0,U⟩=false:=by simp[Ij,k3]
    have r1:=fi k3 1;have zr1:w1.frozen? ⟨w.heap.size+3,1,U⟩=false:=by simp[Ij,k3]
    have r2:=fi k3 2;have zr2:w1.frozen? ⟨w.heap.size+3,2,U⟩=false:=by simp[Ij,k3]
    have r3:=fi k3 3;have zr3:w1.frozen? ⟨w.heap.size+3,3,U⟩=false:=by simp[Ij,k3]
    have r4:=fi k3 4;have zr4:w1.frozen? ⟨w.heap.size+3,4,U⟩=false:=by simp[Ij,k3]
    have r5:=fi k3 5;have zr5:w1.frozen? ⟨w.heap.size+3,5,U⟩=false:=by simp[Ij,k3]
    have r6:=fi k3 6;have zr6:w1.frozen? ⟨w.heap.size+3,6,U⟩=false:=by simp[Ij,k3]
    clear rj ou vR Cv mO CB k1 k2 k3;by_cases h0:PE=0
    .subst h0
     go_wp2_with fail;refine IE (v:=Ir #[Iu #[I name,O J 33,O J 0,O J 0,I ⟨#[]⟩,O J po,I PS],O J 0]) ?_ rfl ⟨⟨name,33,0,0,⟨#[]⟩,po,PS⟩,by rw[HE.out],λ_=>HR.out.symm,?_⟩
     .simp[results,Uu,go_sem,r0,r1,r2,r3,r4,r5,r6]
     .exact(((((((((HB.out.setCell (p:=⟨w.heap.size+1,5,U⟩) (by simp<;>omega) _).setCell (p:=⟨w.heap.size+1,6,U⟩) (by simp<;>omega) _).setCell (p:=⟨w.heap.size+1+1+1,0,U⟩) (by simp<;>omega) _).setCell (p:=⟨w.heap.size+1+1+1,1,U⟩) (by simp<;>omega) _).setCell (p:=⟨w.heap.size+1+1+1,2,U⟩) (by simp<;>omega) _).setCell (p:=⟨w.heap.size+1+1+1,3,U⟩) (by simp<;>omega) _).setCell (p:=⟨w.heap.size+1+1+1,4,U⟩) (by simp<;>omega) _).setCell (p:=⟨w.heap.size+1+1+1,5,U⟩) (by simp<;>omega) _).setCell (p:=⟨w.heap.size+1+1+1,6,U⟩) (by simp<;>omega) _)
    .have h0':(PE !=0)=true:=by simpa using h0
     go_wp2_with fail;refine IE (v:=Ir #[Iu #[I ⟨#[]⟩,O J 0,O J 0,O J 0,I ⟨#[]⟩,O J 0,I ⟨#[]⟩],O J PE]) ?_ rfl ⟨⟨⟨#[]⟩,0,0,0,⟨#[]⟩,0,⟨#[]⟩⟩,by rw[HE.out],λh=>absurd (HE.out.symm.trans h) h0,?_⟩
     .simp[results,Uu,go_sem,r0,r1,r2,r3,r4,r5,r6]
     .exact(((((((HB.out.setCell (p:=⟨w.heap.size+1+1+1,0,U⟩) (by simp<;>omega) _).setCell (p:=⟨w.heap.size+1+1+1,1,U⟩) (by simp<;>omega) _).setCell (p:=⟨w.heap.size+1+1+1,2,U⟩) (by simp<;>omega) _).setCell (p:=⟨w.heap.size+1+1+1,3,U⟩) (by simp<;>omega) _).setCell (p:=⟨w.heap.size+1+1+1,4,U⟩) (by simp<;>omega) _).setCell (p:=⟨w.heap.size+1+1+1,5,U⟩) (by simp<;>omega) _).setCell (p:=⟨w.heap.size+1+1+1,6,U⟩) (by simp<;>omega) _)
   .have HE:Hid (qI here t ⟨nd,oI,Fz,tag,ad,po,wQ,wR,wN⟩=0):=by show qI _ _ _=0;unfold qI;rw[if_neg h33]
    have HR:Hid (pG name here t ⟨nd,oI,Fz,tag,ad,po,wQ,wR,wN⟩=⟨name,t,0,0,⟨#[]⟩,0,⟨#[]⟩⟩):=by show pG _ _ _ _=_;unfold pG;rw[if_neg h1,if_neg h16,if_neg h33,if_neg h33]
    have g1:(t==1)=false:=by simpa using h1
    have g2:(t==16)=false:=by simpa using h16
    have g3:(t==33)=false:=by simpa using h33
    go_enter func261,ntmps261;go_wp2_with fail;refine IE (v:=Ir #[Iu #[I name,O J t,O J 0,O J 0,I ⟨#[]⟩,O J 0,I ⟨#[]⟩],O J 0]) ?_ rfl ⟨⟨name,t,0,0,⟨#[]⟩,0,⟨#[]⟩⟩,by rw[HE.out],λ_=>HR.out.symm,?_⟩
    .simp[results,Uu,go_sem]
    .exact Lw
end Go.Proofs.YtipbebleapjcjaaGreatDoor
namespace Go.Proofs.YtipbebleapjcjaaGreatDoor
open Go.ChangeShapes Go.WideShapes Go.ChangeAt Go.RowKit
section
variable {H:Type} {enc:TypeId × Value→H} {w:World} {base:Nat} {spare:Nat→Bool} {held:Bool}
end
section
variable {H:Type} {enc:TypeId × Value→H} {w:World} {base:Nat} {spare:Nat→Bool} {held:Bool}
end
end Go.Proofs.YtipbebleapjcjaaGreatDoor
namespace Go.Proofs.YtipbebleapjcjaaGreatDoor
open Go.RowKit
theorem FA:∀(xs:List Pl) (x:Pl),pR xs=0->pR (xs++[x])=nV x
 |[],x,_=>by
  show(if nV x=0 then pR [] else 3)=nV x;rcases KZ x with h|h<;>simp[h,pR]
 |y::r,x,h=>by
  have hy:nV y=0:=by
   unfold pR at h;by_cases hy:nV y=0
   .exact hy
   .rw[if_neg hy] at h;omega
  have hr:pR r=0:=by unfold pR at h;rwa [if_pos hy] at h
  rw[Jt];unfold pR;rw[if_pos hy];exact FA r x hr
theorem Td(p:Pl)(ms:List Wh.nZ)(k:Nat)(hk:k<ms.length)(h:pR (p::((oN ms).map oJ).take k)=0):pR (p::((oN ms).map oJ).take (k+1))=nV (oJ (yh (ms.getD k Wh.dm))):=by
 have DT:k<((oN ms).map oJ).length:=by simp[yA];exact hk
 rw[Iz DT,<- Jt,FA _ _ h];simp[oN,Ip,Ih hk]
theorem Ny(p:Pl)(ms:List Wh.nZ)(k:Nat)(h:pR (p::((oN ms).map oJ).take k)≠0):pR (p::(oN ms).map oJ)=3/\pR (p::((oN ms).map oJ).take k)=3:=by
 refine⟨?_,(yz _).resolve_left h⟩;rcases yz (p::(oN ms).map oJ) with e|e
 .exfalso
  apply h;rw[rN] at e ⊢;intro j hj;have h2:j<(p::(oN ms).map oJ).length:=by
   have:((p::((oN ms).map oJ).take k)).length<=(p::(oN ms).map oJ).length:=by simp;exact Nat.min_le_right _ _
   omega
  have:=e j h2;rw[show(p::((oN ms).map oJ).take k)=(p::(oN ms).map oJ).take (k+1) from rfl] at hj ⊢;rw[show((p::(oN ms).map oJ).take (k+1)).getD j dp=(p::(oN ms).map oJ).getD j dp by
   have:j<k+1:=by rw[IA] at hj;omega
   simp only[Ip,IQ this]]
  exact this
 .exact e
theorem Lx(w:World):Bi w (sh U 0 0) []:=⟨U,0,rfl,λj=>by simp,.inl rfl⟩
def xk(p:Pl)(ms:List Wh.nZ)(ns:List ByteArray):Int:=if 100<ms.length\/100<ns.length then 2 else pR (p::(oN ms).map oJ)
def yL(p:Pl)(ms:List Wh.nZ)(ns:List ByteArray):List ByteArray:=if xk p ms ns=0 then GD p ms ns else[]
theorem adz(p:Pl)(ms:List Wh.nZ)(v vn:Value)(ns:List ByteArray)(w:World)(hv:Wh.Sl w v ms)(ht:Bi w vn ns) :
 Calls AT 288 #[Iu #[O J p.x,O J p.y,O J p.z,O J p.h,O J p.s],v,vn] w λe w'=>∃v',e=Ia (Ir #[v',O J (xk p ms ns)])/\Bi w' v' (yL p ms ns)/\FrB w.heap.size w' v'/\Below w.heap.size w w':=by
 obtain⟨a1,c1,yq,_,_⟩:=id hv;obtain⟨a2,c2,hvn,_,_⟩:=id ht;by_cases hm:100<ms.length\/100<ns.length
 .have hE:xk p ms ns=2:=by unfold xk;rw[if_pos hm]
  have hL:yL p ms ns=[]:=by unfold yL;rw[hE];rfl
  rw[hE,hL,yq,hvn];refine(Xp p a1 a2 _ _ c1 c2 w hm).mono ?_;rintro e w' ⟨rfl,hb⟩;exact⟨_,rfl,Lx _,(λg hg=>by cases hg),hb⟩
 .have hE:xk p ms ns=pR (p::(oN ms).map oJ):=by unfold xk;rw[if_neg hm]
  rcases yz (p::(oN ms).map oJ) with h0|h3
  .have hL:yL p ms ns=GD p ms ns:=by unfold yL;rw[hE,h0];rfl
   rw[hE,hL,h0];exact XO p ms v vn ns w hv ht (by omega) (by omega) h0
  .have hL:yL p ms ns=[]:=by unfold yL;rw[hE,h3];rfl
   rw[hE,hL,h3];by_cases hz:ms.length=0
   .have vP:=List.length_eq_zero_iff.1 hz
    subst vP;rw[yq,hvn];refine(Xs p a1 a2 ns.length c1 c2 w (by omega) h3).mono ?_;rintro e w' ⟨rfl,hb⟩;exact⟨_,rfl,Lx _,(λg hg=>by cases hg),hb⟩
   .rw[hvn]
    refine(Xq p ms v a2 ns.length c2 w hv (by omega) (by omega) (by omega) h3).mono ?_;rintro e w' ⟨rfl,hb⟩;exact⟨_,rfl,Lx _,(λg hg=>by cases hg),hb⟩
theorem anh(p:Pl)(ms:List Wh.nZ)(ns:List ByteArray):(yL p ms ns).length<=1000:=by
 unfold yL;by_cases h:xk p ms ns=0
 .rw[if_pos h]
  unfold xk at h;by_cases hm:100<ms.length\/100<ns.length
  .rw[if_pos hm] at h;omega
  .have h2:(GD p ms ns).length=ns.length:=by
    unfold GD;have:=So.AV (Dp (dV (Dd (qR p) ms ms.length))) ns (MX _) ns.length (By _)
    rwa [JU] at this
   omega
 .rw[if_neg h];simp
theorem Te{p:Pl}{ms:List Wh.nZ}{ns:List ByteArray}(h:xk p ms ns=0):ms.length<=100/\ns.length<=100/\zj p/\∀j,j<ms.length->zj (oJ (yh (ms.getD j Wh.dm))):=by
 unfold xk at h;by_cases hm:100<ms.length\/100<ns.length
 .rw[if_pos hm] at h;omega
 .rw[if_neg hm] at h
  have hz:=(rN _).1 h;refine⟨by omega,by omega,(zk p).1 (by have:=hz 0 (by simp);simpa using this),λj hj=>?_⟩;have:=hz (j+1) (by simp[yA];exact hj);refine(zk _).1 ?_;simpa[Ip,oN,Ih hj] using this
theorem Nz{p:Pl}{wh:List Wh.nZ}(h:20<wh.length):Km p wh=2:=if_pos h
theorem Ev{p:Pl}{wh:List Wh.nZ}(h:¬ 20<wh.length):Km p wh=pR (p::(oN wh).map oJ):=if_neg h
theorem Tf(p:Pl):nV p=0\/nV p=3:=by unfold nV;split;exact .inl rfl;exact .inr rfl
theorem adA{p:Pl}{wh:List Wh.nZ}(h:¬ 20<wh.length)(hp:nV p≠0):Km p wh=nV p:=by
 rw[Ev h,zr (k:=0) (by simp) (by simpa using hp)];rcases Tf p with h|h
 .exact absurd h hp
 .exact h.symm
theorem NA(wh:List Wh.nZ)(j:Nat)(hj:j<wh.length):((oN wh).map oJ).getD j dp=oJ (yh (wh.getD j Wh.dm)):=by
 simp[oN,Ip,Ih hj]
theorem ak9{p:Pl}{wh:List Wh.nZ}{k:Nat}(h:¬ 20<wh.length)(hk:k<wh.length)(hp:nV (oJ (yh (wh.getD k Wh.dm)))≠0):Km p wh=nV (oJ (yh (wh.getD k Wh.dm))):=by
 rw[Ev h,zr (k:=k+1) (by simp[oN];omega) (by rw[JC,NA wh k hk];exact hp)];rcases Tf (oJ (yh (wh.getD k Wh.dm))) with h|h
 .exact absurd h hp
 .exact h.symm
theorem adB{p:Pl}{wh:List Wh.nZ}(h:¬ 20<wh.length)(hp:nV p=0)(hw:∀j,j<wh.length->nV (oJ (yh (wh.getD j Wh.dm)))=0):Km p wh=0:=by
 rw[Ev h,rN];intro j hj;cases j with
 |zero=>simpa using hp
 |succ j=>
  have DY:j<wh.length:=by simpa[oN] using hj
  rw[JC,NA wh j DY];exact hw j DY
theorem NB(here:ByteArray)(ps pm pw:Option Addr)(ns cs nm cm nw cw:Nat)(px py pz ph pq:Int)(wh:List Wh.nZ)(w:World)(hw:Wh.Sl w (sh pw nw cw) wh) :
 Calls AT 79 #[Iu (tH here (sh ps ns cs) (sh pm nm cm) px py pz ph pq (sh pw nw cw))] w λe w'=>e=Ia (O J (Km ⟨px,py,pz,ph,pq⟩ wh))/\Below w.heap.size w w':=by
 obtain⟨pa',ca',he,_,ha⟩:=hw;simp only[IM] at he;obtain⟨rfl,hN,rfl⟩:=he;have HA:Hid _:=ha;have HN:Hid _:=hN.symm;have H1:Hid (20<nw->Km ⟨px,py,pz,ph,pq⟩ wh=2):=λh=>Nz (by rw[HN.out];exact h);have H2:Hid (¬ 20<nw->nV ⟨px,py,pz,ph,pq⟩≠0->Km ⟨px,py,pz,ph,pq⟩ wh=nV ⟨px,py,pz,ph,pq⟩):=λh=>adA (by rw[HN.out];exact h);have H3:Hid (¬ 20<nw->∀k,k<nw->nV (oJ (yh (wh.getD k Wh.dm)))≠0->Km ⟨px,py,pz,ph,pq⟩ wh=nV (oJ (yh (wh.getD k Wh.dm)))):=λh k hk=>ak9 (by rw[HN.out];exact h) (by rw[HN.out];exact hk);have H4:Hid (¬ 20<nw->nV ⟨px,py,pz,ph,pq⟩=0->(∀j,j<nw->nV (oJ (yh (wh.getD j Wh.dm)))=0)->Km ⟨px,py,pz,ph,pq⟩ wh=0):=λh h2 h3=>adB (by rw[HN.out];exact h) h2 (λj hj=>h3 j (by rw[<- HN.out];exact hj));have HC:Hid (∀W,Calls _ _ _ _ _):=λW=>vq ⟨px,py,pz,ph,pq⟩ W;clear ha hN;generalize Km ⟨px,py,pz,ph,pq⟩ wh=res at *;generalize nV ⟨px,py,pz,ph,pq⟩=cp at *;by_cases hm:20<nw
 .have HR:Hid _:=H1.out hm
  clear H1 H2 H3 H4;go_enter func79,ntmps79;go_wp2_with fail;go_ret;exact⟨mN HR.out.symm,(If _ _).alloc (By _) _⟩
 .have H2':Hid _:=H2.out hm
  have H3':Hid _:=H3.out hm;have H4':Hid _:=H4.out hm;clear H1 H2 H3 H4;go_enter func79,ntmps79;go_wp2_with fail;have rG:Below w.heap.size w (w.alloc (Ib (tH here (sh ps ns cs) (sh pm nm cm) px py pz ph pq (sh pw nw cw)) 87)):=(If _ _).alloc (By _) _;refine(HC.out _).mono ?_;rintro e w1 ⟨rfl,mO⟩;have mY:Hid (Below w.heap.size w w1):=rG.trans (mO.mono (by simp));have hg:w1.heap[w.heap.size]?=AI (Ib (tH here (sh ps ns cs) (sh pm nm cm) px py pz ph pq (sh pw nw cw)) 87 (0,0)):=(mO.block _ (by simp)).trans (Ii w _);have d8:w1.cell? ⟨w.heap.size,8,U⟩=AI (sh pw nw cw):=fi hg 8;clear rG mO hg;by_cases h0:cp=0
  .have H5:Hid ((∀j,j<nw->nV (oJ (yh (wh.getD j Wh.dm)))=0)->res=0):=H4'.out h0
   clear H2' H4';subst h0;go_wp2_with fail;go_loopw [20] (λi wr=>∃k:Nat,k<=nw/\i=O J k/\Hid (Below w.heap.size w wr)/\Hid (∀j,j<k->nV (oJ (yh (wh.getD j Wh.dm)))=0)) (λi _=>nw-(intOf i).toNat)
   case atStart=>exact⟨0,Iw _,rfl,mY,λj hj=>absurd hj (IV _)⟩
   case round=>
    obtain⟨k,hk,rfl,HB,HZ⟩:=hrel;have od:=HB.out.size;by_cases mS:k<nw
    .obtain⟨b,off,tr,o8,hr⟩:∃b off,pw=AI ⟨b,off,U⟩/\b<w.heap.size/\Wh.Row w b off wh:=by
      rcases HA.out with h|h
      .have:=HN.out;rw[h] at this;simp at this;omega
      .exact h
     subst tr;obtain⟨c0,c1,c2,c3,c4,c5⟩:=hr.later HB.out o8 k (by rw[HN.out];exact mS);clear hr;have o6:Hid (nV (oJ (yh (wh.getD k Wh.dm)))=0->∀j,j<k+1->nV (oJ (yh (wh.getD j Wh.dm)))=0):=λh j hj=>by
      by_cases e:j=k
      .subst e;exact h
      .exact HZ.out j (by omega)
     have HX:Hid (nV (oJ (yh (wh.getD k Wh.dm)))≠0->res=nV (oJ (yh (wh.getD k Wh.dm)))):=H3'.out k mS;generalize wh.getD k Wh.dm=m at *;obtain⟨nd,x,y,z,h,s⟩:=m;simp only at c0 c1 c2 c3 c4 c5;have HCW:Hid (∀W,Calls AT 64 #[Iu #[O J x,O J y,O J z,O J h,O J s]] W λe w'=>e=Ia (O J (nV (oJ (yh ⟨nd,x,y,z,h,s⟩))))/\Below W.heap.size W w'):=λW=>vq ⟨x,y,z,h,s⟩ W;generalize nV (oJ (yh ⟨nd,x,y,z,h,s⟩))=cw2 at *;go_wp2_with fail;refine(HCW.out _).mono ?_;rintro e w2 ⟨rfl,mZ⟩;have nR:Hid (Below w.heap.size w w2):=(HB.out.alloc od _).trans (mZ.mono (by simp<;>omega));clear mZ;by_cases hz:cw2=0
     .have tu:=o6.out hz
      have HZ4:Hid _:=tu;clear tu o6 HX;subst hz;go_wp2_with fail;go_roundw
      case rel=>exact⟨k+1,by omega,by go_num,nR,HZ4⟩
      case measure=>simp[intOf];omega
     .have HR:Hid (res=cw2):=HX.out hz
      have hz':(cw2 !=0)=true:=by simpa using hz
      clear o6 HX;go_wp2_with fail;go_ret;exact⟨mN HR.out.symm,nR.out⟩
    .have HR:Hid _:=H5.out (λj hj=>HZ.out j (by omega))
     go_wp2_with fail;go_ret;exact⟨mN HR.out.symm,HB.out⟩
  .have HR:Hid _:=H2'.out h0
   have h0':(cp !=0)=true:=by simpa using h0
   go_wp2_with fail;go_ret;exact⟨mN HR.out.symm,mY.out⟩
theorem Tg(here:ByteArray)(ps pm pw:Option Addr)(ns cs nm cm nw cw:Nat)(px py pz ph pq:Int)(sv:List Sv.nj)(ms:List Mem)(wh:List Wh.nZ)(w:World)(hh:here.size<=Il)(hs:Sv.Sl w (sh ps ns cs) sv)(hm:Sl w (sh pm nm cm) ms)(hw:Wh.Sl w (sh pw nw cw) wh) :
 Calls AT 34 #[Iu (tH here (sh ps ns cs) (sh pm nm cm) px py pz ph pq (sh pw nw cw))] w λe w'=>e=Ia (O J (Ab here sv ms ⟨px,py,pz,ph,pq⟩ wh))/\Below w.heap.size w w':=by
 have HS:Hid (Sv.Sl _ _ _):=hs;have HM:Hid (Sl _ _ _):=hm;have HW:Hid (Wh.Sl _ _ _):=hw;have HK:Hid (Ab here sv ms ⟨px,py,pz,ph,pq⟩ wh=if mT here=true then(if Sv.nu sv=0 then(if nu ms=0 then Km ⟨px,py,pz,ph,pq⟩ wh else nu ms) else Sv.nu sv) else 1):=rfl;have Ko:Hid (∀W v,Sv.Sl W v sv->Calls _ _ _ _ _):=λW v h=>Sv.nU sv v W h;have HC2:Hid (∀W v,Sl W v ms->Calls _ _ _ _ _):=λW v h=>nU ms v W h;have HC3:Hid (∀W,Wh.Sl W (sh pw nw cw) wh->Calls _ _ _ _ _):=λW h=>NB here ps pm pw ns cs nm cm nw cw px py pz ph pq wh W h;clear hs hm hw;generalize Ab here sv ms ⟨px,py,pz,ph,pq⟩ wh=res at *;generalize Km ⟨px,py,pz,ph,pq⟩ wh=pe at *;generalize Sv.nu sv=ce at *;generalize nu ms=me at *;have nE:∀W,Calls AT 78 #[I here] W λe w'=>e=Ia (Ic (mT here))/\w'=W:=λW=>nL here W hh;rcases hl:mT here with _|_
 .have HR:Hid (res=1):=HK.out.trans (by rw[hl];rfl)
  rw[hl] at nE;go_enter func34,ntmps34;go_wp2_with fail;refine(nE _).mono ?_;rintro e w' ⟨rfl,rfl⟩;go_wp2_with fail;go_ret;exact⟨mN HR.out.symm,(If _ _).alloc (By _) _⟩
 .have vN:Hid (res=if ce=0 then(if me=0 then pe else me) else ce):=HK.out.trans (by rw[hl];rfl)
  rw[hl] at nE;clear HK;go_enter func34,ntmps34;go_wp2_with fail;refine(nE _).mono ?_;rintro e w' ⟨rfl,rfl⟩;have rG:Below w.heap.size w (w.alloc (Ib (tH here (sh ps ns cs) (sh pm nm cm) px py pz ph pq (sh pw nw cw)) 87)):=(If _ _).alloc (By _) _;go_wp2_with fail;refine(Ko.out _ _ (HS.out.below rG)).mono ?_;rintro e w1 ⟨rfl,mO⟩;have mY:Hid _:=rG.trans (mO.mono (by simp));have hg:=(mO.block _ (by simp)).trans (Ii w _);have d0:=fi hg 0;have d1:=fi hg 1;have d2:=fi hg 2;have d3:=fi hg 3;have d4:=fi hg 4;have d5:=fi hg 5;have d6:=fi hg 6;have d7:=fi hg 7;have d8:=fi hg 8;have vF:Hid _:=hg;have Th:=(Ig.1 hg).1;clear rG mO hg;by_cases h1:ce=0
  .have Ac:Hid _:=vN.out.trans (if_pos h1)
   clear vN;subst h1;go_wp2_with fail;refine(HC2.out _ _ (HM.out.below mY.out)).mono ?_;rintro e w2 ⟨rfl,mZ⟩;have nR:Hid _:=mY.out.trans (mZ.mono (by omega));have hg:=(mZ.block _ (by omega)).trans vF.out;clear d0 d1 d2 d3 d4 d5 d6 d7 d8;have d0:=fi hg 0;have d1:=fi hg 1;have d2:=fi hg 2;have d3:=fi hg 3;have d4:=fi hg 4;have d5:=fi hg 5;have d6:=fi hg 6;have d7:=fi hg 7;have d8:=fi hg 8;clear mZ hg vF;by_cases h2:me=0
   .have Co:Hid _:=Ac.out.trans (if_pos h2)
    subst h2;clear Ac;go_wp2_with fail;refine(HC3.out _ (HW.out.below nR.out)).mono ?_;rintro e w3 ⟨rfl,nC⟩;have oT:Hid _:=nR.out.trans (nC.mono nR.out.size);clear nC;go_wp2_with fail;go_ret;exact⟨mN Co.out.symm,oT.out⟩
   .have HR:Hid _:=Ac.out.trans (if_neg h2)
    have DR:(me !=0)=true:=by simpa using h2
    go_wp2_with fail;go_ret;exact⟨mN HR.out.symm,nR.out⟩
  .have HR:Hid _:=vN.out.trans (if_neg h1)
   have RI:(ce !=0)=true:=by simpa using h1
   go_wp2_with fail;go_ret;exact⟨mN HR.out.symm,mY.out⟩
def asE(q:Qu)(t:Int):Int:=if pt q=0 then(if qS t=true then 0 else 7) else pt q
def AtF(ms:List Mem)(t:ByteArray)(r:Int):Prop:=(∃k:Nat,k<ms.length/\r=k/\oX ms t=AI (ms.getD k dm))\/(r = -1/\oX ms t=U)
theorem CS(ms:List Mem)(v:Value)(t:ByteArray)(w:World)(hv:Sl w v ms)(hn:ms.length<=1000) :
 ni 18 #[v,I t] w λe w'=>∃r:Int,e=Ia (O J r)/\Hid (AtF ms t r)/\w'=w:=by
 obtain⟨pa,ca,rfl,_,ha⟩:=hv;have HA:Hid _:=ha;clear ha;generalize Ap:ms.length=n at *;have HN:Hid _:=Ap;clear Ap;go_enter func18,ntmps18;go_wp2_with fail;go_loop [5] (λi=>∃k:Nat,k<=n/\i=O J k/\Hid (∀j,j<k->(ms.getD j dm).name≠t)) (λi=>n-(intOf i).toNat)
 case atStart=>exact⟨0,Iw _,rfl,λj h=>absurd h (IV _)⟩
 case round=>
  obtain⟨k,hk,rfl,hz⟩:=hrel;by_cases mS:k<n
  .obtain⟨b1,o1,tr,o8,wT⟩:∃b off,pa=AI ⟨b,off,U⟩/\b<w.heap.size/\Row w b off ms:=by
    rcases HA.out with h|h
    .have:=HN.out;rw[h] at this;simp at this;omega
    .exact h
   subst tr;obtain⟨c0,_,_,_,_⟩:=wT k (by rw[HN.out];exact mS);clear wT;have HF:Hid ((ms.getD k dm).name=t->AtF ms t (k:Int)):=λh=>.inl ⟨k,by rw[HN.out];exact mS,rfl,zF (by rw[HN.out];exact mS) hz.out h⟩;have HZ:Hid ((ms.getD k dm).name≠t->∀j,j<k+1->(ms.getD j dm).name≠t):=λh j hj=>by
    rcases IL.1 hj with h2|rfl
    .exact hz.out j h2
    .exact h
   generalize(ms.getD k dm).name=nm at *;by_cases he:nm=t
   .subst he
    have zy:Hid (AtF _ _ _):=HF.out rfl;clear HF HZ;go_wp2_with fail;go_ret;exact⟨k,rfl,zy,rfl⟩
   .obtain⟨h1,h2⟩:=o0 he
    have HE:Hid _:=he;clear he;go_wp2_with fail;go_round
    case rel=>exact⟨k+1,by omega,by go_num,HZ.out HE.out⟩
    case measure=>simp[intOf];omega
  .go_wp2_with fail
   go_ret;exact⟨-1,rfl,.inr ⟨rfl,zE λj hj=>hz.out j (by have:=HN.out;omega)⟩,rfl⟩
end Go.Proofs.YtipbebleapjcjaaGreatDoor
namespace Go.Proofs.YtipbebleapjcjaaGreatDoor
open Go.RowKit Go.Shelf Go.Lib Go.Sort
def ud(x:ByteArray):Bool:=decide (x=qU)||decide (x=qV)
theorem Ti(x:ByteArray)(W:World):FnGives AT 137 #[] #[I x] (Ic (ud x)) W:=by
 show Calls AT 137 #[I x] W _;by_cases h1:x=qU
 .subst h1
  go_enter func137,ntmps137;go_wp2_with fail;go_ret;exact⟨mW (by simp[ud]),0,rfl⟩
 .obtain⟨a1,a2⟩:=Lj h1
  by_cases h2:x=qV
  .subst h2
   go_enter func137,ntmps137;go_wp2_with fail;go_ret;exact⟨mW (by simp[ud]),0,rfl⟩
  .obtain⟨b1,b2⟩:=Es h2
   have HF:Hid (ud x=false):=(show ud x=false by simp[ud,h1,h2]);go_enter func137,ntmps137;go_wp2_with fail;go_ret;exact⟨mW HF.out.symm,0,rfl⟩
def zH(L:List ByteArray):Int:=Lib.idxBy (λ_ y=>ud y) L default
def jB(L:List ByteArray):ByteArray:=mk (jn (L.map bytes))
def qE:Qu:=⟨⟨#[]⟩,⟨#[]⟩,⟨#[]⟩,⟨#[]⟩⟩
def GR(L:List ByteArray):Qu:=
 if zH L<1 then qE
 else if L.getD (zH L).toNat Ie=qV then⟨⟨#[]⟩,⟨#[]⟩,L.getD ((zH L).toNat-1) Ie,jB (L.drop ((zH L).toNat+1))⟩
 else⟨L.getD ((zH L).toNat-1) Ie,jB (L.take ((zH L).toNat-1)),⟨#[]⟩,jB (L.drop ((zH L).toNat+1))⟩
theorem NC:∀(L:List ByteArray) (n:Nat),(O5 (λ_ y=>ud y) (default:ByteArray) L n = -1/\∀j,j<L.length->ud (L.getD j Ie)=false)\/∃i,i<L.length/\O5 (λ_ y=>ud y) (default:ByteArray) L n=((n+i:Nat):Int)/\ud (L.getD i Ie)=true/\∀j,j<i->ud (L.getD j Ie)=false
 |[],n=>.inl ⟨rfl,λj hj=>absurd hj (IV _)⟩
 |x::r,n=>by
  unfold O5;by_cases h:ud x=true
  .rw[if_pos h]
   exact .inr ⟨0,by simp,rfl,h,λj hj=>absurd hj (IV _)⟩
  .rw[if_neg h]
   have hf:ud x=false:=by simpa using h
   rcases NC r (n+1) with⟨h1,h2⟩|⟨i,h1,h2,h3,h4⟩
   .refine .inl ⟨h1,λj hj=>?_⟩
    cases j with
    |zero=>exact hf
    |succ j=>exact h2 j (by simpa using hj)
   .refine .inr ⟨i+1,by simpa using h1,by rw[h2];congr 1;omega,h3,λj hj=>?_⟩
    cases j with
    |zero=>exact hf
    |succ j=>exact h4 j (by omega)
theorem adC(L:List ByteArray):(zH L = -1/\∀j,j<L.length->ud (L.getD j Ie)=false)\/∃i:Nat,i<L.length/\zH L=(i:Int)/\ud (L.getD i Ie)=true/\∀j,j<i->ud (L.getD j Ie)=false:=by
 have h:=NC L 0;rcases h with h|⟨i,h1,h2,h3,h4⟩
 .exact .inl h
 .exact .inr ⟨i,h1,by rw[show zH L=O5 (λ_ y=>ud y) (default:ByteArray) L 0 from rfl,h2,I6],h3,h4⟩
theorem Kr(L:List ByteArray)(g o c:Nat)(W:World)(hc:∀j,j<L.length->W.cell? ⟨g,o+j,U⟩=AI (I (L.getD j Ie)))(hg:g<W.heap.size)(hL:L.length<=c)(hn:L.length<=1000)(hz:(jn (L.map bytes)).length<=100000) :
 Calls AT 139 #[sh (AI ⟨g,o,U⟩) L.length c,I ⟨#[46]⟩] W λe w'=>e=Ia (I (jB L))/\Below W.heap.size W w':=by
 have h3:=Tryz.strings_Join g o c L ⟨#[46]⟩ W (λj x hj=>by
  obtain⟨hj1,DY⟩:=I7.1 hj;rw[hc j hj1];simp[Ip,hj1,DY]) hg (by omega) hL (by
  rw[show(J9 #[46]).data.toList=[46] from rfl,BP];exact IB hz (by omega))
 rw[show(J9 #[46]).data.toList=[46] from rfl,BP] at h3;exact h3
theorem FB{W:World}{o:Obj}{b k:Nat}(h:b<W.heap.size):(W.alloc o).cell? ⟨b,k,U⟩=W.cell? ⟨b,k,U⟩:=Oc (w:=W) _ b _ h
theorem Ks{w w1:World}{a b c d:Value}{t:TypeId}(h:Below (w.alloc (Ib #[a,b,c,d] t)).heap.size (w.alloc (Ib #[a,b,c,d] t)) w1) :
 w1.heap[w.heap.size]?=AI (Ib #[a,b,c,d] t (0,0))/\∀j,w1.frozen? ⟨w.heap.size,j,U⟩=false:=by
 have hg:w1.heap[w.heap.size]?=AI (Ib #[a,b,c,d] t (0,0)):=(h.block _ (by simp)).trans (Ii w _);exact⟨hg,λj=>by simp[Ij,hg]⟩
theorem adD{P:Prop}(h:P:=by
 clear HG HJD HJT HC;go_enter func75,ntmps75;go_wp2_with fail;refine(HIX.out _ ((If _ _).alloc (By _) _)).mono ?_;rintro e w1 ⟨rfl,mO⟩;obtain⟨f0,f1,f2,f3,mY,o8⟩:=Ll mO;obtain⟨rX,ux⟩:=Ks mO;have z0:=ux 0;have z1:=ux 1;have z2:=ux 2;have z3:=ux 3;clear mO ux rX;go_wp2_with fail;exact IE (v:=Iu #[I ⟨#[]⟩,I ⟨#[]⟩,I ⟨#[]⟩,I ⟨#[]⟩]) (by simp[results,results75,go_sem,f0,f1,f2,f3]) rfl ⟨by rw[Cl.out];rfl,(((mY.out.setCell (p:=⟨w.heap.size,0,U⟩) (By _) _).setCell (p:=⟨w.heap.size,1,U⟩) (By _) _).setCell (p:=⟨w.heap.size,2,U⟩) (By _) _).setCell (p:=⟨w.heap.size,3,U⟩) (By _) _⟩):P:=h
theorem aac(L:List ByteArray)(g c:Nat)(w:World)(hc:∀j,j<L.length->w.cell? ⟨g,0+j,U⟩=AI (I (L.getD j Ie)))(hg:g<w.heap.size)(hL:L.length<c)(hn:L.length<=100)(hz:∀L',(∃a b,L'=(L.drop a).take b)->(jn (L'.map bytes)).length<=100000) :
 Calls AT 75 #[sh (AI ⟨g,0,U⟩) L.length c] w λe w'=>e=Ia (Iu #[I (GR L).service,I (GR L).tag,I (GR L).node,I (GR L).mM])/\Below w.heap.size w w':=by
 have eg:∀args w,(callFunc 137 args).run AT w=.ok (.enter 137 args) w:=enters_of func137 (by kernel_rfl) rfl;have HIX:Hid (∀W,Below w.heap.size w W->Calls AT 138 #[sh (AI ⟨g,0,U⟩) L.length c,JD (.func 137) #[] #[]] W λe w'=>e=Ia (O J (zH L))/\Below W.heap.size W w'):=λW hW=>by
  have h:=AnyE.slices_IndexFunc (P:=AT) (ρ:=Tryz.We) Tryz.ixS I ud 137 #[] eg g 0 L.length c L W (λW x _=>Ti x W) (By _) (by omega) (λj hj=>by
   rw[(hW.cell (p:=⟨g,0+j,U⟩) hg).trans (hc j hj)];simp[Ip,getElem!_pos,hj])
  rw[JU] at h;refine h.mono ?_;rintro e w' ⟨rfl,q,rfl⟩;exact⟨rfl,wG (If _ _) _⟩
 have HC:Hid (∀W,Below w.heap.size w W->∀j,j<L.length->W.cell? ⟨g,0+j,U⟩=AI (I (L.getD j Ie))):=λW hW j hj=>(hW.cell (p:=⟨g,0+j,U⟩) hg).trans (hc j hj);have HG:Hid (GR L=if zH L<1 then qE
 else if L.getD (zH L).toNat Ie=qV then⟨⟨#[]⟩,⟨#[]⟩,L.getD ((zH L).toNat-1) Ie,jB (L.drop ((zH L).toNat+1))⟩
 else⟨L.getD ((zH L).toNat-1) Ie,jB (L.take ((zH L).toNat-1)),⟨#[]⟩,jB (L.drop ((zH L).toNat+1))⟩):=rfl
 have HJD:Hid (∀i W,i<L.length->Below w.heap.size w W->Calls AT 139 #[sh (AI ⟨g,i+1,U⟩) (L.length-(i+1)) (c-(i+1)),I ⟨#[46]⟩] W λe w'=>e=Ia (I (jB (L.drop (i+1))))/\Below W.heap.size W w'):=λi W hi hW=>by
  have h:=Kr (L.drop (i+1)) g (i+1) (c-(i+1)) W (λj hj=>by
   rw[I9] at hj;have h2:=HC.out W hW (i+1+j) (by omega);rw[I6] at h2;rw[h2];simp[Ip]) (Ix hg hW.size) (by rw[I9];omega) (by rw[I9];omega) (hz _ ⟨i+1,L.length,by rw[IJ (by rw[I9];omega)]⟩)
  rw[I9] at h;exact h
 have HJT:Hid (∀i W,i<=L.length->Below w.heap.size w W->Calls AT 139 #[sh (AI ⟨g,0,U⟩) i c,I ⟨#[46]⟩] W λe w'=>e=Ia (I (jB (L.take i)))/\Below W.heap.size W w'):=λi W hi hW=>by
  have h:=Kr (L.take i) g 0 c W (λj hj=>by
   rw[IA] at hj;rw[HC.out W hW j (by omega)];simp[Ip,IQ (show j<i by omega)]) (Ix hg hW.size) (by rw[IA];omega) (by rw[IA];omega) (hz _ ⟨0,i,by simp⟩)
  rw[IA,Nat.min_eq_left hi] at h;exact h
 have hws:=adC L;clear eg hc hz;generalize GR L=G at *;generalize zH L=at' at *;rcases hws with⟨hw,_⟩|⟨i,hi,hw,hwd,_⟩
 .subst hw
  have Cl:Hid (G=qE):=HG.out;exact adD
 .subst hw
  have e1:((i:Int)).toNat=i:=by omega
  by_cases h1:(i:Int)<1
  .have Cl:Hid (G=qE):=(show G=qE by rw[HG.out,if_pos h1])
   have qg:i=0:=by omega
   subst qg;exact adD
  .have hh:=HG.out
   rw[if_neg h1,e1] at hh;go_enter func75,ntmps75;go_wp2_with fail;refine(HIX.out _ ((If _ _).alloc (By _) _)).mono ?_;rintro e w1 ⟨rfl,mO⟩;obtain⟨f0,f1,f2,f3,mY,o8⟩:=Ll mO;obtain⟨rX,ux⟩:=Ks mO;have z0:=ux 0;have z1:=ux 1;have z2:=ux 2;have z3:=ux 3;clear mO ux rX;go_wp2_with fail;refine(HJD.out i _ hi mY.out).mono ?_;rintro e w2 ⟨rfl,mZ⟩;have nR:Hid (Below w.heap.size w w2):=mY.out.trans (mZ.mono (Jw o8));have uK:Hid (Below w1.heap.size w1 w2):=mZ;have g0:=(mZ.cell (p:=⟨w.heap.size,0,U⟩) o8).trans f0;have g1:=(mZ.cell (p:=⟨w.heap.size,1,U⟩) o8).trans f1;have g2:=(mZ.cell (p:=⟨w.heap.size,2,U⟩) o8).trans f2;have g3:=(mZ.cell (p:=⟨w.heap.size,3,U⟩) o8).trans f3;have y0:=(mZ.frozen (p:=⟨w.heap.size,0,U⟩) o8).trans z0;have y1:=(mZ.frozen (p:=⟨w.heap.size,1,U⟩) o8).trans z1;have y2:=(mZ.frozen (p:=⟨w.heap.size,2,U⟩) o8).trans z2;have y3:=(mZ.frozen (p:=⟨w.heap.size,3,U⟩) o8).trans z3;have ci:=HC.out w2 nR.out i hi;have cm:=HC.out w2 nR.out (i-1) (by omega);rw[I6] at ci cm;have vR:g<w2.heap.size:=Ix hg nR.out.size;have oR:w.heap.size<w2.heap.size:=Ix o8 uK.out.size;have e0:g≠w2.heap.size:=by omega
   have e2:w.heap.size≠w2.heap.size:=by omega
   have hwm:IntKind.i64.wrap ((i:Int)-1)=((i-1:Nat):Int):=by rw[IW];omega
   have him:((i-1:Nat):Int)<(L.length:Int):=by omega
   have aoY:(0:Int)<=((i-1:Nat):Int):=by omega
   have hic:((i-1:Nat):Int)<=(c:Int):=by omega
   have HJ2:Hid (∀W,Below w.heap.size w W->Calls AT 139 #[sh (AI ⟨g,0,U⟩) (i-1) c,I ⟨#[46]⟩] W λe w'=>e=Ia (I (jB (L.take (i-1))))/\Below W.heap.size W w'):=λW hW=>HJT.out (i-1) W (by omega) hW;clear f0 f1 f2 f3 z0 z1 z2 z3 mZ HC HJD HJT HG;have HGG:Hid (G=if L.getD i Ie=qV then⟨⟨#[]⟩,⟨#[]⟩,L.getD (i-1) Ie,jB (L.drop (i+1))⟩ else⟨L.getD (i-1) Ie,jB (L.take (i-1)),⟨#[]⟩,jB (L.drop (i+1))⟩):=hh;clear hh;generalize hli:L.getD i Ie=li at *;generalize L.getD (i-1) Ie=lm at *;generalize jB (L.drop (i+1))=jd at *;generalize jB (L.take (i-1))=jt at *;clear hli;generalize yr:i-1=m at *;clear yr;by_cases DZ:li=qV
   .subst DZ
    have Cl:Hid (G=⟨⟨#[]⟩,⟨#[]⟩,lm,jd⟩):=HGG.out;clear HGG HJ2;go_wp2_with fail;exact IE (v:=Iu #[I ⟨#[]⟩,I ⟨#[]⟩,I lm,I jd]) (by simp[results,results75,go_sem,g0,g1,g2,g3,FB,oR]) rfl ⟨by rw[Cl.out],((((nR.out.setCell (p:=⟨w.heap.size,0,U⟩) (By _) _).setCell (p:=⟨w.heap.size,1,U⟩) (By _) _).setCell (p:=⟨w.heap.size,2,U⟩) (By _) _).setCell (p:=⟨w.heap.size,3,U⟩) (By _) _).alloc (by simp;omega) _⟩
   .have Cl:Hid (G=⟨lm,jt,⟨#[]⟩,jd⟩):=(show G=_ by rw[HGG.out,if_neg DZ])
    obtain⟨b1,b2⟩:=Es DZ;clear HGG DZ hwd;go_wp2_with fail;refine(HJ2.out _ (nR.out.alloc (by omega) _)).mono ?_;rintro e w3 ⟨rfl,nC⟩;obtain⟨q0,q1,q2,q3,oT,sy⟩:=Ll nC;obtain⟨_,qz⟩:=Ks nC;have r0:=(oT.out.cell (p:=⟨w.heap.size,0,U⟩) oR).trans g0;have r1:=(oT.out.cell (p:=⟨w.heap.size,1,U⟩) oR).trans g1;have r2:=(oT.out.cell (p:=⟨w.heap.size,2,U⟩) oR).trans g2;have r3:=(oT.out.cell (p:=⟨w.heap.size,3,U⟩) oR).trans g3;have x0:=(oT.out.frozen (p:=⟨w.heap.size,0,U⟩) oR).trans y0;have x1:=(oT.out.frozen (p:=⟨w.heap.size,1,U⟩) oR).trans y1;have x2:=(oT.out.frozen (p:=⟨w.heap.size,2,U⟩) oR).trans y2;have x3:=(oT.out.frozen (p:=⟨w.heap.size,3,U⟩) oR).trans y3;have qz1:=qz 1;have XJ:Hid (Below w.heap.size w w3):=nR.out.trans (oT.out.mono (Jw oR));clear g0 g1 g2 g3 y0 y1 y2 y3 nC ci cm HJ2 qz;go_wp2_with fail;exact IE (v:=Iu #[I lm,I jt,I ⟨#[]⟩,I jd]) (by simp[results,results75,go_sem,r0,r1,r2,r3]) rfl ⟨by rw[Cl.out],((((XJ.out.setCell (p:=⟨w2.heap.size,1,U⟩) (Jw oR) _).setCell (p:=⟨w.heap.size,0,U⟩) (By _) _).setCell (p:=⟨w.heap.size,1,U⟩) (By _) _).setCell (p:=⟨w.heap.size,2,U⟩) (By _) _).setCell (p:=⟨w.heap.size,3,U⟩) (By _) _⟩
end Go.Proofs.YtipbebleapjcjaaGreatDoor
namespace Go.Proofs.YtipbebleapjcjaaGreatDoor
open Go.RowKit
def wS(s:ByteArray):List ByteArray:=(tt s.data.toList).map mk
def AA(s:ByteArray):Qu:=GR (wS s).dropLast
def Wg(s:ByteArray):ByteArray:=(wS s).getD ((wS s).length-1) Ie
def oF(s:ByteArray):Int:=if nS s=0 then(if Wg s=qm then(if rH (AA s)=0/\tN (AA s)=s then 0 else 1) else 8) else nS s
def nz(s:ByteArray):Qu:=if oF s=0 then AA s else qE
theorem qb{s:ByteArray}(h:nS s=0):s.size<=120/\(tt s.data.toList).length<=8/\∀x∈tt s.data.toList,x.length<=30:=by
 unfold nS at h;by_cases h0:s.size=0
 .have:=nB h0
  subst this;exact⟨by omega,by decide,by decide⟩
 .rw[if_neg h0] at h
  by_cases h1:(tt s.data.toList).all wF=false
  .rw[if_pos h1] at h;omega
  .rw[if_neg h1] at h
   by_cases h2:8<(tt s.data.toList).length\/120<s.size
   .rw[if_pos h2] at h;omega
   .refine⟨by omega,by omega,λx hx=>?_⟩
    have h3:(tt s.data.toList).all wF=true:=by simpa using h1
    exact(Xw (Od.1 h3 x hx)).2
theorem BR(s:ByteArray):(wS s).length=(tt s.data.toList).length:=by unfold wS;rw[I8]
theorem Wi(s:ByteArray):0<(wS s).length:=by rw[BR];exact List.length_pos_iff.2 (Sq _)
theorem CT{s:ByteArray}(h:nS s=0):∀x∈wS s,x.size<=30:=λx hx=>by
 obtain⟨y,hy,rfl⟩:=Ot.1 hx;rw[sJ];exact(qb h).2.2 y hy
theorem Kt{L:List ByteArray}(hn:L.length<=8)(h:∀x∈L,x.size<=30){a b:Nat}:(jn (((L.drop a).take b).map bytes)).length<=248:=by
 refine IB (Wf _ λx hx=>?_) ?_
 .obtain⟨y,hy,rfl⟩:=Ot.1 hx
  have:=h y (List.mem_of_mem_drop (Jr hy));simpa[bytes] using this
 .rw[I8,IA,I9];omega
theorem Tj{L:List ByteArray}(h:∀x∈L,x.size<=30)(j:Nat):(L.getD j Ie).size<=30:=by
 by_cases hj:j<L.length
 .rw[show L.getD j Ie=L[j] by simp[Ip,Ih hj]]
  exact h _ (IU hj)
 .rw[show L.getD j Ie=Ie by simp[Ip,IK (by omega:L.length<=j)]];decide
theorem ND{L:List ByteArray}(hn:L.length<=8)(h:∀x∈L,x.size<=30)(a b:Nat):(jB ((L.drop a).take b)).size<=248:=by
 unfold jB;rw[sJ];exact Kt hn h
theorem adE{L:List ByteArray}(hn:L.length<=8)(h:∀x∈L,x.size<=30):(GR L).ok:=by
 have hd:∀a,(jB (L.drop a)).size<=248:=λa=>by
  have:=ND hn h a L.length
  rwa [IJ (by rw[I9];omega)] at this
 have ht:∀a,(jB (L.take a)).size<=248:=λa=>by
  have:=ND hn h 0 a
  rwa [List.drop_zero] at this
 have hg:=Tj h;have e0:(J9 #[]).size=0:=rfl;unfold GR;split
 .exact⟨by decide,by decide,by decide,by decide⟩
 .have h1:=hd ((zH L).toNat+1)
  have h2:=ht ((zH L).toNat-1);have h3:=hg ((zH L).toNat-1);split
  .refine⟨?_,?_,?_,?_⟩<;>unfold Il<;>simp only[e0]<;>omega
  .refine⟨?_,?_,?_,?_⟩<;>unfold Il<;>simp only[e0]<;>omega
theorem adF{P:Prop}(h:P:=by
 go_wp2_with fail;exact IE (v:=Ir #[Iu #[I ⟨#[]⟩,I ⟨#[]⟩,I ⟨#[]⟩,I ⟨#[]⟩],O J 1]) (by simp[results,results32,go_sem,g0,g1,g2,g3]) rfl ⟨by rw[HE3.out,NF.out];try rfl,(((qP.out.setCell (p:=⟨w.heap.size,0,U⟩) (By _) _).setCell (p:=⟨w.heap.size,1,U⟩) (By _) _).setCell (p:=⟨w.heap.size,2,U⟩) (By _) _).setCell (p:=⟨w.heap.size,3,U⟩) (By _) _⟩):P:=h
theorem Ku(s:ByteArray)(w:World)(hm:ML w)(hs:s.size<=Il) :
 Calls AT 32 #[I s] w λe w'=>e=Ia (Ir #[Iu #[I (nz s).service,I (nz s).tag,I (nz s).node,I (nz s).mM],O J (oF s)])/\Below w.heap.size w w':=by
 have HDC:Hid (∀W,Calls AT 73 #[I s] W λe w'=>e=Ia (O J (nS s))/\Below W.heap.size W w'):=λW=>uV s W hs;by_cases h0:nS s=0
 .obtain⟨b1,b2,_⟩:=qb h0
  have HSP:Hid (∀W,Below w.heap.size w W->Calls AT 74 #[I s,I ⟨#[46]⟩] W λe w'=>e=Ia (sh (AI ⟨W.heap.size,0,U⟩) (wS s).length (wS s).length)/\w'=W.alloc (Ib ((wS s).map I).toArray 9)):=λW hW=>by
   have h:=Ka s W (hm.below hW) (by omega);rw[<- BR] at h;exact h
  have hlen:(wS s).length<=8:=by rw[BR];exact b2
  have rh:=CT h0;have BA:=Wi s;have hdl:(wS s).dropLast.length=(wS s).length-1:=List.length_dropLast;have hdm:∀x∈(wS s).dropLast,x.size<=30:=λx hx=>rh x ((List.dropLast_sublist _).subset hx);have HGU:Hid (∀(g:Nat) (W:World),W.heap[g]?=AI (Ib ((wS s).map I).toArray 9 (0,0))->Calls AT 75 #[sh (AI ⟨g,0,U⟩) ((wS s).length-1) (wS s).length] W λe w'=>e=Ia (Iu #[I (AA s).service,I (AA s).tag,I (AA s).node,I (AA s).mM])/\Below W.heap.size W w'):=λg W hg=>by
   have h:=aac (wS s).dropLast g (wS s).length W (λj hj=>by
    rw[I6,fi hg];have DY:j<(wS s).length:=by omega
    simp[Ip,DY,show j<(wS s).length-1 by omega]) (Ig.1 hg).1 (by omega) (by omega) (λL' ⟨a,b,e⟩=>by
    rw[e];exact IB (Kt (by omega) hdm) (by omega))
   rw[hdl] at h;exact h
  have HPR:Hid (∀W,Calls AT 76 #[Iu #[I (AA s).service,I (AA s).tag,I (AA s).node,I (AA s).mM]] W λe w'=>e=Ia (Ir #[I (tN (AA s)),O J (rH (AA s))])/\Below W.heap.size W w'):=λW=>CR (AA s) W (adE (by omega) hdm);have HE:Hid (oF s=if Wg s=qm then(if rH (AA s)=0/\tN (AA s)=s then 0 else 1) else 8):=(show oF s=_ by unfold oF;rw[if_pos h0]);have HQ:Hid (nz s=if oF s=0 then AA s else qE):=rfl;have HLA:Hid (∀(g:Nat) (W:World),W.heap[g]?=AI (Ib ((wS s).map I).toArray 9 (0,0))->W.cell? ⟨g,(wS s).length-1,U⟩=AI (I (Wg s))):=λg W hg=>by
   rw[fi hg];have DY:(wS s).length-1<(wS s).length:=by omega
   simp[Wg,Ip,DY]
  rw[h0] at HDC;clear rh hdl hdm b1 b2 hm h0;generalize oF s=E at *;generalize nz s=Q at *;generalize rH (AA s)=pe at *;generalize tN (AA s)=ps at *;generalize AA s=q at *;generalize Wg s=la at *;generalize hLL:(wS s).map I=LV at *;clear hLL;generalize(wS s).length=n at *;obtain⟨qs,qt,qn,qc⟩:=q;simp only at HGU HPR HQ;go_enter func32,ntmps32;go_wp2_with fail;refine(HDC.out _).mono ?_;rintro e w1 ⟨rfl,mO⟩;obtain⟨f0,f1,f2,f3,mY,o8⟩:=Ll mO;obtain⟨_,ux⟩:=Ks mO;have z0:=ux 0;have z1:=ux 1;have z2:=ux 2;have z3:=ux 3;clear mO ux;go_wp2_with fail;refine(HSP.out _ mY.out).mono ?_;rintro e w2 ⟨rfl,xN⟩;have uK:Hid (Below w1.heap.size w1 w2):=(show Below _ _ _ by rw[xN];exact(If _ _).alloc (By _) _);have Ak:w2.heap[w1.heap.size]?=AI (Ib LV.toArray 9 (0,0)):=by rw[xN];exact Ii w1 _
  have HGL:Hid (w2.heap[w1.heap.size]?=AI (Ib LV.toArray 9 (0,0))):=Ak;have cl:=HLA.out _ _ Ak;have oR:w.heap.size<w2.heap.size:=Ix o8 uK.out.size;have nR:Hid (Below w.heap.size w w2):=mY.out.trans (uK.out.mono (Jw o8));have g0:=(uK.out.cell (p:=⟨w.heap.size,0,U⟩) o8).trans f0;have g1:=(uK.out.cell (p:=⟨w.heap.size,1,U⟩) o8).trans f1;have g2:=(uK.out.cell (p:=⟨w.heap.size,2,U⟩) o8).trans f2;have g3:=(uK.out.cell (p:=⟨w.heap.size,3,U⟩) o8).trans f3;have y0:=(uK.out.frozen (p:=⟨w.heap.size,0,U⟩) o8).trans z0;have y1:=(uK.out.frozen (p:=⟨w.heap.size,1,U⟩) o8).trans z1;have y2:=(uK.out.frozen (p:=⟨w.heap.size,2,U⟩) o8).trans z2;have y3:=(uK.out.frozen (p:=⟨w.heap.size,3,U⟩) o8).trans z3;have hwm:IntKind.i64.wrap ((n:Int)-1)=((n-1:Nat):Int):=by rw[IW];omega
  have him:((n-1:Nat):Int)<(n:Int):=by omega
  have aoY:(0:Int)<=((n-1:Nat):Int):=by omega
  have hic:((n-1:Nat):Int)<=(n:Int):=by omega
  clear f0 f1 f2 f3 z0 z1 z2 z3 Ak xN HSP HLA;generalize yr:n-1=m at *;clear yr;by_cases Hv:la=qm
  .have wm:Hid (E=if pe=0/\ps=s then 0 else 1):=(show E=_ by rw[HE.out,if_pos Hv])
   subst Hv;clear HE;go_wp2_with fail;refine(HGU.out _ _ HGL.out).mono ?_;rintro e w3 ⟨rfl,nC⟩;have r0:=(nC.cell (p:=⟨w.heap.size,0,U⟩) oR).trans g0;have r1:=(nC.cell (p:=⟨w.heap.size,1,U⟩) oR).trans g1;have r2:=(nC.cell (p:=⟨w.heap.size,2,U⟩) oR).trans g2;have r3:=(nC.cell (p:=⟨w.heap.size,3,U⟩) oR).trans g3;have x0:=(nC.frozen (p:=⟨w.heap.size,0,U⟩) oR).trans y0;have x1:=(nC.frozen (p:=⟨w.heap.size,1,U⟩) oR).trans y1;have x2:=(nC.frozen (p:=⟨w.heap.size,2,U⟩) oR).trans y2;have x3:=(nC.frozen (p:=⟨w.heap.size,3,U⟩) oR).trans y3;have sy:w.heap.size<w3.heap.size:=Ix oR nC.size;have oT:Hid (Below w.heap.size w w3):=nR.out.trans (nC.mono (Jw oR));clear g0 g1 g2 g3 y0 y1 y2 y3 nC cl HGL HGU;go_wp2_with fail;refine(HPR.out _).mono ?_;rintro e w4 ⟨rfl,qA⟩;obtain⟨q0,q1,q2,q3,Ly,aCC⟩:=Ll qA;have g0:=(Ly.out.cell (p:=⟨w.heap.size,0,U⟩) sy).trans r0;have g1:=(Ly.out.cell (p:=⟨w.heap.size,1,U⟩) sy).trans r1;have g2:=(Ly.out.cell (p:=⟨w.heap.size,2,U⟩) sy).trans r2;have g3:=(Ly.out.cell (p:=⟨w.heap.size,3,U⟩) sy).trans r3;have y0:=(Ly.out.frozen (p:=⟨w.heap.size,0,U⟩) sy).trans x0;have y1:=(Ly.out.frozen (p:=⟨w.heap.size,1,U⟩) sy).trans x1;have y2:=(Ly.out.frozen (p:=⟨w.heap.size,2,U⟩) sy).trans x2;have y3:=(Ly.out.frozen (p:=⟨w.heap.size,3,U⟩) sy).trans x3;have qP:Hid (Below w.heap.size w w4):=oT.out.trans (Ly.out.mono (Jw sy));clear r0 r1 r2 r3 x0 x1 x2 x3 qA HPR;by_cases Ew:pe=0
   .subst Ew
    by_cases Lv:ps=s
    .subst Lv
     have HE3:Hid (E=0):=(show E=0 by rw[wm.out];simp);have NF:Hid (Q=⟨qs,qt,qn,qc⟩):=(show Q=_ by rw[HQ.out,HE3.out];rfl);clear wm HQ;go_wp2_with fail;exact IE (v:=Ir #[Iu #[I qs,I qt,I qn,I qc],O J 0]) (by simp[results,results32,go_sem,g0,g1,g2,g3]) rfl ⟨by rw[HE3.out,NF.out];try rfl,(((qP.out.setCell (p:=⟨w.heap.size,0,U⟩) (By _) _).setCell (p:=⟨w.heap.size,1,U⟩) (By _) _).setCell (p:=⟨w.heap.size,2,U⟩) (By _) _).setCell (p:=⟨w.heap.size,3,U⟩) (By _) _⟩
    .have HE3:Hid (E=1):=(show E=1 by rw[wm.out,if_neg (λh=>Lv h.2)])
     have NF:Hid (Q=qE):=(show Q=qE by rw[HQ.out,HE3.out];rfl);obtain⟨k1,k2⟩:=o0 Lv;clear wm HQ Lv;exact adF
   .have HE3:Hid (E=1):=(show E=1 by rw[wm.out,if_neg (λh=>Ew h.1)])
    have NF:Hid (Q=qE):=(show Q=qE by rw[HQ.out,HE3.out];rfl);have k1:(pe==0)=false:=by simpa using Ew
    clear wm HQ;exact adF
  .have wm:Hid (E=8):=(show E=_ by rw[HE.out,if_neg Hv])
   have NF:Hid (Q=qE):=(show Q=qE by rw[HQ.out,wm.out];rfl);obtain⟨m1,m2⟩:=Lk Hv;clear HE HQ Hv;go_wp2_with fail;exact IE (v:=Ir #[Iu #[I ⟨#[]⟩,I ⟨#[]⟩,I ⟨#[]⟩,I ⟨#[]⟩],O J 8]) (by simp[results,results32,go_sem,g0,g1,g2,g3]) rfl ⟨by rw[wm.out,NF.out];rfl,(((nR.out.setCell (p:=⟨w.heap.size,0,U⟩) (By _) _).setCell (p:=⟨w.heap.size,1,U⟩) (By _) _).setCell (p:=⟨w.heap.size,2,U⟩) (By _) _).setCell (p:=⟨w.heap.size,3,U⟩) (By _) _⟩
 .have HE:Hid (oF s=nS s):=(show oF s=_ by unfold oF;rw[if_neg h0])
  have HQ:Hid (nz s=qE):=(show nz s=qE by unfold nz;rw[if_neg (by rw[HE.out];exact h0)]);rw[HE.out,HQ.out];have h1:(nS s==0)=false:=by simpa using h0
  clear HE HQ;generalize nS s=r at *;go_enter func32,ntmps32;go_wp2_with fail;refine(HDC.out _).mono ?_;rintro e w1 ⟨rfl,mO⟩;obtain⟨f0,f1,f2,f3,mY,o8⟩:=Ll mO;obtain⟨_,ux⟩:=Ks mO;have z0:=ux 0;have z1:=ux 1;have z2:=ux 2;have z3:=ux 3;clear mO ux;go_wp2_with fail;exact IE (v:=Ir #[Iu #[I ⟨#[]⟩,I ⟨#[]⟩,I ⟨#[]⟩,I ⟨#[]⟩],O J r]) (by simp[results,results32,go_sem,f0,f1,f2,f3]) rfl ⟨rfl,(((mY.out.setCell (p:=⟨w.heap.size,0,U⟩) (By _) _).setCell (p:=⟨w.heap.size,1,U⟩) (By _) _).setCell (p:=⟨w.heap.size,2,U⟩) (By _) _).setCell (p:=⟨w.heap.size,3,U⟩) (By _) _⟩
theorem Tryz.ao1:(Tryz.prog.info? 9).map (λi=>(i.zero,i.size,i.bytes))=AI (AI (I ⟨#[]⟩),1,16):=by kernel_rfl
abbrev D0(base:Nat)(w:World)(v:Value)(l:List ByteArray):Prop:=w.ownsRow base 9 1 v l.length (l.map I)
theorem adH(base:Nat)(w:World):D0 base w (sh U 0 0) []:=Jz w base 9 1
theorem D0.below{base:Nat}{w w':World}{v:Value}{l:List ByteArray}(h:D0 base w v l)(hb:Below w.heap.size w w'):D0 base w' v l:=by
 rcases h.2 with⟨rfl,h0⟩|⟨g,c,cur,rfl,qa,hg,rF,qw,oH,nA⟩
 .exact⟨h.1,.inl ⟨rfl,h0⟩⟩
 .have mS:=(Ig.1 hg).1
  exact⟨h.1,.inr ⟨g,c,cur,rfl,qa,(hb.block g mS).trans hg,rF,qw,oH,nA⟩⟩
theorem D0.lt{base:Nat}{w:World}{v:Value}{l:List ByteArray}(h:D0 base w v l)(k:Nat)(hk:v.ownBlock=AI k):base<=k/\k<w.heap.size:=I3 h k hk
theorem Kv{base:Nat}{w:World}{v:Value}{l:List ByteArray}{s:ByteArray}(h:w.ownsRow base 9 1 v (l.length+1) (l.map I++[I s])):D0 base w v (l++[s]):=by
 show w.ownsRow base 9 1 v (l++[s]).length ((l++[s]).map I);rw[Iq,OI];exact h
def isLive(m:Mem):Bool:=m.state==1||m.state==2
def qW(ms:List Mem):List ByteArray:=(ms.filter isLive).map Mem.name
theorem aae(ms:List Mem)(k:Nat)(hk:k<ms.length)(h:isLive (ms.getD k dm)=true):qW (ms.take (k+1))=qW (ms.take k)++[(ms.getD k dm).name]:=by
 have e:ms.getD k dm=ms[k]:=by simp[Ip,Ih hk]
 rw[e] at h ⊢;unfold qW;rw[Iz hk,JJ,OI];simp[h]
theorem adI(ms:List Mem)(k:Nat)(hk:k<ms.length)(h:isLive (ms.getD k dm)=false):qW (ms.take (k+1))=qW (ms.take k):=by
 have e:ms.getD k dm=ms[k]:=by simp[Ip,Ih hk]
 rw[e] at h;unfold qW;rw[Iz hk,JJ,OI];simp[h]
theorem aaf(ms:List Mem)(k:Nat):(qW (ms.take k)).length<=k:=by
 unfold qW;rw[I8];exact IB (OJ _ _) (Oh _ _)
theorem adJ{P:Prop}(h:P:=by
 go_wp2_with fail;exact⟨⟨k+1,by omega,by go_num,nR.out,by rw[HY2.out];exact sI⟩,by simp[intOf];omega⟩):P:=h
theorem aag(ms:List Mem)(v:Value)(w:World)(hv:Sl w v ms)(h0:nu ms=0) :
 Calls AT 99 #[v] w λe w'=>∃v',e=Ia (Ir #[v',O J 0])/\Hid (D0 w.heap.size w' v' (qW ms))/\Below w.heap.size w w':=by
 obtain⟨i0,qg,oS,so,sf⟩:=Jc Tryz.ao1;have he:(nu ms !=0)=false:=by simpa using h0
 have hz:=mU h0;have hlen:=hz.1;have HV:Hid (Sl w v ms):=hv;obtain⟨pa,ca,rfl,_,ha⟩:=hv;have HA:Hid _:=ha;clear ha h0 hz;generalize Ap:ms.length=n at *;have HN:Hid (ms.length=n):=Ap;clear Ap;go_enter func99,ntmps99;go_wp2_with fail;refine(nU ms _ _ HV.out).mono ?_;rintro e w1 ⟨rfl,mO⟩;go_wp2_with fail;go_loopw [5,15] (λkn i w'=>∃k:Nat,k<=n/\i=O J k/\Below w.heap.size w w'/\Hid (D0 w.heap.size w' kn (qW (ms.take k)))) (λ_ i _=>n-(intOf i).toNat)
 case atStart=>exact⟨0,Iw _,rfl,mO,adH _ _⟩
 case round=>
  clear mO;obtain⟨k,hk,rfl,nE,HO⟩:=hrel;obtain⟨rM,Ai⟩:=pd nE;have od:=nE.size;by_cases mS:k<n
  .obtain⟨b1,o1,tr,o8,wT⟩:∃b off,pa=AI ⟨b,off,U⟩/\b<w.heap.size/\Row w b off ms:=by
    rcases HA.out with h|h
    .have:=HN.out;rw[h] at this;simp at this;omega
    .exact h
   subst tr;obtain⟨c0,c1,c2,c3,c4⟩:=wT k (by rw[HN.out];exact mS);clear wT;have HY:Hid (isLive (ms.getD k dm)=true->qW (ms.take (k+1))=qW (ms.take k)++[(ms.getD k dm).name]):=λh=>aae ms k (by rw[HN.out];exact mS) h;have HX:Hid (isLive (ms.getD k dm)=false->qW (ms.take (k+1))=qW (ms.take k)):=λh=>adI ms k (by rw[HN.out];exact mS) h;have hll:=aaf ms k;generalize ms.getD k dm=mk at *;obtain⟨nk,sk,lk,ak,vk⟩:=mk;simp only at c0 c1 c2 c3 c4;have EY:sk=1\/sk=2\/(sk≠1/\sk≠2):=by omega
   rcases EY with h|h|⟨h,h'⟩
   .subst h
    have HY2:Hid (qW (ms.take (k+1))=qW (ms.take k)++[nk]):=HY.out rfl;clear HY HX;generalize qW (ms.take k)=L at *;go_wp2_with (at_builtin;refine IY _ rfl _ _ 107 rfl w.heap.size 9 i0 _ 1 16 IS qg oS so sf rfl (by omega) _ L.length (L.map I) rfl ?hown ⟨wr.heap.size+1,0,U⟩ 1 1 [I nk] rfl rfl ?hnews (by intro u hu;simp at hu;subst hu;rfl) ?h63 ?hbytes ?hbase ?_)
    case hown=>exact HO.out.below (((If _ _).alloc (By _) _).alloc (by simp) _)
    case hnews=>(intro j u hj;rw[I4];have hh:=fi (Ii (wr.alloc (Ib #[I nk,O J 1,O J lk,O J ak,Ic vk] 55)) (Ib #[I nk] 9)) (0+j);rw[show(wr.alloc (Ib #[I nk,O J 1,O J lk,O J ak,Ic vk] 55)).heap.size=wr.heap.size+1 by simp] at hh;exact hh.trans (by simpa using hj))
    case h63=>(unfold Il;omega)
    case hbytes=>omega
    case hbase=>first|omega|(simp;omega)
    intro v' w2 r1 r2 r3;have sI:Hid (D0 w.heap.size w2 v' (L++[nk])):=Kv r1;have nR:Hid (Below w.heap.size w w2):=((nE.alloc od _).alloc (by simp;omega) _).grown r2 (by simp;omega) (λj hj=>(HO.out.lt j hj).1);exact adJ
   .subst h
    have HY2:Hid (qW (ms.take (k+1))=qW (ms.take k)++[nk]):=HY.out rfl;clear HY HX;generalize qW (ms.take k)=L at *;go_wp2_with (at_builtin;refine IY _ rfl _ _ 107 rfl w.heap.size 9 i0 _ 1 16 IS qg oS so sf rfl (by omega) _ L.length (L.map I) rfl ?hown ⟨wr.heap.size+1,0,U⟩ 1 1 [I nk] rfl rfl ?hnews (by intro u hu;simp at hu;subst hu;rfl) ?h63 ?hbytes ?hbase ?_)
    case hown=>exact HO.out.below (((If _ _).alloc (By _) _).alloc (by simp) _)
    case hnews=>(intro j u hj;rw[I4];have hh:=fi (Ii (wr.alloc (Ib #[I nk,O J 2,O J lk,O J ak,Ic vk] 55)) (Ib #[I nk] 9)) (0+j);rw[show(wr.alloc (Ib #[I nk,O J 2,O J lk,O J ak,Ic vk] 55)).heap.size=wr.heap.size+1 by simp] at hh;exact hh.trans (by simpa using hj))
    case h63=>(unfold Il;omega)
    case hbytes=>omega
    case hbase=>first|omega|(simp;omega)
    intro v' w2 r1 r2 r3;have sI:Hid (D0 _ _ _ _):=Kv r1;have nR:Hid _:=((nE.alloc od _).alloc (by simp;omega) _).grown r2 (by simp;omega) (λj hj=>(HO.out.lt j hj).1);exact adJ
   .have e1:(sk==1)=false:=by simpa using h
    have e2:(sk==2)=false:=by simpa using h'
    have HX2:Hid _:=HX.out (by simp[isLive,h,h']);clear HY HX h h';go_wp2_with fail;go_roundw
    case rel=>exact⟨k+1,by omega,by go_num,nE.alloc od _,by rw[HX2.out];exact HO.out.below ((If _ _).alloc (By _) _)⟩
    case measure=>simp[intOf];omega
  .have HF:Hid (D0 w.heap.size wr u5 (qW ms)):=by
    have h:=HO.out;rw[IJ (by rw[HN.out];omega)] at h;exact h
   go_wp2_with fail;go_ret2;exact⟨u5,rfl,HF,nE⟩
end Go.Proofs.YtipbebleapjcjaaGreatDoor
