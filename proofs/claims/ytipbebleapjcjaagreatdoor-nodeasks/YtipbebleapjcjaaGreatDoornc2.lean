import Derived.Test.YtipbebleapjcjaaGreatDoornc1
import Derived.Shelf.RegionOpen
set_option maxHeartbeats 1600000
set_option maxRecDepth 100000
open Array renaming getElem?_eq_some_iff->Ig
open Bool renaming and_eq_true->IP,eq_iff_iff->JH
open ByteArray renaming empty->Ie,mk->J9,size->JN,size_append->Om
open Go renaming TypeId->Ji,bodyPost->JM,bodyPost_ret->IE,heap_alloc_new->Ii,maxLen->Il,wpAnyH_take->Ja
open Go.AllReadyH renaming cons->Q5,nil->Um
open Go.Ending renaming returned->Ia
open Go.IntKind renaming i64->J
open Go.Lib renaming byteCells->Jl,byteCells_length->OP,strCells->Ou
open Go.Obj renaming cells->Ib
open Go.Proofs.Tryz renaming prog->AT,underlying271->UB,underlying9->IF
open Go.RowKit.Below renaming heap_setCell->IC,refl->If
open Go.Value renaming agg->Iu,bool->Ic,int->O,pointer->Ik,slice->sh,string->I,tuple->Ir
open Go.World renaming cell?_setCell_other->JL,frozen?->Ij,ownsRow_nil->Jz
open List renaming append_assoc->Jh,flatMap_cons->OX,getD->Ip,getElem?_eq_getElem->Ih,getElem?_eq_none->IK,getElem_mem->IU,length_append->Iq,length_cons->Je
open Nat renaming le_refl->By,le_trans->IB,lt_of_lt_of_le->Ix,zero_le->Iw
open Option renaming none->U,some->AI
open Go.Proofs.Tryz
namespace Go.Proofs.YtipbebleapjcjaaGreatDoor
namespace Rc
open Go.RowKit
structure Rec where
 name:ByteArray
 mQ:Int
 nH:Int
 addr:Int
 text:ByteArray
 port:Int
 target:ByteArray
def dm:Rec:=⟨Ie,0,0,0,Ie,0,Ie⟩
def Rec.ok(m:Rec):Prop:=m.name.size<=Il/\m.text.size<=Il/\m.target.size<=Il
theorem Ah:dm.ok:=by simp[Rec.ok,dm]
abbrev As(w:World)(b o:Nat)(m:Rec):Prop:=w.cell? ⟨b,o,U⟩=AI (I m.name)/\w.cell? ⟨b,o+1,U⟩=AI (O J m.mQ)/\w.cell? ⟨b,o+2,U⟩=AI (O J m.nH)/\w.cell? ⟨b,o+3,U⟩=AI (O J m.addr)/\w.cell? ⟨b,o+4,U⟩=AI (I m.text)/\w.cell? ⟨b,o+5,U⟩=AI (O J m.port)/\w.cell? ⟨b,o+6,U⟩=AI (I m.target)
theorem As.eq{w w':World}{b o:Nat}{m:Rec}(h:As w b o m)(e:∀o,w'.cell? ⟨b,o,U⟩=w.cell? ⟨b,o,U⟩):As w' b o m:=by
 obtain⟨c0,c1,c2,c3,c4,c5,c6⟩:=h;exact⟨(e _).trans c0,(e _).trans c1,(e _).trans c2,(e _).trans c3,(e _).trans c4,(e _).trans c5,(e _).trans c6⟩
def Row(w:World)(b off:Nat)(ms:List Rec):Prop:=∀j,j<ms.length->As w b (off+j*7) (ms.getD j dm)
def Sl(w:World)(v:Value)(ms:List Rec):Prop:=
 ∃(a:Option Addr) (cap:Nat),v=sh a ms.length cap/\(∀j,(ms.getD j dm).ok) /\
  (ms=[]\/∃b off,a=AI ⟨b,off,U⟩/\b<w.heap.size/\Row w b off ms)
def Rec.cs(m:Rec):List Value:=[I m.name,O J m.mQ,O J m.nH,O J m.addr,I m.text,O J m.port,I m.target]
def fl(ms:List Rec):List Value:=ms.flatMap Rec.cs
theorem oj(m:Rec):m.cs.length=7:=rfl
theorem oq(m:Rec)(r:List Rec):fl (m::r)=m.cs++fl r:=by simp[fl]
theorem rV(a b:List Rec):fl (a++b)=fl a++fl b:=by simp[fl]
theorem pD:∀ms:List Rec,(fl ms).length=ms.length*7
 |[]=>rfl
 |m::r=>by rw[oq,Iq,pD r,oj,Je];omega
theorem pX(m:Rec):∀v∈m.cs,v.oneCell'=true:=by
 intro v hv;simp[Rec.cs] at hv;rcases hv with rfl|rfl|rfl|rfl|rfl|rfl|rfl<;>rfl
theorem rz(ms:List Rec)(j:Nat)(hj:j<ms.length)(t:Nat)(ht:t<7):(fl ms)[j*7+t]?=(ms.getD j dm).cs[t]?:=by
 induction ms generalizing j with
 |nil=>simp at hj
 |cons m r ih=>
  rw[oq];cases j with
  |zero=>rw[List.getElem?_append_left (by rw[oj];omega)];simp
  |succ j=>
   rw[List.getElem?_append_right (by rw[oj];omega),oj,show(j+1)*7+t-7=j*7+t by omega,ih j (by simpa using hj)];simp
abbrev Own(base:Nat)(w:World)(v:Value)(ms:List Rec):Prop:=w.ownsRow base 104 7 v ms.length (fl ms)
theorem EO{base g G:Nat}{w:World}{cur:Array Value}{ms:List Rec}(hb:base<=g)(hg:w.heap[g]?=AI (Ib cur 104 (0,0)))(hs:cur.size=G*7)(hn:ms.length<=G)(hG:G<=Il)(ht:cur.toList.take (ms.length*7)=fl ms) :
 Own base w (sh (AI ⟨g,0,U⟩) ms.length G) ms:=⟨pD ms,.inr ⟨g,G,cur,rfl,hb,hg,hn,hG,hs,ht⟩⟩
theorem Own.sl{base:Nat}{w:World}{v:Value}{ms:List Rec}(h:Own base w v ms)(hs:∀j,(ms.getD j dm).ok):Sl w v ms:=by
 rcases h.2 with⟨rfl,h0⟩|⟨g,c,cur,rfl,qa,hg,rF,qw,oH,nA⟩
 .exact⟨U,0,by rw[h0],hs,.inl (List.eq_nil_of_length_eq_zero h0)⟩
 .refine⟨_,c,rfl,hs,.inr ⟨g,0,rfl,(Ig.1 hg).1,λj hj=>?_⟩⟩
  have hc:∀t,t<7->w.cell? ⟨g,0+j*7+t,U⟩=(ms.getD j dm).cs[t]?:=λt ht=>by
   rw[fi hg,<- rz ms j hj t ht,<- nA,List.getElem?_take_of_lt (by omega)];simp
  exact⟨hc 0 (by omega),hc 1 (by omega),hc 2 (by omega),hc 3 (by omega),hc 4 (by omega),hc 5 (by omega),hc 6 (by omega)⟩
theorem Own.below{base:Nat}{w w':World}{v:Value}{ms:List Rec}(h:Own base w v ms)(hb:Below w.heap.size w w'):Own base w' v ms:=by
 rcases h.2 with⟨rfl,h0⟩|⟨g,c,cur,rfl,qa,hg,rF,qw,oH,nA⟩
 .exact⟨h.1,.inl ⟨rfl,h0⟩⟩
 .have mS:=(Ig.1 hg).1
  exact⟨h.1,.inr ⟨g,c,cur,rfl,qa,(hb.block g mS).trans hg,rF,qw,oH,nA⟩⟩
theorem Own.lt{base:Nat}{w:World}{v:Value}{ms:List Rec}(h:Own base w v ms)(k:Nat)(hk:v.ownBlock=AI k):base<=k/\k<w.heap.size:=World.ownsRow.lt h k hk
theorem Sl.below{w w':World}{v:Value}{ms:List Rec}(h:Sl w v ms)(hb:Below w.heap.size w w'):Sl w' v ms:=by
 obtain⟨a,cap,rfl,hs,h⟩:=h;refine⟨a,cap,rfl,hs,?_⟩;rcases h with h|⟨b,off,rfl,mS,hr⟩
 .exact .inl h
 .refine .inr ⟨b,off,rfl,Ix mS hb.size,λj hj=>?_⟩
  exact(hr j hj).eq (λo=>(pd hb).1 b o mS)
theorem Own.mono{base base':Nat}{w:World}{v:Value}{ms:List Rec}(h:Own base w v ms)(hb:base'<=base):Own base' w v ms:=by
 rcases h.2 with⟨rfl,h0⟩|⟨g,c,cur,rfl,qa,hg,rF,qw,oH,nA⟩
 .exact⟨h.1,.inl ⟨rfl,h0⟩⟩
 .exact⟨h.1,.inr ⟨g,c,cur,rfl,IB hb qa,hg,rF,qw,oH,nA⟩⟩
theorem nh(base:Nat)(w:World):Own base w (sh U 0 0) []:=Jz w base 104 7
theorem oz{ms:List Rec}(h:∀m∈ms,(m).ok):∀j,(ms.getD j dm).ok:=by
 intro j;by_cases hj:j<ms.length
 .have:=h ms[j] (IU hj)
  simpa[Ip,Ih hj] using this
 .rw[Ip,IK (Nat.le_of_not_lt hj)];exact Ah
theorem o7{base:Nat}{w:World}{v:Value}{ms:List Rec}(h:Own base w v ms)(hs:∀m∈ms,(m).ok):Sl w v ms:=h.sl (oz hs)
theorem qC{base:Nat}{w:World}{v:Value}{L:List Rec}{m:Rec}(h:w.ownsRow base 104 7 v (L.length+1) (fl L++m.cs)):Own base w v (L++[m]):=by
 have e:fl (L++[m])=fl L++m.cs:=by rw[rV,oq];simp[fl]
 show w.ownsRow base 104 7 v (L++[m]).length (fl (L++[m]));rw[e,Iq];exact h
end Rc
end Go.Proofs.YtipbebleapjcjaaGreatDoor
namespace Go.Proofs.YtipbebleapjcjaaGreatDoor
open Go.RowKit
theorem LZ(s:ByteArray)(w:World)(hs:s.size<=Il)(h:nS s=0) :
 Calls AT 129 #[I s] w λr w'=>r=Ia (Ir #[])/\Below w.heap.size w w':=by
 have HC:Hid (Calls AT 73 #[I s] w λe w'=>e=Ia (O J 0)/\Below w.heap.size w w'):=(show Calls _ _ _ _ _ by have h2:=uV s w hs;rwa [h] at h2);go_enter func129,ntmps129;go_wp2_with fail;refine HC.out.mono ?_;rintro e w1 ⟨rfl,mO⟩;go_wp2_with (go_at_call 124;refine(ql _ _).mono ?_;rintro e w2 ⟨rfl,rfl⟩);simp[JM,results,results129];exact mO
theorem KF(n:Int)(w:World) :
 Calls AT 130 #[O J n] w λe w'=>e=Ia (Ic (decide (n=1)||decide (n=16)||decide (n=33)))/\w'=w:=by
 go_enter func130,ntmps130;go_wp2;all_goals
  go_ret;exact⟨mW (by rw[JH];simp;try omega),rfl⟩
def sU(e:Int):Ending:=if e=0 then Ia (Ir #[]) else .panicked [{ v:=.iface 185 (Iu #[O J e]),recovered:=false }]
theorem CX:sU 0=Ia (Ir #[]):=rfl
theorem ri{e:Int}(h:e≠0):sU e=.panicked [{ v:=.iface 185 (Iu #[O J e]),recovered:=false }]:=if_neg h
theorem wO(s:ByteArray)(w:World)(hs:s.size<=Il) :
 Calls AT 129 #[I s] w λr w'=>r=sU (nS s)/\Below w.heap.size w w':=by
 by_cases h:nS s=0
 .rw[h]
  exact LZ s w hs h
 .have HC:Hid (Calls AT 73 #[I s] w λe w'=>e=Ia (O J (nS s))/\Below w.heap.size w w'):=uV s w hs
  rw[ri h];generalize nS s=E at *;have h2:(E==0)=false:=by simpa using h
  go_enter func129,ntmps129;go_wp2_with fail;refine HC.out.mono ?_;rintro e w1 ⟨rfl,mO⟩;have mY:Hid (Below w.heap.size w w1):=mO;clear mO;go_wp2_with fail;refine(pP _ _).mono ?_;rintro e w2 ⟨rfl,rfl⟩;exact⟨rfl,rfl,mY.out⟩
def qS(n:Int):Bool:=decide (n=1)||decide (n=16)||decide (n=33)
def vJ(r:Rc.Rec):Rc.Rec:=if r.mQ=1 then⟨r.name,r.mQ,r.nH,r.addr,⟨#[]⟩,0,⟨#[]⟩⟩ else if r.mQ=16 then⟨r.name,r.mQ,r.nH,0,r.text,0,⟨#[]⟩⟩ else if r.mQ=33 then⟨r.name,r.mQ,r.nH,0,⟨#[]⟩,r.port,r.target⟩ else⟨r.name,r.mQ,r.nH,0,⟨#[]⟩,0,⟨#[]⟩⟩
abbrev B6(r:Rc.Rec):Value:=Iu #[I r.name,O J r.mQ,O J r.nH,O J r.addr,I r.text,O J r.port,I r.target]
theorem L0{P:Prop}(h:P:=by
 first|exact(((If _ _).alloc (By _) _).alloc (by simp) _).alloc (by simp;omega) _|exact((((If _ _).alloc (By _) _).alloc (by simp) _).alloc (by simp;omega) _).drew):P:=h
theorem G9(r:Rc.Rec)(w:World) :
 Calls AT 177 #[B6 r] w λe w'=>e=Ia (B6 (vJ r))/\Below w.heap.size w w':=by
 obtain⟨name,mQ,nH,addr,text,port,target⟩:=r;unfold vJ;simp only;by_cases h1:mQ=1
 .subst h1
  go_enter func177,ntmps177;go_wp2_with fail;refine IE (v:=Iu #[I name,O J 1,O J nH,O J addr,I ⟨#[]⟩,O J 0,I ⟨#[]⟩]) ?_ rfl ⟨rfl,?_⟩
  .simp[results,results177,go_sem]
  .exact L0
 rw[if_neg h1];have e1:(mQ==1)=false:=by simpa using h1
 by_cases h2:mQ=16
 .subst h2
  clear e1;go_enter func177,ntmps177;go_wp2_with fail;refine IE (v:=Iu #[I name,O J 16,O J nH,O J 0,I text,O J 0,I ⟨#[]⟩]) ?_ rfl ⟨rfl,?_⟩
  .simp[results,results177,go_sem]
  .exact L0
 rw[if_neg h2];have e2:(mQ==16)=false:=by simpa using h2
 by_cases h3:mQ=33
 .subst h3
  clear e1 e2;go_enter func177,ntmps177;go_wp2_with fail;go_region
  go_wp2_with fail;refine IE (v:=Iu #[I name,O J 33,O J nH,O J 0,I ⟨#[]⟩,O J port,I target]) ?_ rfl ⟨rfl,?_⟩
  .simp[results,results177,go_sem]
  .exact L0
 rw[if_neg h3];have e3:(mQ==33)=false:=by simpa using h3
 .clear h1 h2 h3
  go_enter func177,ntmps177;go_wp2_with fail;refine IE (v:=Iu #[I name,O J mQ,O J nH,O J 0,I ⟨#[]⟩,O J 0,I ⟨#[]⟩]) ?_ rfl ⟨rfl,?_⟩
  .simp[results,results177,go_sem]
  .exact L0
end Go.Proofs.YtipbebleapjcjaaGreatDoor
namespace Go.Proofs.YtipbebleapjcjaaGreatDoor
namespace Rc
open Go.RowKit
def xf(x y:Rec):Bool:=x.name.toList==y.name.toList&&(x.mQ==y.mQ&&(x.nH==y.nH&&(x.addr==y.addr&&(x.text.toList==y.text.toList&&(x.port==y.port&&(x.target.toList==y.target.toList))))))
theorem zD(x y:Rec):xf x y=true↔x=y:=by
 obtain⟨x_name,x_typ,x_lasts,x_addr,x_text,x_port,x_target⟩:=x;obtain⟨y_name,y_typ,y_lasts,y_addr,y_text,y_port,y_target⟩:=y;simp only[xf,IP,beq_iff_eq,Rec.mk.injEq,Lib.toList_data];constructor
 .rintro⟨h0,h1,h2,h3,h4,h5,h6⟩;exact⟨pW h0,h1,h2,h3,pW h4,h5,pW h6⟩
 .rintro⟨h0,h1,h2,h3,h4,h5,h6⟩;exact⟨by rw[h0],h1,h2,h3,by rw[h4],h5,by rw[h6]⟩
theorem aqa(m1 m2:Rec)(w:World):(Op.equalIn 10000 104 (Iu #[I m1.name,O J m1.mQ,O J m1.nH,O J m1.addr,I m1.text,O J m1.port,I m1.target]) (Iu #[I m2.name,O J m2.mQ,O J m2.nH,O J m2.addr,I m2.text,O J m2.port,I m2.target])).run AT w=.ok (xf m1 m2) w:=by
 have u3:=underlying3;have u9:=IF;have a3:=isAgg3;have z3:=sizeOf3;have a9:=isAgg9;have z9:=sizeOf9;have hS:Tryz.prog.underlying 104=AI (.struct (Tryz.prog.fieldsOf 104)):=by kernel_rfl
 have hp:Tryz.prog.stoodInHeld 104=false:=by kernel_rfl
 rw[show(10000:Nat)=9999+1 from rfl,run_equalIn_agg w 9999 104 _ _ hS hp];simp only[Program.fieldsOf,underlying104];go_simp;unfold xf;by_cases h0:m1.name.toList=m2.name.toList
 case neg=>simp[h0]
 by_cases h1:m1.mQ=m2.mQ
 case neg=>simp[h0,h1]
 by_cases h2:m1.nH=m2.nH
 case neg=>simp[h0,h1,h2]
 by_cases h3:m1.addr=m2.addr
 case neg=>simp[h0,h1,h2,h3]
 by_cases h4:m1.text.toList=m2.text.toList
 case neg=>simp[h0,h1,h2,h3,h4]
 by_cases h5:m1.port=m2.port
 case neg=>simp[h0,h1,h2,h3,h4,h5]
 by_cases h6:m1.target.toList=m2.target.toList
 case neg=>simp[h0,h1,h2,h3,h4,h5,h6]
 simp[h0,h1,h2,h3,h4,h5,h6]
theorem eqE(m1 m2:Rec)(w:World):Sem.run AT (binOp .eql 104 (Iu #[I m1.name,O J m1.mQ,O J m1.nH,O J m1.addr,I m1.text,O J m1.port,I m1.target]) (Iu #[I m2.name,O J m2.mQ,O J m2.nH,O J m2.addr,I m2.text,O J m2.port,I m2.target])) w=.ok (Ic (xf m1 m2)) w:=by
 rw[run_eql_struct,aqa];rfl
end Rc
end Go.Proofs.YtipbebleapjcjaaGreatDoor
namespace Go.Proofs.YtipbebleapjcjaaGreatDoor
open Go.RowKit
def sF(r:Rc.Rec):Bool:=(decide (r.mQ=1)||decide (r.addr=0))&&((decide (r.mQ=16)||decide (r.text.size=0))&&(decide (r.mQ=33)||(decide (r.port=0)&&decide (r.target.size=0))))
def nT(r:Rc.Rec):Int:=
 if nS r.name≠0 then nS r.name
 else if qS r.mQ=false then 7
 else if within r.nH 0 2147483647=false then 3
 else if sF r=false then 1
 else if(within r.addr 0 4294967295&&within r.port 0 65535)=false then 3
 else if 200<r.text.size then 2
 else nS r.target
theorem KG(r:Rc.Rec):(vJ r).name=r.name:=by unfold vJ;split;rfl;split;rfl;split<;>rfl
theorem Pr(r:Rc.Rec):(vJ r).mQ=r.mQ:=by unfold vJ;split;rfl;split;rfl;split<;>rfl
theorem FW(r:Rc.Rec):(vJ r).nH=r.nH:=by unfold vJ;split;rfl;split;rfl;split<;>rfl
theorem ED(s:ByteArray):s=⟨#[]⟩↔s.size=0:=⟨λh=>by rw[h];rfl,nB⟩
theorem aeF(r:Rc.Rec):Rc.xf r (vJ r)=sF r:=by
 rw[JH,Rc.zD];obtain⟨name,mQ,nH,addr,text,port,target⟩:=r;unfold vJ sF;simp only;by_cases h1:mQ=1
 .subst h1;simp[ED]
 rw[if_neg h1];by_cases h2:mQ=16
 .subst h2;simp[ED]
 rw[if_neg h2];by_cases h3:mQ=33
 .subst h3;simp[ED]
 rw[if_neg h3];simp[h1,h2,h3,ED]
theorem aeG{P:Prop}(h:P:=by
 intro W rU;have d0:=fi rU 0;have d1:=fi rU 1;have d2:=fi rU 2;have d3:=fi rU 3;have d4:=fi rU 4;have d5:=fi rU 5;have d6:=fi rU 6;go_simp):P:=h
theorem Eg(r:Rc.Rec)(w:World)(hr:r.ok) :
 Calls AT 131 #[B6 r] w λe w'=>e=sU (nT r)/\Below w.heap.size w w':=by
 have HN:Hid (∀W,Calls AT 129 #[I r.name] W λe w'=>e=sU (nS r.name)/\Below W.heap.size W w'):=λW=>wO _ _ hr.1;have HT:Hid (∀W,Calls AT 129 #[I r.target] W λe w'=>e=sU (nS r.target)/\Below W.heap.size W w'):=λW=>wO _ _ hr.2.2;have HO:Hid (∀W,Calls AT 177 #[B6 r] W λe w'=>e=Ia (Iu #[I r.name,O J r.mQ,O J r.nH,O J (vJ r).addr,I (vJ r).text,O J (vJ r).port,I (vJ r).target])/\Below W.heap.size W w'):=λW=>by
  have h:=G9 r W;unfold B6 at h;rw[KG,Pr,FW] at h;exact h
 generalize hE:nT r=E;unfold nT at hE;go_enter func131,ntmps131;go_wp2_with fail;have pS:(w.alloc (Ib #[I r.name,O J r.mQ,O J r.nH,O J r.addr,I r.text,O J r.port,I r.target] 104)).heap[w.heap.size]?=AI (Ib #[I r.name,O J r.mQ,O J r.nH,O J r.addr,I r.text,O J r.port,I r.target] 104 (0,0)):=Ii w _;refine(HN.out _).mono ?_;rintro e w1 ⟨rfl,mO⟩;have ou:=(mO.block w.heap.size (by simp)).trans pS;have mY:Hid _:=((If _ _).alloc (By _) _).trans (mO.mono (by simp));clear pS mO;by_cases h1:nS r.name=0
 .rw[h1,CX]
  rw[if_neg (by simpa using h1)] at hE;have f1:=fi ou 1;have f2:=fi ou 2;go_wp2_with fail;refine(KF _ _).mono ?_;rintro e w2 ⟨rfl,xN⟩;subst xN;rw[show(decide (r.mQ=1)||decide (r.mQ=16)||decide (r.mQ=33))=qS r.mQ from rfl];by_cases h2:qS r.mQ=false
  .rw[if_pos h2] at hE
   subst hE;rw[h2];go_wp2_with fail;refine(pP _ _).mono ?_;rintro e w3 ⟨rfl,rfl⟩;exact⟨rfl,rfl,mY.out⟩
  rw[if_neg h2] at hE;rw[show qS r.mQ=true by simpa using h2];go_wp2_with fail;refine(ql _ _).mono ?_;rintro e w3 ⟨rfl,Rq⟩;subst Rq;go_wp2_with fail;refine(oe _ _ _ _).mono ?_;rintro e w4 ⟨rfl,WB⟩;subst WB;by_cases h3:within r.nH 0 2147483647=false
  .rw[if_pos h3] at hE
   subst hE;rw[h3];go_wp2_with fail;refine(pP _ _).mono ?_;rintro e w5 ⟨rfl,rfl⟩;exact⟨rfl,rfl,mY.out⟩
  rw[if_neg h3] at hE;rw[show within r.nH 0 2147483647=true by simpa using h3];go_wp2_with fail;refine(ql _ _).mono ?_;rintro e w5 ⟨rfl,DV⟩;subst DV;have f0:=fi ou 0;have f3:=fi ou 3;have f4:=fi ou 4;have f5:=fi ou 5;have f6:=fi ou 6;have heq:∀W,Sem.run AT (binOp .eql 104 (Iu #[I r.name,O J r.mQ,O J r.nH,O J r.addr,I r.text,O J r.port,I r.target]) (Iu #[I r.name,O J r.mQ,O J r.nH,O J (vJ r).addr,I (vJ r).text,O J (vJ r).port,I (vJ r).target])) W=.ok (Ic (sF r)) W:=λW=>by
   have h:=Rc.eqE r (vJ r) W;rw[KG,Pr,FW,aeF] at h;exact h
  have hl5:=(Ig.1 ou).1;generalize(vJ r).addr=a' at *;generalize(vJ r).text=t' at *;generalize(vJ r).port=p' at *;generalize(vJ r).target=g' at *;go_wp2_with fail;refine wp_region_held_drew (S:=λW=>W.heap[w.heap.size]?=AI (Ib #[I r.name,O J r.mQ,O J r.nH,O J r.addr,I r.text,O J r.port,I r.target] 104 (0,0))) (by kernel_rfl) ou (λFp=>?_);refine Ja (i:=0) (v:=B6 r) rfl (by kernel_rfl) (by kernel_rfl) (by kernel_rfl) (λ_ _ _ h=>h) (Or.inl ⟨by rfl,?_⟩) (by assumption) ?_
  .exact aeG
  refine Ja (i:=1) (v:=B6 r) rfl (by kernel_rfl) (by kernel_rfl) (by kernel_rfl) (λ_ _ _ h=>h) (Or.inl ⟨by rfl,?_⟩) (by assumption) ?_
  .exact aeG
  refine wpAnyH_ready (rs:=[2]) (by kernel_rfl) (by simp) ?_;refine Q5 rfl (λK hK=>?_) Um;go_simp;refine(HO.out _).mono ?_;rintro e w6 ⟨rfl,sZ⟩;have tq:Hid _:=mY.out.trans (Below.trans (Below.drew (If _ _)) (sZ.mono mY.out.size));have EA:=(sZ.block w.heap.size hl5).trans Fp;clear sZ mY;refine hK.out _ _ EA (λ_=>?_);clear hK K;refine wpAnyH_ready (rs:=[3]) (by kernel_rfl) (by simp) ?_;refine Q5 rfl (λK hK=>?_) Um;go_simp;refine hK.out _ _ EA (λ_=>?_);clear hK K;refine wpAnyH_ready (rs:=[4]) (by kernel_rfl) (by simp) ?_;refine Q5 rfl (λK hK=>?_) Um;go_simp;by_cases h4:sF r=false
  .rw[if_pos h4] at hE
   subst hE;rw[h4];refine(pP _ _).mono ?_;rintro e w7 ⟨rfl,rfl⟩;exact⟨rfl,rfl,tq.out⟩
  rw[if_neg h4] at hE;rw[show sF r=true by simpa using h4];refine(ql _ _).mono ?_;rintro e w7 ⟨rfl,hw7⟩;subst hw7;refine hK.out _ _ EA (λ_=>?_);clear hK K;refine wpAnyH_done (by kernel_rfl) ?_ _;clear heq HO f0 f1 f2 f3 f4 f5 f6;have f3:=fi EA 3;have f4:=fi EA 4;have f5:=fi EA 5;have f6:=fi EA 6;go_wp2_with fail;refine(qf _ _).mono ?_;rintro e w8 ⟨rfl,hw8⟩;subst hw8;by_cases h5:within r.addr 0 4294967295=false
  .rw[if_pos (by rw[h5];rfl)] at hE
   subst hE;rw[h5];go_wp2_with fail;refine(pP _ _).mono ?_;rintro e w9 ⟨rfl,rfl⟩;exact⟨rfl,rfl,tq.out⟩
  have h5t:within r.addr 0 4294967295=true:=by simpa using h5
  rw[h5t] at hE ⊢;rw[Bool.true_and] at hE;go_wp2_with fail;refine(oe _ _ _ _).mono ?_;rintro e w9 ⟨rfl,hw9⟩;subst hw9;by_cases h6:within r.port 0 65535=false
  .rw[if_pos h6] at hE
   subst hE;rw[h6];go_wp2_with fail;refine(pP _ _).mono ?_;rintro e wa ⟨rfl,rfl⟩;exact⟨rfl,rfl,tq.out⟩
  rw[if_neg h6] at hE;rw[show within r.port 0 65535=true by simpa using h6];go_wp2_with fail;refine(ql _ _).mono ?_;rintro e wa ⟨rfl,Lo⟩;subst Lo;by_cases h7:200<r.text.size
  .rw[if_pos h7] at hE
   subst hE;have h8:decide ((r.text.size:Int)<=200)=false:=by simp;omega
   go_wp2_with fail;refine(pP _ _).mono ?_;rintro e wb ⟨rfl,rfl⟩;exact⟨rfl,rfl,tq.out⟩
  rw[if_neg h7] at hE;have h8:decide ((r.text.size:Int)<=200)=true:=by simp;omega
  go_wp2_with fail;refine(ql _ _).mono ?_;rintro e wb ⟨rfl,hwb⟩;subst hwb;go_wp2_with fail;refine(HT.out _).mono ?_;rintro e wc ⟨rfl,rM⟩;have HBC:Hid _:=tq.out.trans (rM.mono tq.out.size);clear rM;subst hE;by_cases h9:nS r.target=0
  .rw[h9,CX]
   go_wp2_with fail;simp[JM,results,results131];exact⟨by rw[h9];rfl,HBC.out⟩
  .rw[ri h9]
   exact⟨rfl,(ri h9).symm,HBC.out⟩
 .rw[if_pos h1] at hE
  subst hE;rw[ri h1];exact⟨rfl,(ri h1).symm,mY.out⟩
structure uo(g:Nat)(t:ByteArray)(a:Nat)(w:World):Prop where
 c0:w.cell? ⟨g,0,U⟩=AI (I t)
 c1:w.cell? ⟨g,1,U⟩=AI (O J a)
 hz:w.frozen? ⟨g,1,U⟩=false
 hg:g<w.heap.size
theorem uo.move{g a b:Nat}{t:ByteArray}{w w':World}(h:uo g t a w)(hx:(w.setCell ⟨g,1,U⟩ (O J (b:Int))).Extends w'):uo g t b w' where
 c0:=by
  refine hx.cell_of ?_;have:=h.c0;exact(JL _ _ _ _ (by simp)).trans this
 c1:=hx.cell_of (World.cell?_setCell_same _ _ _ h.c1)
 hz:=by rw[hx.frozen _ (by simp;exact h.hg)];simpa using h.hz
 hg:=by have:=hx.size;simp at this;have:=h.hg;omega
theorem TI(g a:Nat)(t:ByteArray)(w:World)(h:uo g t a w)(hs:t.size<=1000)(Ar:a+1+mP t a 1<=t.size) :
 Calls AT 175 #[Ik (AI ⟨g,0,U⟩)] w λe w'=>e=Ia (I (t.extract (a+1) (a+1+mP t a 1)))/\∃w1,(w.setCell ⟨g,1,U⟩ (O J ((a+1:Nat):Int))).Extends w1/\(w1.setCell ⟨g,1,U⟩ (O J ((a+1+mP t a 1:Nat):Int))).Extends w':=by
 have HT:Hid (Calls AT 123 #[Ik (AI ⟨g,0,U⟩),O J 1] w λe w'=>e=Ia (O J (mP t a 1))/\(w.setCell ⟨g,1,U⟩ (O J ((a:Int)+((1:Nat):Int)))).Extends w'):=Fg g a 1 t w h.c0 h.c1 h.hz hs (by omega) (by omega);go_enter func175,ntmps175;go_wp2_with fail;refine HT.out.mono ?_;rintro e w1 ⟨rfl,hx⟩;have hX:Hid ((w.setCell ⟨g,1,U⟩ (O J ((a+1:Nat):Int))).Extends w1):=by
  rw[Int.natCast_add];exact hx
 clear hx;have h1:=h.move hX.out;have RY:Hid (Calls AT 172 #[Ik (AI ⟨g,0,U⟩),O J (mP t a 1:Nat)] w1 λe w'=>e=Ia (I (t.extract (a+1) (a+1+mP t a 1)))/\∃m,w'=(w1.setCell ⟨g,1,U⟩ (O J (((a+1:Nat):Int)+((mP t a 1:Nat):Int)))).drew.drewN m):=VX g (a+1) (mP t a 1) t w1 h1.c0 h1.c1 h1.hz hs Ar;go_wp2_with fail;refine RY.out.mono ?_;rintro e w2 ⟨rfl,m,rfl⟩;go_wp2_with fail;simp[JM,results,results175];refine⟨w1,by simpa using hX.out,?_⟩;exact⟨rfl,rfl,rfl,By _,λ_ _=>rfl,λ_ _=>rfl,λ_ _=>rfl⟩
structure Rd(g:Nat)(w w':World):Prop where
 os:w'.os=w.os
 tape:w'.tape=w.tape
 output:w'.output=w.output
 size:w.heap.size<=w'.heap.size
 block:∀k:Nat,k<w.heap.size->k≠g->w'.heap[k]?=w.heap[k]?
theorem Rd.refl(g:Nat)(w:World):Rd g w w:=⟨rfl,rfl,rfl,By _,λ_ _ _=>rfl⟩
theorem Rd.trans{g:Nat}{w w1 w2:World}(h:Rd g w w1)(h2:Rd g w1 w2):Rd g w w2:=
 ⟨h2.os.trans h.os,h2.tape.trans h.tape,h2.output.trans h.output,IB h.size h2.size,λk hk hg=>(h2.block k (Ix hk h.size) hg).trans (h.block k hk hg)⟩
theorem Rd.ext{g:Nat}{w w':World}(h:w.Extends w'):Rd g w w':=⟨h.os,h.tape,h.output,h.size,λk hk _=>h.block k hk⟩
theorem Rd.aeH{g:Nat}{v:Value}{w w':World}(h:(w.setCell ⟨g,1,U⟩ v).Extends w'):Rd g w w':=
 ⟨h.os,h.tape,h.output,by have:=h.size;simpa using this,λk hk hg=>(h.block k (by simpa using hk)).trans (IC w _ _ k hg)⟩
theorem Rd.below{g B:Nat}{w w':World}(h:Rd g w w')(hb:B<=g)(hB:B<=w.heap.size):Below B w w':=
 ⟨h.os,h.tape,h.output,h.size,λk hk=>h.block k (by omega) (by omega)⟩
theorem Rd.uD{g B:Nat}{w w':World}(h:Below B w w')(hb:w.heap.size<=B):Rd g w w':=
 ⟨h.os,h.tape,h.output,h.size,λk hk _=>h.block k (by omega)⟩
theorem Rd.own{g base:Nat}{w w':World}{v:Value}{l:List ByteArray}(h:Rd g w w')(ho:nD base w v l)(hg:g<base):nD base w' v l:=by
 rcases ho.2 with⟨rfl,h0⟩|⟨k,c,cur,rfl,qa,hk,rF,qw,oH,nA⟩
 .exact⟨ho.1,.inl ⟨rfl,h0⟩⟩
 .have mS:k<w.heap.size:=(Ig.1 hk).1
  exact⟨ho.1,.inr ⟨k,c,cur,rfl,qa,(h.block k mS (by omega)).trans hk,rF,qw,oH,nA⟩⟩
theorem uo.ext{g a:Nat}{t:ByteArray}{w w':World}(h:uo g t a w)(hx:w.Extends w'):uo g t a w' where
 c0:=hx.cell_of h.c0
 c1:=hx.cell_of h.c1
 hz:=by rw[hx.frozen _ h.hg];exact h.hz
 hg:=Ix h.hg hx.size
theorem uo.below{g a B:Nat}{t:ByteArray}{w w':World}(h:uo g t a w)(hx:Below B w w')(hB:g<B):uo g t a w' where
 c0:=by have:=h.c0;simp only[World.cell?,hx.block g hB] at this ⊢;exact this
 c1:=by have:=h.c1;simp only[World.cell?,hx.block g hB] at this ⊢;exact this
 hz:=by have:=h.hz;simp only[Ij,hx.block g hB] at this ⊢;exact this
 hg:=Ix h.hg hx.size
theorem aqc{t:ByteArray}{a:Nat}(h:a<t.size):mP t a 1=t[a].toNat:=by
 have h2:t.data[a]?=AI t[a]:=by
  have:a<t.data.size:=h
  rw[Array.getElem?_eq_getElem this];rfl
 simp[mP,h2]
theorem aeI(g a n:Nat)(t:ByteArray)(w:World)(h:uo g t a w)(hs:t.size<=1000)(Ar:a+n<=t.size)(hn:n<=4) :
 Calls AT 123 #[Ik (AI ⟨g,0,U⟩),O J n] w λe w'=>e=Ia (O J (mP t a n))/\Hid (uo g t (a+n) w')/\Hid (Rd g w w'):=by
 refine(Fg g a n t w h.c0 h.c1 h.hz hs Ar hn).mono ?_;rintro e w' ⟨rfl,hx⟩;rw[<- Int.natCast_add] at hx;exact⟨rfl,h.move hx,Rd.aeH hx⟩
theorem aaG(g a k:Nat)(t l:ByteArray)(w:World)(h:uo g t a w)(hs:t.size<=1000)(hk:mP t a 1=k)(Ar:a+1+k<=t.size)(hl:t.extract (a+1) (a+1+k)=l) :
 Calls AT 175 #[Ik (AI ⟨g,0,U⟩)] w λe w'=>e=Ia (I l)/\Hid (uo g t (a+1+k) w')/\Hid (Rd g w w'):=by
 subst hk;subst hl;refine(TI g a t w h hs Ar).mono ?_;rintro e w' ⟨rfl,w1,hx,hy⟩;exact⟨rfl,(h.move hx).move hy,(Rd.aeH hx).trans (Rd.aeH hy)⟩
theorem al7(g a:Nat)(t:ByteArray)(w:World)(h:uo g t a w)(ha:a<t.size) :
 Calls AT 173 #[Ik (AI ⟨g,0,U⟩)] w λe w'=>e=Ia (O .u8 (mP t a 1:Nat))/\Hid (uo g t a w')/\Hid (Rd g w w'):=by
 refine(agT g a t w h.c0 h.c1 ha).mono ?_;rintro e w' ⟨rfl,m,rfl⟩;rw[aqc ha];have hx:w.Extends (w.drew.drewN m):=⟨rfl,rfl,rfl,By _,λ_ _=>rfl,λ_ _=>rfl,λ_ _=>rfl⟩;exact⟨rfl,h.ext hx,Rd.ext hx⟩
end Go.Proofs.YtipbebleapjcjaaGreatDoor
namespace Go.Proofs.YtipbebleapjcjaaGreatDoor
open Go.RowKit Go.Lib
def behind:Nat->List ByteArray->Nat
 |a,[]=>a
 |a,l::r=>behind (a+1+l.size) r
abbrev L1(x:ByteArray):List UInt8:=x.data.toList
def lenOf:Value->Nat
 | sh _ n _=>n
 |_=>0
theorem Ps{l:ByteArray}(h:mT l=true):1<=l.size/\l.size<=30:=by
 unfold mT at h;simp only[IP,decide_eq_true_eq] at h;exact h.1
theorem FX:∀(xs:List (List UInt8)),Lib.join xs [46]=jn xs
 |[]=>rfl
 |[x]=>by simp[Lib.join,jn]
 |x::y::r=>by
  have ih:=FX (y::r);simp[Lib.join,jn] at ih ⊢;first|exact ih|simp[ih]
theorem L3{base:Nat}{w:World}{v:Value}{l:List ByteArray}(h:nD base w v l):lenOf v=l.length:=by
 rcases h.form with⟨rfl,rfl⟩|⟨g,c,rfl,_⟩
 .rfl
 .rfl
theorem zO{base:Nat}{w:World}{v:Value}{l:List ByteArray}(h:nD base w v l):∃p c,v=sh p l.length c:=by
 rcases h.form with⟨rfl,rfl⟩|⟨g,c,rfl,_⟩
 .exact⟨U,0,rfl⟩
 .exact⟨_,c,rfl⟩
theorem Rd.ah0{g:Nat}{w w1 w2:World}(h:Rd g w w1)(hb:Below w.heap.size w1 w2):Rd g w w2:=
 ⟨hb.os.trans h.os,hb.tape.trans h.tape,hb.output.trans h.output,IB h.size hb.size,λk hk hg=>(hb.block k hk).trans (h.block k hk hg)⟩
theorem join_nil(W:World):Calls AT 139 #[sh U 0 0,I ⟨#[46]⟩] W λe w'=>e=Ia (I ⟨#[]⟩)/\Below W.heap.size W w':=by
 go_enter func139,ntmps139;go_wp2_with fail;go_ret;exact⟨rfl,If _ _⟩
theorem aeJ(base:Nat)(ls:List ByteArray)(W:World)(v:Value)(ho:nD base W v ls)(hn:ls.length<=1000)(hz:(jn (ls.map L1)).length<=100000) :
 Calls AT 139 #[v,I ⟨#[46]⟩] W λe w'=>e=Ia (I (mk (jn (ls.map L1))))/\Below W.heap.size W w':=by
 rcases ho.form with⟨rfl,rfl⟩|⟨g,c,rfl,hc,_,hg,nG⟩
 .exact join_nil W
 .have h3:=Tryz.strings_Join g 0 c ls ⟨#[46]⟩ W (λj x hj=>by
   obtain⟨hj1,DY⟩:=List.getElem?_eq_some_iff.1 hj;rw[Nat.zero_add,nG j hj1];simp[Ip,hj1,DY]) hg (by omega) hc (by
   rw[show(J9 #[46]).data.toList=[46] from rfl,FX];exact IB hz (by omega))
  rw[show(J9 #[46]).data.toList=[46] from rfl,FX] at h3;exact h3
theorem KH(w:World)(m:Nat):w.Extends (w.drewN m):=⟨rfl,rfl,rfl,By _,λ_ _=>rfl,λ_ _=>rfl,λ_ _=>rfl⟩
end Go.Proofs.YtipbebleapjcjaaGreatDoor
namespace Go.Proofs.YtipbebleapjcjaaGreatDoor
open Go.RowKit
theorem Tryz.cellsByte:Tryz.prog.cellsOf 5=1:=by kernel_rfl
theorem TJ(B b:Nat)(l:List UInt8)(w:World)(h:oZ B b (Jl l) w)(h0:l≠[]) :
 Calls AT 185 #[Ik (AI ⟨b,0,U⟩)] w λe w'=>e=Ia (I ⟨l.toArray⟩)/\Below B w w':=by
 obtain⟨p,hB,v,Ld,hown,nK⟩:∃p,Ri B b p (Jl l) w:=by
  rcases h with h|h
  .exact⟨_,h⟩
  .exact⟨_,h⟩
 have GY:l.length≠0:=by simpa using h0
 rw[OP] at hown;obtain⟨g,cap,cur,rfl,qa,hg,rF,qw,oH,nA⟩:∃g cap cur,v=sh (AI ⟨g,0,U⟩) l.length cap/\B<=g/\w.heap[g]?=AI (Ib cur 5 (0,0))/\l.length<=cap/\cap<=Il/\cur.size=cap*1/\cur.toList.take (l.length*1)=Jl l:=by
  rcases hown.2 with⟨_,hz⟩|⟨g,cap,cur,hv,r⟩
  .exact absurd hz GY
  .exact⟨g,cap,cur,hv,r⟩
 have c1:w.drew.cell? ⟨b,1,U⟩=AI (sh (AI ⟨g,0,U⟩) l.length cap):=by
  have:w.drew.heap[b]?=AI (Ib #[p,sh (AI ⟨g,0,U⟩) l.length cap] 238 (0,0)):=Ld
  rw[Lib.cell_of_heap this];rfl
 have hSD:(Builtin.unsafeSliceData_ #[139] 271 #[sh (AI ⟨g,0,U⟩) l.length cap]).run AT w.drew=.ok (Ik (AI ⟨g,0,U⟩)) w.drew:=
  Lib.run_unsafeSliceData_row _ _ _ _ _ _ (by omega)
 have hUS:(Builtin.unsafeString_ #[271,3] 9 #[Ik (AI ⟨g,0,U⟩),O J l.length]).run AT w.drew=.ok (I ⟨l.toArray⟩) (w.drew.freeze ⟨g,0,U⟩ l.length):=by
  refine Lib.run_unsafeString_row w.drew 271 3 9 5 UB Tryz.cellsByte g cur.size (by have Ad:w.drew.heap[g]?=AI (Ib cur 5 (0,0)):=hg;simp[World.shape?,Ad]) l h0 (by omega) (by unfold Il at qw;omega) ?_;intro j x hx;have:=hown.cells (g:=g) rfl j (O .u8 x.toNat) (by simp[Jl,hx]);exact this
 have mixed:Tryz.prog.follows .mixedOrders=true:=by kernel_rfl
 go_enter func185,ntmps185;go_wp2_with fail;go_region_o
 all_goals (go_wp2;go_ret;exact⟨rfl,Lib.below_freeze (Below.drew (If B w)) (p:=⟨g,0,U⟩) qa _⟩)
def zP(n:Int):Nat->List UInt8
 |0=>[]
 |k+1=>(bt n k).toNat.toUInt8::zP n k
theorem aeK(n:Int)(k:Nat):0<=bt n k/\bt n k<256:=by
 unfold bt;generalize n/2^(8*(k:Int)).toNat=x;rw[IntKind.wrap_u8];omega
theorem tl(n:Int):∀k,qo n k=Jl (zP n k)
 |0=>rfl
 |k+1=>by
  have h:=aeK n k;rw[qo,tl n k,zP];simp[Jl];omega
def xx(l:ByteArray):List UInt8:=zP l.size 1++l.data.toList
def yT(s:ByteArray):List UInt8:=(oO s).flatMap xx++zP 0 1
theorem tm(a b:List UInt8):Jl (a++b)=Jl a++Jl b:=by simp[Jl]
theorem TK(l:ByteArray):yi l=Jl (xx l):=by
 unfold yi xx;rw[tm,tl];rfl
theorem FY:∀(L:List ByteArray),L.flatMap yi=Jl (L.flatMap xx)
 |[]=>rfl
 |x::r=>by rw[OX,OX,tm,FY r,TK]
theorem uE(s:ByteArray):sA s=Jl (yT s):=by
 unfold sA yT;rw[tm,FY,tl]
def B7(r:Rc.Rec):List Value:=
 if r.mQ=1 then qo r.addr 4
 else if r.mQ=16 then qo r.text.size 1++Ou r.text
 else if r.mQ=33 then qo 0 2++(qo 0 2++(qo r.port 2++sA r.target))
 else[]
theorem xy{s:ByteArray}(h:nS s=0):(sA s).length<=249:=by
 obtain⟨hL8,yC⟩:=xc h;unfold sA;rw[Iq,oL];have:=BG (oO s) yC;omega
theorem oZ.keep{B b:Nat}{bs:List Value}{w w':World}(h:oZ B b bs w)(hk:∀k,k=b\/AI k=oV w b->w'.heap[k]?=w.heap[k]?):oZ B b bs w':=by
 have go:∀p,Ri B b p bs w->Ri B b p bs w':=λp ⟨hB,v,hb,ho,nK⟩=>by
  have e1:oV w b=v.ownBlock:=by unfold oV;rw[fi hb 1];rfl
  refine⟨hB,v,(hk b (.inl rfl)).trans hb,?_,nK⟩;rcases ho.2 with⟨rfl,h0⟩|⟨g,cap,cur,rfl,qa,hg,r⟩
  .exact⟨ho.1,.inl ⟨rfl,h0⟩⟩
  .exact⟨ho.1,.inr ⟨g,cap,cur,rfl,qa,(hk g (.inr (by rw[e1];rfl))).trans hg,r⟩⟩
 rcases h with h|h
 .exact .inl (go _ h)
 .exact .inr (go _ h)
theorem oZ.buf{B b:Nat}{bs:List Value}{w:World}(h:oZ B b bs w):∀k,oV w b=AI k->B<=k/\k<w.heap.size:=by
 have go:∀p,Ri B b p bs w->∀k,oV w b=AI k->B<=k/\k<w.heap.size:=λp ⟨hB,v,hb,ho,nK⟩ k hk=>by
  have e1:oV w b=v.ownBlock:=by unfold oV;rw[fi hb 1];rfl
  rw[e1] at hk;exact ho.lt k hk
 rcases h with h|h
 .exact go _ h
 .exact go _ h
theorem oZ.below{B b:Nat}{bs:List Value}{w w':World}(h:oZ B b bs w)(hb:Below w.heap.size w w'):oZ B b bs w':=
 h.keep λk hk=>by
  rcases hk with rfl|hk
  .exact hb.block _ h.lt
  .exact hb.block _ (h.buf k hk.symm).2
theorem aaH(B b:Nat)(bs:List Value)(r:Rc.Rec)(w:World)(hm:ML w)(h:oZ B b bs w)(hlen:bs.length<=40000)(ht:r.text.size<=200)(hn:nS r.target=0)(Cj:B<=w.heap.size)(zZ:0<B) :
 Calls AT 264 #[Ik (AI ⟨b,0,U⟩),B6 r] w λe w'=>e=Ia (Ir #[])/\oZ B b (bs++B7 r) w'/\Kp B b w w':=by
 have HI:Hid (oZ B b bs w):=h;have nE:=h.lt;clear h;obtain⟨name,mQ,nH,addr,text,port,target⟩:=r;unfold B7;simp only at ht hn ⊢;obtain⟨w0,qu,-,-,pS⟩:=pL w #[I name,O J mQ,O J nH,O J addr,I text,O J port,I target] 104;have Et:Hid (Kp B b w w0):=(show Kp B b w w0 by rw[qu];exact Kp.alloc _ Cj);have HI0:Hid (oZ B b bs w0):=(show oZ B b bs w0 by rw[qu];exact HI.out.alloc _);have oS:B<=w0.heap.size:=IB Cj Et.out.size;have Rh:Hid (ML w0):=(show ML w0 from hm.kp Et.out zZ);clear hm;by_cases h1:mQ=1
 .subst h1
  rw[if_pos rfl];go_enter func264,ntmps264;go_wp2_with fail;rw[<- qu];refine(nM B b 4 addr bs w0 HI0.out (by omega) (by omega) oS).mono ?_;rintro e w1 ⟨rfl,h1,mO⟩;have yb:Hid (oZ B b (bs++qo addr 4) w1):=h1;have wH:Hid (Kp B b w w1):=Et.out.trans mO;clear h1 mO;go_wp2_with fail;simp[JM,results,results264];exact⟨yb.out,wH.out⟩
 rw[if_neg h1];have e1:(mQ==1)=false:=by simpa using h1
 by_cases h2:mQ=16
 .subst h2
  rw[if_pos rfl];clear e1;go_enter func264,ntmps264;go_wp2_with fail;rw[<- qu];refine(Dr B b bs text w0 HI0.out (by omega) (by omega) oS).mono ?_;rintro e w1 ⟨rfl,h1,mO⟩;have yb:Hid (oZ B b (bs++(qo text.size 1++Ou text)) w1):=h1;have wH:Hid (Kp B b w w1):=Et.out.trans mO;clear h1 mO;go_wp2_with fail;simp[JM,results,results264];exact⟨by simpa using yb.out,wH.out⟩
 rw[if_neg h2];have e2:(mQ==16)=false:=by simpa using h2
 by_cases h3:mQ=33
 .subst h3
  rw[if_pos rfl];clear e1 e2;go_enter func264,ntmps264;go_wp2_with fail;rw[<- qu];refine(nM B b 2 0 bs w0 HI0.out (by omega) (by omega) oS).mono ?_;rintro e w1 ⟨rfl,h1,mO⟩;have yb:Hid (oZ B b (bs++qo 0 2) w1):=h1;have wH:Hid (Kp B b w0 w1):=mO;have pC:B<=w1.heap.size:=IB oS wH.out.size;clear h1 mO;go_wp2_with fail;refine(nM B b 2 0 _ w1 yb.out (by omega) (by simp[oL];omega) pC).mono ?_;rintro e w2 ⟨rfl,h1,mO⟩;have zN:Hid (oZ B b ((bs++qo 0 2)++qo 0 2) w2):=h1;have vN:Hid (Kp B b w0 w2):=wH.out.trans mO;have xC:B<=w2.heap.size:=IB oS vN.out.size;have vR:w2.heap[w.heap.size]?=AI (Ib #[I name,O J 33,O J nH,O J addr,I text,O J port,I target] 104 (0,0)):=vN.out.oth _ _ pS (by simp;omega) (by simp);have f5:w2.cell? ⟨w.heap.size,5,U⟩=AI (O J port):=fi vR 5;clear h1 mO vR;go_wp2_with fail;refine(nM B b 2 port _ w2 zN.out (by omega) (by simp[oL];omega) xC).mono ?_;rintro e w3 ⟨rfl,h1,mO⟩;have HI3:Hid (oZ B b (((bs++qo 0 2)++qo 0 2)++qo port 2) w3):=h1;have Ac:Hid (Kp B b w0 w3):=vN.out.trans mO;have zV:B<=w3.heap.size:=IB oS Ac.out.size;have Cv:w3.heap[w.heap.size]?=AI (Ib #[I name,O J 33,O J nH,O J addr,I text,O J port,I target] 104 (0,0)):=Ac.out.oth _ _ pS (by simp;omega) (by simp);have f6:w3.cell? ⟨w.heap.size,6,U⟩=AI (I target):=fi Cv 6;clear h1 mO Cv;go_wp2_with fail;refine(CE B b _ target w3 (Rh.out.kp Ac.out zZ) HI3.out (by simp[oL];omega) hn zV).mono ?_;rintro e w4 ⟨rfl,h1,mO⟩;have HI4:Hid (oZ B b (bs++(qo 0 2++(qo 0 2++(qo port 2++sA target)))) w4):=(show oZ _ _ _ _ by simpa[Jh] using h1);have Co:Hid (Kp B b w w4):=Et.out.trans (Ac.out.trans mO);clear h1 mO;go_wp2_with fail;simp[JM,results,results264];exact⟨by simpa using HI4.out,Co.out⟩
 rw[if_neg h3];have e3:(mQ==33)=false:=by simpa using h3
 clear h1 h2 h3;go_enter func264,ntmps264;go_wp2_with fail;simp[JM,results,results264];rw[<- qu];exact⟨HI0.out,Et.out⟩
def uR(r:Rc.Rec):List UInt8:=
 if r.mQ=1 then zP r.addr 4
 else if r.mQ=16 then zP r.text.size 1++r.text.data.toList
 else if r.mQ=33 then zP 0 2++(zP 0 2++(zP r.port 2++yT r.target))
 else[]
theorem KI(s:ByteArray):Ou s=Jl s.data.toList:=rfl
theorem FZ(r:Rc.Rec):B7 r=Jl (uR r):=by
 unfold B7 uR;split
 .exact tl _ _
 split
 .rw[tm,tl,KI]
 split
 .simp only[tm,tl,uE]
 .rfl
theorem Pt{r:Rc.Rec}(ht:r.text.size<=200)(hn:nS r.target=0):(B7 r).length<=255:=by
 have:=xy hn;unfold B7;split
 .simp[oL]
 split
 .simp[oL,Lib.strCells_length];omega
 split
 .simp only[Iq,oL];omega
 .simp
theorem aeL{r:Rc.Rec}(h:qS r.mQ=true):uR r≠[]:=by
 unfold uR;simp only[qS,Bool.or_eq_true,decide_eq_true_eq] at h;split
 .simp[zP]
 split
 .simp[zP]
 split
 .simp[zP]
 .omega
theorem tK{r:Rc.Rec}(h:nT r=0):nS r.name=0/\qS r.mQ=true/\r.text.size<=200/\nS r.target=0:=by
 unfold nT at h;split at h
 .omega
 rename_i h1;split at h
 .omega
 rename_i h2;split at h
 .omega
 split at h
 .omega
 split at h
 .omega
 split at h
 .omega
 rename_i h6;exact⟨by omega,by simpa using h2,by omega,h⟩
def vK(r:Rc.Rec):List Value:=sA r.name++(qo r.mQ 2++(qo 1 2++(qo r.nH 4++(qo (B7 r).length 2++B7 r))))
theorem ah1(B b:Nat)(bs:List Value)(w:World)(h:oZ B b bs w) :
 Calls AT 265 #[Ik (AI ⟨b,0,U⟩)] w λe w'=>e=Ia (O J bs.length)/\w'=w:=by
 obtain⟨p,hB,v,Ld,hown,nK⟩:∃p,Ri B b p bs w:=by
  rcases h with h|h
  .exact⟨_,h⟩
  .exact⟨_,h⟩
 have c1:w.cell? ⟨b,1,U⟩=AI v:=fi Ld 1;obtain⟨ao,cap,rfl⟩:∃ao cap,v=sh ao bs.length cap:=by
  rcases hown.2 with⟨rfl,h0⟩|⟨g,cap,cur,rfl,_⟩
  .exact⟨U,0,by rw[h0]⟩
  .exact⟨_,cap,rfl⟩
 go_enter func265,ntmps265;go_wp2_with fail;go_ret;exact⟨rfl,rfl⟩
theorem L4(w:World)(p:Addr)(n k:Nat)(h:k≠p.block):(w.freeze p n).heap[k]?=w.heap[k]?:=by
 unfold World.freeze;split
 .rfl
 .simp only[Array.getElem?_modify]
  rw[if_neg (Ne.symm h)]
theorem Pu(B b:Nat)(l:List UInt8)(w:World)(h:oZ B b (Jl l) w)(h0:l≠[]) :
 Calls AT 185 #[Ik (AI ⟨b,0,U⟩)] w λe w'=>e=Ia (I ⟨l.toArray⟩)/\Below B w w'/\∀k,AI k≠oV w b->w'.heap[k]?=w.heap[k]?:=by
 obtain⟨p,hB,v,Ld,hown,nK⟩:∃p,Ri B b p (Jl l) w:=by
  rcases h with h|h
  .exact⟨_,h⟩
  .exact⟨_,h⟩
 have aqd:oV w b=v.ownBlock:=by unfold oV;rw[fi Ld 1];rfl
 have GY:l.length≠0:=by simpa using h0
 rw[OP] at hown;obtain⟨g,cap,cur,rfl,qa,hg,rF,qw,oH,nA⟩:∃g cap cur,v=sh (AI ⟨g,0,U⟩) l.length cap/\B<=g/\w.heap[g]?=AI (Ib cur 5 (0,0))/\l.length<=cap/\cap<=Il/\cur.size=cap*1/\cur.toList.take (l.length*1)=Jl l:=by
  rcases hown.2 with⟨_,hz⟩|⟨g,cap,cur,hv,r⟩
  .exact absurd hz GY
  .exact⟨g,cap,cur,hv,r⟩
 have c1:w.drew.cell? ⟨b,1,U⟩=AI (sh (AI ⟨g,0,U⟩) l.length cap):=by
  have:w.drew.heap[b]?=AI (Ib #[p,sh (AI ⟨g,0,U⟩) l.length cap] 238 (0,0)):=Ld
  rw[Lib.cell_of_heap this];rfl
 have hSD:(Builtin.unsafeSliceData_ #[139] 271 #[sh (AI ⟨g,0,U⟩) l.length cap]).run AT w.drew=.ok (Ik (AI ⟨g,0,U⟩)) w.drew:=
  Lib.run_unsafeSliceData_row _ _ _ _ _ _ (by omega)
 have hUS:(Builtin.unsafeString_ #[271,3] 9 #[Ik (AI ⟨g,0,U⟩),O J l.length]).run AT w.drew=.ok (I ⟨l.toArray⟩) (w.drew.freeze ⟨g,0,U⟩ l.length):=by
  refine Lib.run_unsafeString_row w.drew 271 3 9 5 UB Tryz.cellsByte g cur.size (by have Ad:w.drew.heap[g]?=AI (Ib cur 5 (0,0)):=hg;simp[World.shape?,Ad]) l h0 (by omega) (by unfold Il at qw;omega) ?_;intro j x hx;have:=hown.cells (g:=g) rfl j (O .u8 x.toNat) (by simp[Jl,hx]);exact this
 have mixed:Tryz.prog.follows .mixedOrders=true:=by kernel_rfl
 have Lf:Hid (∀k,AI k≠oV w b->(w.drew.freeze ⟨g,0,U⟩ l.length).heap[k]?=w.heap[k]?):=λk hk=>L4 w.drew _ _ k (λe=>hk (by rw[aqd,e];rfl));clear aqd;go_enter func185,ntmps185;go_wp2_with fail;go_region_o
 all_goals (go_wp2;go_ret;exact⟨rfl,Lib.below_freeze (Below.drew (If B w)) (p:=⟨g,0,U⟩) qa _,Lf.out⟩)
theorem wC{w w':World}{b:Nat}(h:w'.heap[b]?=w.heap[b]?):oV w' b=oV w b:=by
 unfold oV;rw[World.cell?_of_block (a:=⟨b,1,U⟩) h]
theorem oZ.bytes{B b:Nat}{bs:List Value}{w:World}(h:oZ B b bs w):∀k,oV w b=AI k->∃c fz,w.heap[k]?=AI (Ib c 5 fz):=by
 have go:∀p,Ri B b p bs w->∀k,oV w b=AI k->∃c fz,w.heap[k]?=AI (Ib c 5 fz):=λp ⟨hB,v,hb,ho,nK⟩ k hk=>by
  have e1:oV w b=v.ownBlock:=by unfold oV;rw[fi hb 1];rfl
  rw[e1] at hk;exact Fi ho k hk
 rcases h with h|h
 .exact go _ h
 .exact go _ h
theorem Kp.under{B b d:Nat}{w w':World}(h:Below d w w')(hd:w.heap.size<=d)(hB:B<=d):Kp B b w w':=
 ⟨h.mono hB,λk o hk _ _=>(h.block k (Ix (Ig.1 hk).1 hd)).trans hk,λhb=>⟨λk hk _ _=>h.block k (by omega),.inl (wC (h.block b (by omega)))⟩⟩
theorem Kp.av7{B b d:Nat}{ds:List Value}{w w6 w7:World}(h:Kp B b w w6)(hd:oZ d d ds w6)(hwd:w.heap.size<=d)(hBd:B<=d)(hb:b<w.heap.size)(av8:Below d w6 w7)(hk:∀k,AI k≠oV w6 d->w7.heap[k]?=w6.heap[k]?):Kp B b w w7 where
 Mo:=h.Mo.trans (av8.mono hBd)
 oth:=λk o hk1 hkb tY=>by
  have h6:=h.oth k o hk1 hkb tY;refine(hk k λe=>?_).trans h6;obtain⟨c,fz,hc⟩:=hd.bytes k e.symm;rw[h6] at hc;injection hc with hc;exact tY _ _ hc
 kq:=λAl=>by
  obtain⟨h1,h2⟩:=h.kq Al;have nK:∀k,k<w.heap.size->AI k≠oV w6 d:=λk Pv e=>by have:=(hd.buf k e.symm).1;omega
  refine⟨λk Pv hkb tp=>(hk k (nK k Pv)).trans (h1 k Pv hkb tp),?_⟩;rw[wC (hk b (nK b hb))];exact h2
theorem aaI{b d:Nat}{ds:List Value}{w1 w6:World}(hk:Kq b w1 w6)(hb:b<w1.heap.size)(hd:oZ d d ds w1)(hold:∀k,oV w1 b=AI k->k<d)(hd6:oV w6 d=oV w1 d):∀k,AI k=oV w6 b->AI k≠oV w6 d:=λk e1 e2=>by
 rw[hd6] at e2;have h1:=hd.buf k e2.symm;rcases(hk hb).2 with h2|h2
 .have:=hold k (by rw[<- h2];exact e1.symm);omega
 .have:=h2 k e1.symm;omega
theorem oZ.other{b d:Nat}{ds:List Value}{w1 w6:World}(hd:oZ d d ds w1)(hk:Kq b w1 w6)(hb:b<d)(hold:∀k,oV w1 b=AI k->k<d):oZ d d ds w6/\oV w6 d=oV w1 d:=by
 have Al:b<w1.heap.size:=Nat.lt_trans hb hd.lt;obtain⟨h1,_⟩:=hk Al;have hdd:w6.heap[d]?=w1.heap[d]?:=h1 d hd.lt (by omega) (λe=>by have:=hold d e.symm;omega);refine⟨hd.keep λk DT=>?_,wC hdd⟩;rcases DT with rfl|DT
 .exact hdd
 .have h3:=hd.buf k DT.symm
  exact h1 k h3.2 (by omega) (λe=>by have:=hold k e.symm;omega)
theorem Pw(B b:Nat)(bs:List Value)(r:Rc.Rec)(w:World)(hm:ML w)(h:oZ B b bs w)(hlen:bs.length<=30000)(hc:nT r=0)(Cj:B<=w.heap.size)(_hB0:0<B) :
 Calls AT 232 #[Ik (AI ⟨b,0,U⟩),B6 r] w λe w'=>e=Ia (Ir #[])/\oZ B b (bs++vK r) w'/\Kp B b w w':=by
 obtain⟨hcn,V5,htx,hcg⟩:=tK hc;have HI:Hid (oZ B b bs w):=h;have nE:=h.lt;have hwl:=xy hcn;have hdl:=Pt htx hcg;have aqe:=aeL V5;have HDC:Hid _:=FZ r;clear h hc;go_enter func232,ntmps232;go_wp2_with fail;obtain⟨w0,qu⟩:∃w0,w0=(w.alloc (Ib #[I r.name,O J r.mQ,O J r.nH,O J r.addr,I r.text,O J r.port,I r.target] 104)).alloc (Ib #[Ik U,sh U 0 0] 238):=⟨_,rfl⟩;rw[<- qu];have hn0:w0.heap.size=w.heap.size+1+1:=by rw[qu];simp
 have pS:w0.heap[w.heap.size]?=AI (Ib #[I r.name,O J r.mQ,O J r.nH,O J r.addr,I r.text,O J r.port,I r.target] 104 (0,0)):=by
  rw[qu];exact(Lib.alloc_old _ _ _ (by simp)).trans (Ii w _)
 have yo:w0.heap[w.heap.size+1]?=AI (Ib #[Ik U,sh U 0 0] 238 (0,0)):=by
  have h:=Ii (w.alloc (Ib #[I r.name,O J r.mQ,O J r.nH,O J r.addr,I r.text,O J r.port,I r.target] 104)) (Ib #[Ik U,sh U 0 0] 238);rw[qu];simpa using h
 have pN:Hid (Below w.heap.size w w0):=(show Below _ _ _ by rw[qu];exact((If _ _).alloc (By _) _).alloc (by simp) _);have Rh:Hid (ML w0):=(show ML w0 from hm.below pN.out);clear qu hm;refine(aaH (w.heap.size+1) (w.heap.size+1) [] r w0 Rh.out (.inl ⟨By _,sh U 0 0,yo,Jz w0 _ 5 1,by simp[Value.ownBlock]⟩) (by simp) htx hcg (by omega) (by omega)).mono ?_;rintro e w1 ⟨rfl,h1,mO⟩;have uC:Hid (oZ (w.heap.size+1) (w.heap.size+1) (B7 r) w1):=(show oZ _ _ _ _ by simpa using h1);have mY:Hid _:=mO.Mo;have aeM:Hid _:=pN.out.trans (mO.Mo.mono (by omega));have wH:Hid (Kp B b w w1):=Kp.under aeM.out (By _) Cj;have HM1:Hid (ML w1):=(show ML w1 from Rh.out.kp mO (by omega));have yb:Hid (oZ B b bs w1):=HI.out.below aeM.out;have ah3:Hid (∀k,oV w1 b=AI k->k<w.heap.size+1):=λk hk=>by
  rw[wC (aeM.out.block b nE)] at hk;have:=(HI.out.buf k hk).2;omega
 have ou:=(mY.out.block _ (by omega)).trans pS;have pC:=IB Cj aeM.out.size;have HG:Hid (∀W,Kp B b w1 W->W.heap[w.heap.size]?=AI (Ib #[I r.name,O J r.mQ,O J r.nH,O J r.addr,I r.text,O J r.port,I r.target] 104 (0,0))):=λW hW=>hW.oth _ _ ou (by simp;omega) (by simp);have f0:=fi ou 0;clear h1 mO pS yo ou;go_wp2_with fail;refine(CE B b bs r.name w1 HM1.out yb.out (by omega) hcn pC).mono ?_;rintro e w2 ⟨rfl,h1,mO⟩;have zN:Hid (oZ _ _ _ _):=h1;have vN:Hid _:=mO;have xC:=IB pC vN.out.size;have f1:=fi (HG.out w2 vN.out) 1;clear h1 mO f0;go_wp2_with fail;refine(nM B b 2 r.mQ _ w2 zN.out (by omega) (by simp;omega) xC).mono ?_;rintro e w3 ⟨rfl,h1,mO⟩;have HI3:Hid (oZ _ _ _ _):=h1;have Ac:Hid _:=vN.out.trans mO;have zV:=IB pC Ac.out.size;clear h1 mO f1;go_wp2_with fail;refine(nM B b 2 1 _ w3 HI3.out (by omega) (by simp[oL];omega) zV).mono ?_;rintro e w4 ⟨rfl,h1,mO⟩;have HI4:Hid (oZ _ _ _ _):=h1;have Co:Hid _:=Ac.out.trans mO;have uZ:=IB pC Co.out.size;have f2:=fi (HG.out w4 Co.out) 2;clear h1 mO;go_wp2_with fail;refine(nM B b 4 r.nH _ w4 HI4.out (by omega) (by simp[oL];omega) uZ).mono ?_;rintro e w5 ⟨rfl,h1,mO⟩;have HI5:Hid (oZ _ _ _ _):=h1;have HK5:Hid _:=Co.out.trans mO;have uJ:=IB pC HK5.out.size;have HD5:Hid (oZ _ _ _ _):=(uC.out.other HK5.out.kq (by omega) ah3.out).1;clear h1 mO f2;go_wp2_with fail;refine(ah1 _ _ _ w5 HD5.out).mono ?_;rintro e w5' ⟨rfl,DV⟩;subst DV;go_wp2_with fail;refine(nM B b 2 (B7 r).length _ w5' HI5.out (by omega) (by simp[oL];omega) uJ).mono ?_;rintro e w6 ⟨rfl,h1,mO⟩;have Px:Hid (oZ _ _ _ _):=h1;have Ww:Hid _:=HK5.out.trans mO;have hz6:=IB pC Ww.out.size;obtain⟨hd6,ajw⟩:=uC.out.other Ww.out.kq (by omega) ah3.out;have HD6:Hid (oZ _ _ _ _):=hd6;have aqh:Hid (oZ (w.heap.size+1) (w.heap.size+1) (Jl (uR r)) w6):=(show oZ _ _ _ _ by rw[<- HDC.out];exact hd6);have HAP:Hid _:=aaI Ww.out.kq (by have:=aeM.out.size;omega) uC.out ah3.out ajw;clear h1 mO hd6 ajw;go_wp2_with fail;have od:(⟨(uR r).toArray⟩:ByteArray).size=(B7 r).length:=by rw[HDC.out,OP];simp[JN]
 have HSC:Hid (Ou ⟨(uR r).toArray⟩=B7 r):=(show _=_ by rw[HDC.out,KI]);have HL6:Hid ((((((bs++sA r.name)++qo r.mQ 2)++qo 1 2)++qo r.nH 4)++qo (B7 r).length 2).length+(⟨(uR r).toArray⟩:ByteArray).size<=1000000):=(show _<=_ by rw[od];simp[oL];omega);have yB:Hid (Calls AT 185 #[Ik (AI ⟨w.heap.size+1,0,U⟩)] w6.drew λe w'=>e=Ia (I ⟨(uR r).toArray⟩)/\Hid (Kp B b w w'/\oZ B b (((((bs++sA r.name)++qo r.mQ 2)++qo 1 2)++qo r.nH 4)++qo (B7 r).length 2) w'/\B<=w'.heap.size)):=(show Calls _ _ _ _ _ by
  refine(Pu _ _ (uR r) w6.drew aqh.out aqe).mono ?_;rintro e w7 ⟨rfl,h1,mO⟩;have HK7:=(wH.out.trans Ww.out).drew.av7 (w6:=w6.drew) HD6.out (by omega) (by omega) nE h1 mO;refine⟨rfl,HK7,Px.out.keep λk hk=>?_,IB Cj HK7.size⟩;rcases hk with rfl|hk
  .refine mO _ λe=>?_
   have:=(HD6.out.buf _ e.symm).1;omega
  .exact mO k (HAP.out k hk))
 clear HD6 aqh HAP Px Ww ah3 uC aqe yb zN HI3 HI4 HI5 vN Ac Co HK5 HD5;go_region_held3 (λ_=>True) (trivial) (first
  |(go_at_call 185;refine yB.out.mono ?_;rintro e w7 ⟨rfl,H7⟩)
  |(go_at_call 184;refine(xZ B b _ _ _ H7.out.2.1 HL6.out H7.out.2.2).mono ?_;rintro e w8 ⟨rfl,h1,mO⟩))
 have HI8:Hid (oZ B b (bs++vK r) w8):=(show oZ _ _ _ _ by
  unfold vK;have h2:oZ B b _ w8:=.inr h1;rw[HSC.out] at h2;simpa[Jh] using h2)
 have HK8:Hid _:=H7.out.1.trans mO;clear h1 mO;go_wp2_with fail;simp[JM,results,results232];exact⟨HI8.out,HK8.out⟩
def nX(n:Int)(k:Nat):ByteArray:=⟨(zP n k).toArray⟩
theorem F9(W:World)(x:UInt8):(convert 139 9 (sh (AI ⟨W.heap.size,0,U⟩) 1 1)).run AT (W.alloc (Ib #[O .u8 x.toNat] 5))=.ok (I ⟨#[x]⟩) (W.alloc (Ib #[O .u8 x.toNat] 5)):=by
 have h:=run_convert_bytes_back (P:=AT) (W.alloc (Ib #[O .u8 x.toNat] 5)) 139 9 5 ⟨W.heap.size,0,U⟩ 1 [x] underlying139 underlying5 IF (λj hj=>by
  have hj0:j=0:=by simpa using hj
  subst hj0;exact fi (Ii W (Ib #[O .u8 x.toNat] 5)) 0)
 exact h
theorem aaJ(n:Int)(k:Nat):(⟨#[(bt n k).toNat.toUInt8]⟩:ByteArray)++nX n k=nX n (k+1):=by
 apply pW;simp[nX,zP]
theorem EE(n:Int):∀k,(zP n k).length=k
 |0=>rfl
 |k+1=>by simp[zP,EE n k]
theorem qd(n:Int)(k:Nat):(nX n k).size=k:=by
 have h:=EE n k;simp[nX,JN,h]
theorem ah4{n m:Int}{j:Nat}(hm:m=n/2^(8*j)):m%256=(((bt n j).toNat.toUInt8).toNat:Int):=by
 have hr:=aeK n j;have h2:bt n j=m%256:=by
  unfold bt;rw[show(8*(j:Int)).toNat=8*j by omega,<- hm,IntKind.wrap_u8]
 rw[h2];have h3:(m%256).toNat<256:=by omega
 have h4:((m%256).toNat.toUInt8).toNat=(m%256).toNat:=by
  simp[Nat.toUInt8];omega
 rw[h4];omega
theorem A9(n:Int)(k:Nat)(w:World)(hn:0<=n)(hn2:n<=9223372036854775807)(hk:k<=8) :
 Calls AT 148 #[O J n,O J k] w λe w'=>e=Ia (I (nX n k))/\Below w.heap.size w w':=by
 go_enter func148,ntmps148;go_wp2_with fail;go_loopw [0,5,6] (λnv sv i wr=>∃(j:Nat) (m:Int),j<=k/\nv=O J m/\0<=m/\m<=9223372036854775807/\Hid (m=n/2^(8*j))/\sv=I (nX n j)/\i=O J j/\Hid (Below w.heap.size w wr)) (λ_ _ i _=>k-(intOf i).toNat)
 case atStart=>exact⟨0,n,Iw _,rfl,hn,hn2,(show n=_ by simp),rfl,rfl,If _ _⟩
 case round=>
  obtain⟨j,m,hj,rfl,hm0,Cu,HM,rfl,rfl,HB⟩:=hrel;have od:=HB.out.size;by_cases mS:j<k
  .have hd:decide ((j:Int)<(k:Int))=true:=by simp;omega
   have hx:=ah4 HM.out;have Bv:Hid ((⟨#[(bt n j).toNat.toUInt8]⟩:ByteArray)++nX n j=nX n (j+1)):=aaJ n j;have HM2:Hid (m/256=n/2^(8*(j+1))):=(show _=_ by
    rw[HM.out,Int.ediv_ediv_of_nonneg (by exact Int.le_of_lt (Int.pow_pos (by decide)))];congr 1;rw[show 8*(j+1)=8*j+8 by omega,Int.pow_add];rfl)
   have aEa:Sem.run AT (convert 139 9 (sh (AI ⟨wr.heap.size,0,U⟩) 1 1)) (wr.alloc (Ib #[O .u8 (m%256)] 5))=.ok (I ⟨#[(bt n j).toNat.toUInt8]⟩) (wr.alloc (Ib #[O .u8 (m%256)] 5)):=by
    rw[hx];exact F9 wr _
   have XG:0<=m/256:=by omega
   have hm3:m/256<=9223372036854775807:=by omega
   clear hx;generalize(bt n j).toNat.toUInt8=x at *;have hss:¬ 9223372036854775807<1+(nX n j).size:=by rw[qd];omega
   go_wp2_with fail;exact⟨⟨j+1,m/256,by omega,rfl,XG,hm3,HM2,by rw[Bv.out],by go_num,HB.out.alloc od _⟩,by simp[intOf];omega⟩
  .have K4:j=k:=by omega
   have HF:Hid (nX n j=nX n k):=(show _=_ by rw[K4]);have hd:decide ((j:Int)<(k:Int))=false:=by simp;omega
   clear K4;go_wp2_with fail;go_ret;exact⟨by rw[HF.out];rfl,HB.out⟩
end Go.Proofs.YtipbebleapjcjaaGreatDoor
namespace Go.Proofs.YtipbebleapjcjaaGreatDoor
open Go.RowKit Go.Lib
structure St(g:Nat)(t:ByteArray)(w:World)(T:Ji)(zs:Array Value)(a:Nat)(cs:Array Value)(W:World):Prop where
 tL:uo g t a W
 rd:Rd g w W
 qx:W.heap[w.heap.size]?=AI (Ib zs T (0,0))
 bx:W.heap[w.heap.size+1]?=AI (Ib cs T (0,0))
 lt:g<w.heap.size
theorem St.call{g a b:Nat}{t:ByteArray}{w W W':World}{T:Ji}{zs cs:Array Value}(h:St g t w T zs a cs W)(h1:Hid (uo g t b W'))(h2:Hid (Rd g W W')):St g t w T zs b cs W':=
 ⟨h1.out,h.rd.trans h2.out,(h2.out.block _ (Ig.1 h.qx).1 (by have:=h.lt;omega)).trans h.qx,(h2.out.block _ (Ig.1 h.bx).1 (by have:=h.lt;omega)).trans h.bx,h.lt⟩
theorem St.keep{g a:Nat}{t:ByteArray}{w W W':World}{T:Ji}{zs cs:Array Value}(h:St g t w T zs a cs W)(h1:W.Extends W'):St g t w T zs a cs W':=
 h.call (h.tL.ext h1) (Rd.ext h1:Rd g W W')
theorem St.store{g a:Nat}{t:ByteArray}{w W:World}{T:Ji}{zs cs:Array Value}(h:St g t w T zs a cs W)(i:Nat)(v:Value):St g t w T zs a (cs.setIfInBounds i v) (W.setCell ⟨w.heap.size+1,i,U⟩ v) where
 tL:=⟨(JL _ _ _ _ (by have:=h.lt;intro e;simp at e)).trans h.tL.c0,(JL _ _ _ _ (by have:=h.lt;intro e;simp at e)).trans h.tL.c1,by simpa using h.tL.hz,by simpa using h.tL.hg⟩
 rd:=⟨h.rd.os,h.rd.tape,h.rd.output,by simpa using h.rd.size,λk hk hg=>(IC W _ v k (by simp;omega)).trans (h.rd.block k hk hg)⟩
 qx:=(IC W _ v _ (by simp)).trans h.qx
 bx:=Joins.block_setCell h.bx v
 lt:=h.lt
theorem St.cell{g a:Nat}{t:ByteArray}{w W:World}{T:Ji}{zs cs:Array Value}(h:St g t w T zs a cs W)(i:Nat):W.cell? ⟨w.heap.size+1,i,U⟩=cs[i]?:=fi h.bx i
theorem St.free{g a:Nat}{t:ByteArray}{w W:World}{T:Ji}{zs cs:Array Value}(h:St g t w T zs a cs W)(i:Nat):W.frozen? ⟨w.heap.size+1,i,U⟩=false:=by simp[Ij,h.bx]
theorem St.ox{g a:Nat}{t:ByteArray}{w W:World}{T:Ji}{zs cs:Array Value}(h:St g t w T zs a cs W)(i:Nat):W.cell? ⟨w.heap.size,i,U⟩=zs[i]?:=fi h.qx i
theorem St.oy{g a:Nat}{t:ByteArray}{w W:World}{T:Ji}{zs cs:Array Value}(h:St g t w T zs a cs W)(i:Nat):W.frozen? ⟨w.heap.size,i,U⟩=false:=by simp[Ij,h.qx]
theorem Rd.put{g b:Nat}{w W:World}(h:Rd g w W)(i:Nat)(v:Value)(hb:w.heap.size<=b):Rd g w (W.setCell ⟨b,i,U⟩ v):=
 ⟨h.os,h.tape,h.output,by simpa using h.size,λk hk hg=>(IC W _ v k (by simp;omega)).trans (h.block k hk hg)⟩
abbrev oG:Array Value:=#[O J 0,Ic false,Ic false,O J 0,I ⟨#[]⟩,O J 0,sh U 0 0]
theorem frozenAt{W:World}{g:Nat}{cs:Array Value}{T:Ji}(h:W.heap[g]?=AI (Ib cs T (0,0)))(i:Nat):W.frozen? ⟨g,i,U⟩=false:=by simp[Ij,h]
theorem Rd.here{g:Nat}{w W:World}(h:Rd g w W)(i:Nat)(v:Value):Rd g w (W.setCell ⟨g,i,U⟩ v):=
 ⟨h.os,h.tape,h.output,by simpa using h.size,λk hk hg=>(IC W _ v k (by simpa using hg)).trans (h.block k hk hg)⟩
end Go.Proofs.YtipbebleapjcjaaGreatDoor
namespace Go.Proofs.YtipbebleapjcjaaGreatDoor
open Go.RowKit
def yU(L:List ByteArray):ByteArray:=⟨(L.flatMap xx).toArray⟩
def Ha(s:ByteArray):ByteArray:=⟨(yT s).toArray⟩
theorem aaK(L:List ByteArray)(k:Nat)(h:k<L.length):yU (L.take k)++(nX (L.getD k Ie).size 1++L.getD k Ie)=yU (L.take (k+1)):=by
 have e:(L.take (k+1)).flatMap xx=(L.take k).flatMap xx++xx L[k]:=by
  rw[List.take_succ_eq_append_getElem h,List.flatMap_append];simp
 apply pW;unfold yU;rw[e];simp[nX,xx,Ip,h]
theorem aeN(s:ByteArray):yU (oO s)++nX 0 1=Ha s:=by
 apply pW;simp[yU,Ha,nX,yT]
theorem KJ:∀(L:List ByteArray),(∀x∈L,x.size<=30)->(L.flatMap xx).length<=31*L.length
 |[],_=>by simp
 |x::r,h=>by
  have h1:=h x List.mem_cons_self;have h2:=KJ r (λy hy=>h y (List.mem_cons_of_mem _ hy));rw[OX,Iq,Je]
  have:(xx x).length=1+x.size:=by simp[xx,EE]
  omega
theorem Hb(s:ByteArray)(w:World)(hn:nS s=0) :
 Calls AT 149 #[I s] w λe w'=>e=Ia (I (Ha s))/\Below w.heap.size w w':=by
 have od:s.size<=2000000:=by
  by_cases h0:s.size=0
  .omega
  .unfold nS at hn
   rw[if_neg h0] at hn;split at hn
   .omega
   .split at hn<;>omega
 have HLO:Hid (Calls AT 45 #[I s] w λe w'=>∃v,e=Ia v/\nD w.heap.size w' v (oO s)/\Below w.heap.size w w'):=xM s w od;obtain⟨hL8,yC⟩:=xc hn;have awa:Hid (yU (oO s)++nX 0 1=Ha s):=aeN s;clear hn od;generalize oO s=L at *;have yB:Hid (∀k,k<L.length->yU (L.take k)++(nX (L.getD k Ie).size 1++L.getD k Ie)=yU (L.take (k+1))):=λk h=>aaK L k h;have HSZ:Hid (∀k,(yU (L.take k)).size<=248):=λk=>by
  have h:=KJ (L.take k) λx hx=>yC x (List.mem_of_mem_take hx);have h2:(yU (L.take k)).size=((L.take k).flatMap xx).length:=by simp[yU,JN]
  rw[List.length_take] at h;omega
 have akG:Hid (∀j,(L.getD j Ie).size<=30):=λj=>by
  by_cases hj:j<L.length
  .rw[show L.getD j Ie=L[j] by simp[Ip,Ih hj]]
   exact yC _ (IU hj)
  .rw[show L.getD j Ie=Ie by simp[Ip,IK (by omega:L.length<=j)]];decide
 have aeO:Hid (L.take L.length=L):=List.take_length;clear yC;go_enter func149,ntmps149;go_wp2_with fail;refine HLO.out.mono ?_;rintro e w1 ⟨v,rfl,ho,mO⟩;have mY:Hid (Below w.heap.size w w1):=mO;have uH:Hid (nD w.heap.size w1 v L):=ho;clear mO ho;obtain⟨pl,cap,hv,nG⟩:∃pl cap,v=sh pl L.length cap/\∀W,Below w1.heap.size w1 W->∀k,k<L.length->∃g,pl=AI ⟨g,0,U⟩/\g<W.heap.size/\W.cell? ⟨g,k,U⟩=AI (I (L.getD k Ie)):=by
  rcases uH.out.form with⟨hv,h0⟩|⟨g,c,hv,_,_,hg,hc⟩
  .exact⟨U,0,by rw[hv,h0];rfl,λW _ k hk=>by rw[h0] at hk;simp at hk⟩
  .exact⟨_,c,hv,λW hW k hk=>⟨g,rfl,Ix hg hW.size,(hW.cell (p:=⟨g,k,U⟩) hg).trans (hc k hk)⟩⟩
 subst hv;have aqi:Hid (∀W,Below w1.heap.size w1 W->∀k,k<L.length->∃g,pl=AI ⟨g,0,U⟩/\g<W.heap.size/\W.cell? ⟨g,k,U⟩=AI (I (L.getD k Ie))):=nG;clear nG HLO;generalize M4:L.length=n at *;clear M4;go_wp2_with fail;go_loopw [3,5] (λsv iv wr=>∃k:Nat,k<=n/\sv=I (yU (L.take k))/\iv=O J k/\Hid (Below w1.heap.size w1 wr)) (λ_ i _=>n-(intOf i).toNat)
 case atStart=>exact⟨0,Iw _,rfl,rfl,If _ _⟩
 case round=>
  obtain⟨k,hk,rfl,rfl,qQ⟩:=hrel;have ahq:=qQ.out.size;have oH:=HSZ.out k;by_cases mS:k<n
  .obtain⟨g,hpl,hg,hc⟩:=aqi.out wr qQ.out k mS
   subst hpl;have at0:=akG.out k;have Bv:=yB.out k mS;have HS3:Hid (yU (L.take k)++(nX (L.getD k Ie).size 1++L.getD k Ie)=yU (L.take (k+1))):=Bv;clear Bv;generalize L.getD k Ie=x at *;have HNU:Hid (∀W,Calls AT 148 #[O J x.size,O J 1] W λe w'=>e=Ia (I (nX x.size 1))/\Below W.heap.size W w'):=λW=>A9 x.size 1 W (by omega) (by omega) (by omega);have hns:(nX x.size 1).size<=1:=by rw[qd];omega
   generalize nX x.size 1=Y at *;generalize yU (L.take k)=C at *;have hd:decide ((k:Int)<(n:Int))=true:=by simp;omega
   have qg:(0:Int)<=(k:Int):=by omega
   have XC:(k:Int)<(n:Int):=by omega
   have GM:((k:Int)).toNat=k:=by omega
   have sj:¬ 9223372036854775807<Y.size+x.size:=by omega
   have AP:¬ 9223372036854775807<C.size+(Y++x).size:=by rw[Om];omega
   have V0:¬ 9223372036854775807<C.size+(Y.size+x.size):=by omega
   have awb:Hid (Calls AT 148 #[O J x.size,O J 1] wr.drew λe w'=>e=Ia (I Y)/\w'.cell? ⟨g,k,U⟩=AI (I x)/\Hid (Below w1.heap.size w1 w')):=(show Calls _ _ _ _ _ by
    refine(HNU.out wr.drew).mono ?_;rintro e w5 ⟨rfl,sK⟩;exact⟨rfl,(sK.cell (p:=⟨g,k,U⟩) hg).trans hc,qQ.out.drew.trans (sK.mono ahq)⟩)
   clear HNU;go_wp2_with fail;go_region_held3 (λw'=>w'.cell? ⟨g,k,U⟩=AI (I x)) (go_keep) (first|(go_at_call 148;refine awb.out.mono ?_;rintro e w5 ⟨rfl,hc5,qB⟩)|fail)
   go_wp2_with fail;exact⟨⟨k+1,by omega,by rw[HS3.out],by go_num,qB⟩,by simp[intOf];omega⟩
  .have tp:k=n:=by omega
   have HF:Hid (yU (L.take k)++nX 0 1=Ha s):=(show _=_ by rw[tp,aeO.out];exact awa.out);have HNU:Hid (∀W,Calls AT 148 #[O J 0,O J 1] W λe w'=>e=Ia (I (nX 0 1))/\Below W.heap.size W w'):=λW=>A9 0 1 W (by omega) (by omega) (by omega);have hns:(nX 0 1).size<=1:=by rw[qd];omega
   generalize nX 0 1=Y at *;generalize yU (L.take k)=C at *;have hd:decide ((k:Int)<(n:Int))=false:=by simp;omega
   have sj:¬ 9223372036854775807<C.size+Y.size:=by omega
   clear tp;go_wp2_with fail;refine(HNU.out _).mono ?_;rintro e w2 ⟨rfl,mZ⟩;have nR:Hid (Below w.heap.size w w2):=mY.out.trans ((qQ.out.trans (mZ.mono ahq)).mono mY.out.size);clear mZ;go_wp2_with fail;go_ret;exact⟨by rw[<- HF.out];rfl,nR.out⟩
end Go.Proofs.YtipbebleapjcjaaGreatDoor
namespace Go.Proofs.YtipbebleapjcjaaGreatDoor
namespace Rc
open Go.RowKit
end Rc
end Go.Proofs.YtipbebleapjcjaaGreatDoor
