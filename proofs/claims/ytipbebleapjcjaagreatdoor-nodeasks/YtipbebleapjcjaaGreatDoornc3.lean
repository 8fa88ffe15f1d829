import Derived.Test.YtipbebleapjcjaaGreatDoornc2
set_option maxHeartbeats 12800000
set_option maxRecDepth 1000000
open Array renaming getElem?_eq_some_iff->Ig
open Bool renaming and_eq_true->IP,or_eq_true->O8
open ByteArray renaming empty->Ie,size->JN,size_append->Om
open Go renaming bodyPost->JM,bodyPost_ret->IE,heap_alloc_new->Ii,info_parts->Jc,maxLen->Il,wpAnyH_take->Ja,wpAny_ready->QE,wpList_append_own_at->O7,wp_region_held_drew->Ul
open Go.AllReady renaming cons->Qj,nil->Q8
open Go.AllReadyH renaming cons->Q5,nil->Um
open Go.Ending renaming returned->Ia
open Go.IntKind renaming i64->J,wrap_i64->IW
open Go.Joins renaming block_setCell->It
open Go.Lib renaming alloc_old->Jj,byteCells->Jl,byteCells_length->OP,bytesWorld->O6,toList_data->IZ
open Go.Obj renaming cells->Ib
open Go.Proofs.Tryz renaming prog->AT,underlying107->IS,underlying139->Oa,underlying5->JA,underlying9->IF
open Go.RowKit.Below renaming heap_setCell->IC,refl->If
open Go.Value renaming agg->Iu,bool->Ic,int->O,pointer->Ik,slice->sh,string->I,tuple->Ir
open Go.World renaming cell?_of_block->Ow,cell?_setCell_other->JL,frozen?->Ij,ownsRow_nil->Jz
open Go.World.Extends renaming refl->I1
open Go.World.ownsRow renaming alloc->OY
open List renaming append_assoc->Jh,flatMap_append->Qh,flatMap_cons->OX,getD->Ip,getElem?_eq_getElem->Ih,length_append->Iq,length_cons->Je,length_singleton->Jk,length_take->IA,map_append->OI,mem_append->JI,mem_cons_of_mem->Jv,mem_cons_self->Jg,mem_of_mem_take->Jr,mem_singleton->JR,take_length->JU,take_succ_eq_append_getElem->Iz
open Nat renaming le_refl->By,le_trans->IB,lt_of_lt_of_le->Ix,zero_add->I6,zero_le->Iw
open Option renaming none->U,some->AI
open Option.some renaming inj->Jq,injEq->Jd
open Or renaming inl->J6
open Go.Proofs.Tryz
namespace Go.Proofs.YtipbebleapjcjaaGreatDoor
open Go.RowKit
def B2(n:Nat):Code->Option Code
 | .region m ops d=>if m=n then AI (.region m ops d) else U
 | .loop c=>B2 n c
 | .seq a b=>match B2 n a with
   |some c=>AI c
   |none=>B2 n b
 | .block _ c=>B2 n c
 | .cond _ a b=>match B2 n a with
   |some c=>AI c
   |none=>B2 n b
 |_=>U
def xo(n:Nat):Code->Option Code
 | .loop c=>xo n c
 | .seq a b=>match xo n a with
   |some c=>AI c
   |none=>xo n b
 | .block m c=>if m=n then AI (.block m c) else xo n c
 | .cond _ a b=>match xo n a with
   |some c=>AI c
   |none=>xo n b
 |_=>U
def sG:List Rc.Rec->Int
 |[]=>0
 |r::t=>if nT r=0 then sG t else nT r
def nx(id code mQ:Int)(name:ByteArray)(rs:List Rc.Rec):Int:=
 if(within id 0 65535&&within code 0 15)=false then 3
 else if 20<rs.length then 2
 else if nS name≠0 then nS name
 else if qS mQ=false then 7
 else sG rs
theorem Gb{rs:List Rc.Rec}{k:Nat}(h:k<rs.length)(he:sG rs=sG (rs.drop k)):sG rs=if nT (rs.getD k Rc.dm)=0 then sG (rs.drop (k+1)) else nT (rs.getD k Rc.dm):=by
 rw[he,List.drop_eq_getElem_cons h,sG,show rs.getD k Rc.dm=rs[k] by simp[Ip,Ih h]]
theorem Bb(id code mQ:Int)(mX cut:Bool)(name:ByteArray)(rs:List Rc.Rec)(v:Value)(w:World)(hs:name.size<=Il)(hv:Rc.Sl w v rs) :
 Calls AT 71 #[Iu #[O J id,Ic mX,Ic cut,O J code,I name,O J mQ,v]] w λe w'=>e=sU (nx id code mQ name rs)/\Below w.heap.size w w':=by
 have HN:Hid (∀W,Calls AT 129 #[I name] W λe w'=>e=sU (nS name)/\Below W.heap.size W w'):=λW=>wO _ _ hs;obtain⟨pa,cap,rfl,tR,pO⟩:=hv;have xY:Hid _:=tR;have Ed:Hid _:=pO;clear tR pO hs;generalize hE:nx id code mQ name rs=E;unfold nx at hE;go_enter func71,ntmps71;go_wp2_with fail;have pS:(w.alloc (Ib #[O J id,Ic mX,Ic cut,O J code,I name,O J mQ,sh pa rs.length cap] 63)).heap[w.heap.size]?=AI (Ib #[O J id,Ic mX,Ic cut,O J code,I name,O J mQ,sh pa rs.length cap] 63 (0,0)):=Ii w _;obtain⟨w0,qu⟩:∃w0,w0=w.alloc (Ib #[O J id,Ic mX,Ic cut,O J code,I name,O J mQ,sh pa rs.length cap] 63):=⟨_,rfl⟩;have pN:Hid (Below w.heap.size w w0):=(show Below _ _ _ by rw[qu];exact(If _ _).alloc (By _) _);rw[<- qu] at pS ⊢;clear qu;have f3:=fi pS 3;have f4:=fi pS 4;have f6:=fi pS 6;refine(oe _ _ _ _).mono ?_;rintro e w1 ⟨rfl,RF⟩;subst RF;by_cases h1:within id 0 65535=false
 .rw[if_pos (by rw[h1];rfl)] at hE
  subst hE;rw[h1];go_wp2_with fail;refine(pP _ _).mono ?_;rintro e w9 ⟨rfl,rfl⟩;exact⟨rfl,rfl,pN.out⟩
 have h1t:within id 0 65535=true:=by simpa using h1
 rw[h1t] at hE ⊢;rw[Bool.true_and] at hE;go_wp2_with fail;refine(oe _ _ _ _).mono ?_;rintro e w2 ⟨rfl,xN⟩;subst xN;by_cases h2:within code 0 15=false
 .rw[if_pos h2] at hE
  subst hE;rw[h2];go_wp2_with fail;refine(pP _ _).mono ?_;rintro e w9 ⟨rfl,rfl⟩;exact⟨rfl,rfl,pN.out⟩
 rw[if_neg h2] at hE;rw[show within code 0 15=true by simpa using h2];go_wp2_with fail;refine(ql _ _).mono ?_;rintro e w3 ⟨rfl,Rq⟩;subst Rq;by_cases h3:20<rs.length
 .rw[if_pos h3] at hE
  subst hE;have h8:decide ((rs.length:Int)<=20)=false:=by simp;omega
  go_wp2_with fail;refine(pP _ _).mono ?_;rintro e wb ⟨rfl,rfl⟩;exact⟨rfl,rfl,pN.out⟩
 rw[if_neg h3] at hE;have h8:decide ((rs.length:Int)<=20)=true:=by simp;omega
 go_wp2_with fail;refine(ql _ _).mono ?_;rintro e w4 ⟨rfl,WB⟩;subst WB;go_wp2_with fail;refine(HN.out _).mono ?_;rintro e w5 ⟨rfl,sK⟩;have TC:=(sK.block w.heap.size (Ig.1 pS).1).trans pS;have qB:Hid _:=pN.out.trans (sK.mono pN.out.size);clear pS sK f3 f4 f6 h8;by_cases h4:nS name=0
 .rw[h4,CX]
  rw[if_neg (by simpa using h4)] at hE;have f5:=fi TC 5;have f6:=fi TC 6;go_wp2_with fail;refine(KF _ _).mono ?_;rintro e w6 ⟨rfl,hw6⟩;subst hw6;rw[show(decide (mQ=1)||decide (mQ=16)||decide (mQ=33))=qS mQ from rfl];by_cases h5:qS mQ=false
  .rw[if_pos h5] at hE
   subst hE;rw[h5];go_wp2_with fail;refine(pP _ _).mono ?_;rintro e w7 ⟨rfl,rfl⟩;exact⟨rfl,rfl,qB.out⟩
  rw[if_neg h5] at hE;rw[show qS mQ=true by simpa using h5];go_wp2_with fail;refine(ql _ _).mono ?_;rintro e w7 ⟨rfl,hw7⟩;subst hw7;have HEE:Hid _:=hE;have zY:rs.length<=20:=by omega
  clear hE h1 h1t h2 h3 h4 h5 TC;generalize M4:rs.length=n at *;have vj:Hid _:=M4;clear M4;go_wp2_with fail;go_loopw [30] (λi wr=>∃k:Nat,k<=n/\i=O J k/\Hid (Below w.heap.size w wr)/\Hid (sG rs=sG (rs.drop k))) (λi _=>n-(intOf i).toNat)
  case atStart=>exact⟨0,Iw _,rfl,qB,rfl⟩
  case round=>
   obtain⟨k,hk,rfl,qQ,HZ⟩:=hrel;have od:=qQ.out.size;by_cases mS:k<n
   .obtain⟨b,off,Tn,Al,hr⟩:∃b off,pa=AI ⟨b,off,U⟩/\b<w.heap.size/\Rc.Row w b off rs:=by
     rcases Ed.out with h|h
     .have:=vj.out;rw[h] at this;simp at this;omega
     .exact h
    subst Tn;obtain⟨g0,g1,g2,g3,g4,g5,g6⟩:=hr k (by rw[vj.out];exact mS);have c0:=(qQ.out.cell (p:=⟨b,off+k*7,U⟩) Al).trans g0;have c1:=(qQ.out.cell (p:=⟨b,off+k*7+1,U⟩) Al).trans g1;have c2:=(qQ.out.cell (p:=⟨b,off+k*7+2,U⟩) Al).trans g2;have c3:=(qQ.out.cell (p:=⟨b,off+k*7+3,U⟩) Al).trans g3;have c4:=(qQ.out.cell (p:=⟨b,off+k*7+4,U⟩) Al).trans g4;have c5:=(qQ.out.cell (p:=⟨b,off+k*7+5,U⟩) Al).trans g5;have c6:=(qQ.out.cell (p:=⟨b,off+k*7+6,U⟩) Al).trans g6;clear g0 g1 g2 g3 g4 g5 g6 hr;have yB:Hid _:=Gb (by rw[vj.out];exact mS) HZ.out;have BZ:Hid (∀W,Calls _ _ _ _ _):=λW=>Eg _ W (xY.out k);generalize rs.getD k Rc.dm=r at *;have hd:decide ((k:Int)<(n:Int))=true:=by simp;omega
    have qg:(0:Int)<=(k:Int):=by omega
    have XC:(k:Int)<(n:Int):=by omega
    have GM:((k:Int)).toNat=k:=by omega
    go_wp2_with fail;refine(BZ.out _).mono ?_;rintro e w9 ⟨rfl,tv⟩;have uy:Hid _:=(qQ.out.alloc od _).trans (tv.mono (by simp;omega));clear tv c0 c1 c2 c3 c4 c5 c6;by_cases h9:nT r=0
    .rw[h9,CX]
     have o6:Hid (sG rs=sG (rs.drop (k+1))):=(show _=_ by rw[yB.out,if_pos h9]);clear yB h9;go_wp2_with fail;exact⟨⟨k+1,by omega,by go_num,uy,o6⟩,by simp[intOf];omega⟩
    .have HF:Hid (E=nT r):=(show _=_ by rw[<- HEE.out,yB.out,if_neg h9])
     rw[ri h9];exact⟨rfl,by rw[HF.out];exact(ri h9).symm,uy.out⟩
   .have HF:Hid (E=0):=(show E=0 by rw[<- HEE.out,HZ.out,List.drop_of_length_le (by rw[vj.out];omega)];rfl)
    have hd:decide ((k:Int)<(n:Int))=false:=by simp;omega
    go_wp2_with fail;simp[JM,results,results71];exact⟨by rw[HF.out];rfl,qQ.out⟩
 .rw[if_pos h4] at hE
  subst hE;rw[ri h4];exact⟨rfl,(ri h4).symm,qB.out⟩
theorem A8(n:Int)(w:World) :
 Calls AT 83 #[O J n] w λe w'=>e=Ia (Ic (qS n))/\w'=w:=by
 go_enter func83,ntmps83;go_wp2;all_goals
  go_ret;exact⟨mW (by rw[Bool.eq_iff_iff];simp[qS];try omega),rfl⟩
theorem Bf{P:Prop}(h:P:=by
 go_wp2_with fail;go_ret;exact⟨rfl,mY.out⟩):P:=h
theorem Vh{P:Prop}(h:P:=by
 rw[if_neg (by rw[hown];simp)] at hE;go_wp2_with fail;refine(ot _ _).mono ?_;rintro e w4 ⟨rfl,WB⟩;subst WB;by_cases h5:within r.addr 0 4294967295=false
 .rw[if_pos (by rw[h5];rfl)] at hE
  subst hE;rw[h5];exact Bf
 have h5t:within r.addr 0 4294967295=true:=by simpa using h5
 rw[h5t] at hE ⊢;rw[Bool.true_and] at hE;go_wp2_with fail;refine(nN _ _ _ _).mono ?_;rintro e w5 ⟨rfl,DV⟩;subst DV;by_cases h6:within r.port 0 65535=false
 .rw[if_pos h6] at hE
  subst hE;rw[h6];exact Bf
 rw[if_neg h6] at hE;rw[show within r.port 0 65535=true by simpa using h6];by_cases h7:200<r.text.size
 .rw[if_pos h7] at hE
  subst hE;have h8:decide (200<(r.text.size:Int))=true:=by simp;omega
  exact Bf
 rw[if_neg h7] at hE;have h8:decide (200<(r.text.size:Int))=false:=by simp;omega
 go_wp2_with fail;refine(HT.out _).mono ?_;rintro e w6 ⟨rfl,sZ⟩;have tq:Hid _:=mY.out.trans (sZ.mono mY.out.size);clear sZ;subst hE;go_wp2_with fail;go_ret;exact⟨rfl,tq.out⟩):P:=h
theorem yZ{P:Prop}(h:P:=by
 rw[if_pos hown] at hE;subst hE;exact Bf):P:=h
theorem TM(r:Rc.Rec)(w:World)(h1:r.name.size<=2000000)(h2:r.target.size<=2000000) :
 Calls AT 84 #[B6 r] w λe w'=>e=Ia (O J (nT r))/\Below w.heap.size w w':=by
 have HN:Hid (∀W,Calls AT 44 #[I r.name] W λe w'=>e=Ia (O J (nS r.name))/\Below W.heap.size W w'):=λW=>rP _ _ h1;have HT:Hid (∀W,Calls AT 44 #[I r.target] W λe w'=>e=Ia (O J (nS r.target))/\Below W.heap.size W w'):=λW=>rP _ _ h2;generalize hE:nT r=E;unfold nT at hE;clear h1 h2;go_enter func84,ntmps84;go_wp2_with fail;have pS:(w.alloc (Ib #[I r.name,O J r.mQ,O J r.nH,O J r.addr,I r.text,O J r.port,I r.target] 104)).heap[w.heap.size]?=AI (Ib #[I r.name,O J r.mQ,O J r.nH,O J r.addr,I r.text,O J r.port,I r.target] 104 (0,0)):=Ii w _;refine(HN.out _).mono ?_;rintro e w1 ⟨rfl,mO⟩;have ou:=(mO.block w.heap.size (by simp)).trans pS;have mY:Hid _:=((If _ _).alloc (By _) _).trans (mO.mono (by simp));clear pS mO;by_cases h1:nS r.name=0
 .rw[if_neg (by simpa using h1)] at hE
  rw[h1];have f1:=fi ou 1;have f2:=fi ou 2;have f3:=fi ou 3;have f4:=fi ou 4;have f5:=fi ou 5;have f6:=fi ou 6;go_wp2_with fail;refine(A8 _ _).mono ?_;rintro e w2 ⟨rfl,xN⟩;subst xN;by_cases h2:qS r.mQ=false
  .rw[if_pos h2] at hE
   subst hE;rw[h2];exact Bf
  rw[if_neg h2] at hE;rw[show qS r.mQ=true by simpa using h2];go_wp2_with fail;refine(nN _ _ _ _).mono ?_;rintro e w3 ⟨rfl,Rq⟩;subst Rq;by_cases h3:within r.nH 0 2147483647=false
  .rw[if_pos h3] at hE
   subst hE;rw[h3];exact Bf
  rw[if_neg h3] at hE;rw[show within r.nH 0 2147483647=true by simpa using h3];have SJ:r.mQ=1\/r.mQ=16\/r.mQ=33:=by
   have h:qS r.mQ=true:=by simpa using h2
   simp only[qS,O8,decide_eq_true_eq,or_assoc] at h;exact h
  rcases SJ with ht|ht|ht
  .have t1:(r.mQ !=1)=false:=by rw[ht];rfl
   have t16:(r.mQ !=16)=true:=by rw[ht];rfl
   have t33:(r.mQ !=33)=true:=by rw[ht];rfl
   have Ht:Hid _:=ht;clear ht;by_cases htext:r.text.size=0
   case neg=>
    have afs:r.text.toList.isEmpty=false:=by have:=(oC htext).2;simpa using this
    have arK:=(oC htext).2;have arL:=(oC htext).1;have hown:sF r=false:=by simp[sF,Ht.out,htext]
    exact yZ
   have afs:r.text.toList.isEmpty=true:=by rw[nB htext,IZ];rfl
   have P2:Hid _:=htext;clear htext;by_cases hport:r.port=0
   case neg=>
    have afu:(r.port !=0)=true:=by simpa using hport
    have hown:sF r=false:=by simp[sF,Ht.out,P2.out,hport]
    exact yZ
   have afu:(r.port !=0)=false:=by simpa using hport
   have P3:Hid _:=hport;clear hport;by_cases htarget:r.target.size=0
   case neg=>
    have Mg:r.target.toList.isEmpty=false:=by have:=(oC htarget).2;simpa using this
    have aio:=(oC htarget).2;have aip:=(oC htarget).1;have hown:sF r=false:=by simp[sF,Ht.out,P2.out,P3.out,htarget]
    exact yZ
   have Mg:r.target.toList.isEmpty=true:=by rw[nB htarget,IZ];rfl
   have Mh:Hid _:=htarget;clear htarget;have hown:sF r=true:=by simp[sF,Ht.out,P2.out,P3.out,Mh.out]
   exact Vh
  .have t1:(r.mQ !=1)=true:=by rw[ht];rfl
   have t16:(r.mQ !=16)=false:=by rw[ht];rfl
   have t33:(r.mQ !=33)=true:=by rw[ht];rfl
   have Ht:Hid _:=ht;clear ht;by_cases haddr:r.addr=0
   case neg=>
    have afv:(r.addr !=0)=true:=by simpa using haddr
    have hown:sF r=false:=by simp[sF,Ht.out,haddr]
    exact yZ
   have afv:(r.addr !=0)=false:=by simpa using haddr
   have KS:Hid _:=haddr;clear haddr;by_cases hport:r.port=0
   case neg=>
    have afu:(r.port !=0)=true:=by simpa using hport
    have hown:sF r=false:=by simp[sF,Ht.out,KS.out,hport]
    exact yZ
   have afu:(r.port !=0)=false:=by simpa using hport
   have P3:Hid _:=hport;clear hport;by_cases htarget:r.target.size=0
   case neg=>
    have Mg:r.target.toList.isEmpty=false:=by have:=(oC htarget).2;simpa using this
    have aio:=(oC htarget).2;have aip:=(oC htarget).1;have hown:sF r=false:=by simp[sF,Ht.out,KS.out,P3.out,htarget]
    exact yZ
   have Mg:r.target.toList.isEmpty=true:=by rw[nB htarget,IZ];rfl
   have Mh:Hid _:=htarget;clear htarget;have hown:sF r=true:=by simp[sF,Ht.out,KS.out,P3.out,Mh.out]
   exact Vh
  .have t1:(r.mQ !=1)=true:=by rw[ht];rfl
   have t16:(r.mQ !=16)=true:=by rw[ht];rfl
   have t33:(r.mQ !=33)=false:=by rw[ht];rfl
   have Ht:Hid _:=ht;clear ht;by_cases haddr:r.addr=0
   case neg=>
    have afv:(r.addr !=0)=true:=by simpa using haddr
    have hown:sF r=false:=by simp[sF,Ht.out,haddr]
    exact yZ
   have afv:(r.addr !=0)=false:=by simpa using haddr
   have KS:Hid _:=haddr;clear haddr;by_cases htext:r.text.size=0
   case neg=>
    have afs:r.text.toList.isEmpty=false:=by have:=(oC htext).2;simpa using this
    have arK:=(oC htext).2;have arL:=(oC htext).1;have hown:sF r=false:=by simp[sF,Ht.out,KS.out,htext]
    exact yZ
   have afs:r.text.toList.isEmpty=true:=by rw[nB htext,IZ];rfl
   have P2:Hid _:=htext;clear htext;have hown:sF r=true:=by simp[sF,Ht.out,KS.out,P2.out]
   exact Vh
 .rw[if_pos h1] at hE
  subst hE;have h2:(nS r.name !=0)=true:=by simpa using h1
  exact Bf
theorem WS(g a n:Nat)(t:ByteArray)(w:World)(c0:w.cell? ⟨g,0,U⟩=AI (I t))(c1:w.cell? ⟨g,1,U⟩=AI (O J a))(hs:t.size<=1000)(ha:a<=t.size)(Ar:¬ a+n<=t.size) :
 Calls AT 172 #[Ik (AI ⟨g,0,U⟩),O J n] w λe w'=>e=sU 1/\∃m,w'=w.drewN m:=by
 have h1:IntKind.i64.wrap ((t.size:Int)-(a:Int))=(t.size:Int)-(a:Int):=by rw[IW];omega
 have h2:decide ((n:Int)<=(t.size:Int)-(a:Int))=false:=by simp;omega
 go_enter func172,ntmps172;go_wp2_with fail;refine Ul (S:=λW=>W.cell? ⟨g,0,U⟩=AI (I t)/\W.cell? ⟨g,1,U⟩=AI (O J a)) (by kernel_rfl) ⟨c0,c1⟩ (λFp=>?_);refine Ja (i:=0) (v:=?v0) rfl (by kernel_rfl) (by kernel_rfl) (by kernel_rfl) (λ_ _ _ h=>h) (J6 ⟨by rfl,?hy0⟩) (by assumption) ?_
 case hy0=>(intro W rU;obtain⟨d0,d1⟩:=rU;go_simp;try with_reducible rfl)
 refine Ja (i:=1) (v:=?v1) rfl (by kernel_rfl) (by kernel_rfl) (by kernel_rfl) (λ_ _ _ h=>h) (J6 ⟨by rfl,?hy1⟩) (by assumption) ?_
 case hy1=>(intro W rU;obtain⟨d0,d1⟩:=rU;go_simp;try with_reducible rfl)
 refine Ja (i:=2) (v:=?v2) rfl (by kernel_rfl) (by kernel_rfl) (by kernel_rfl) (λ_ _ _ h=>h) (J6 ⟨by rfl,?hy2⟩) (by assumption) ?_
 case hy2=>(intro W rU;obtain⟨d0,d1⟩:=rU;go_simp;try with_reducible rfl)
 refine Ja (i:=3) (v:=?v3) rfl (by kernel_rfl) (by kernel_rfl) (by kernel_rfl) (λ_ _ _ h=>h) (J6 ⟨by rfl,?hy3⟩) (by assumption) ?_
 case hy3=>(intro W rU;obtain⟨d0,d1⟩:=rU;go_simp;try with_reducible rfl)
 refine Ja (i:=4) (v:=?v4) rfl (by kernel_rfl) (by kernel_rfl) (by kernel_rfl) (λ_ _ _ h=>h) (J6 ⟨by rfl,?hy4⟩) (by assumption) ?_
 case hy4=>(intro W rU;obtain⟨d0,d1⟩:=rU;go_simp;try with_reducible rfl)
 refine Ja (i:=5) (v:=?v5) rfl (by kernel_rfl) (by kernel_rfl) (by kernel_rfl) (λ_ _ _ h=>h) (J6 ⟨by rfl,?hy5⟩) (by assumption) ?_
 case hy5=>(intro W rU;obtain⟨d0,d1⟩:=rU;go_simp;try with_reducible rfl)
 refine Ja (i:=6) (v:=?v6) rfl (by kernel_rfl) (by kernel_rfl) (by kernel_rfl) (λ_ _ _ h=>h) (J6 ⟨by rfl,?hy6⟩) (by assumption) ?_
 case hy6=>(intro W rU;obtain⟨d0,d1⟩:=rU;go_simp;try with_reducible rfl)
 refine Ja (i:=7) (v:=?v7) rfl (by kernel_rfl) (by kernel_rfl) (by kernel_rfl) (λ_ _ _ h=>h) (J6 ⟨by rfl,?hy7⟩) (by assumption) ?_
 case hy7=>(intro W rU;obtain⟨d0,d1⟩:=rU;go_simp;try with_reducible rfl)
 refine Ja (i:=8) (v:=?v8) rfl (by kernel_rfl) (by kernel_rfl) (by kernel_rfl) (λ_ _ _ h=>h) (J6 ⟨by rfl,?hy8⟩) (by assumption) ?_
 case hy8=>(intro W rU;obtain⟨d0,d1⟩:=rU;go_simp;try with_reducible rfl)
 refine Ja (i:=9) (v:=?v9) rfl (by kernel_rfl) (by kernel_rfl) (by kernel_rfl) (λ_ _ _ h=>h) (J6 ⟨by rfl,?hy9⟩) (by assumption) ?_
 case hy9=>(intro W rU;obtain⟨d0,d1⟩:=rU;go_simp;try with_reducible rfl)
 refine Ja (i:=10) (v:=?v10) rfl (by kernel_rfl) (by kernel_rfl) (by kernel_rfl) (λ_ _ _ h=>h) (J6 ⟨by rfl,?hy10⟩) (by assumption) ?_
 case hy10=>(intro W rU;obtain⟨d0,d1⟩:=rU;go_simp;try with_reducible rfl)
 refine Ja (i:=11) (v:=?v11) rfl (by kernel_rfl) (by kernel_rfl) (by kernel_rfl) (λ_ _ _ h=>h) (J6 ⟨by rfl,?hy11⟩) (by assumption) ?_
 case hy11=>(intro W rU;obtain⟨d0,d1⟩:=rU;go_simp;try with_reducible rfl)
 refine wpAnyH_ready (rs:=[12]) (by kernel_rfl) (by simp) ?_;refine Q5 rfl (λK hK=>?_) Um;go_simp;refine(pP _ _).mono ?_;rintro e w5 ⟨rfl,rfl⟩;exact⟨rfl,rfl,1,rfl⟩
theorem aiq(g a:Nat)(t:ByteArray)(w:World)(c0:w.cell? ⟨g,0,U⟩=AI (I t))(c1:w.cell? ⟨g,1,U⟩=AI (O J a))(ha:¬ a<t.size) :
 Calls AT 173 #[Ik (AI ⟨g,0,U⟩)] w λe w'=>e=sU 1/\∃m,w'=w.drewN m:=by
 have h2:decide ((a:Int)<(t.size:Int))=false:=by simp;omega
 go_enter func173,ntmps173;go_wp2_with fail;refine Ul (S:=λW=>W.cell? ⟨g,0,U⟩=AI (I t)/\W.cell? ⟨g,1,U⟩=AI (O J a)) (by kernel_rfl) ⟨c0,c1⟩ (λFp=>?_);refine Ja (i:=0) (v:=?v0) rfl (by kernel_rfl) (by kernel_rfl) (by kernel_rfl) (λ_ _ _ h=>h) (J6 ⟨by rfl,?hy0⟩) (by assumption) ?_
 case hy0=>(intro W rU;obtain⟨d0,d1⟩:=rU;go_simp;try with_reducible rfl)
 refine Ja (i:=1) (v:=?v1) rfl (by kernel_rfl) (by kernel_rfl) (by kernel_rfl) (λ_ _ _ h=>h) (J6 ⟨by rfl,?hy1⟩) (by assumption) ?_
 case hy1=>(intro W rU;obtain⟨d0,d1⟩:=rU;go_simp;try with_reducible rfl)
 refine Ja (i:=2) (v:=?v2) rfl (by kernel_rfl) (by kernel_rfl) (by kernel_rfl) (λ_ _ _ h=>h) (J6 ⟨by rfl,?hy2⟩) (by assumption) ?_
 case hy2=>(intro W rU;obtain⟨d0,d1⟩:=rU;go_simp;try with_reducible rfl)
 refine Ja (i:=3) (v:=?v3) rfl (by kernel_rfl) (by kernel_rfl) (by kernel_rfl) (λ_ _ _ h=>h) (J6 ⟨by rfl,?hy3⟩) (by assumption) ?_
 case hy3=>(intro W rU;obtain⟨d0,d1⟩:=rU;go_simp;try with_reducible rfl)
 refine Ja (i:=4) (v:=?v4) rfl (by kernel_rfl) (by kernel_rfl) (by kernel_rfl) (λ_ _ _ h=>h) (J6 ⟨by rfl,?hy4⟩) (by assumption) ?_
 case hy4=>(intro W rU;obtain⟨d0,d1⟩:=rU;go_simp;try with_reducible rfl)
 refine Ja (i:=5) (v:=?v5) rfl (by kernel_rfl) (by kernel_rfl) (by kernel_rfl) (λ_ _ _ h=>h) (J6 ⟨by rfl,?hy5⟩) (by assumption) ?_
 case hy5=>(intro W rU;obtain⟨d0,d1⟩:=rU;go_simp;try with_reducible rfl)
 refine Ja (i:=6) (v:=?v6) rfl (by kernel_rfl) (by kernel_rfl) (by kernel_rfl) (λ_ _ _ h=>h) (J6 ⟨by rfl,?hy6⟩) (by assumption) ?_
 case hy6=>(intro W rU;obtain⟨d0,d1⟩:=rU;go_simp;try with_reducible rfl)
 refine Ja (i:=7) (v:=?v7) rfl (by kernel_rfl) (by kernel_rfl) (by kernel_rfl) (λ_ _ _ h=>h) (J6 ⟨by rfl,?hy7⟩) (by assumption) ?_
 case hy7=>(intro W rU;obtain⟨d0,d1⟩:=rU;go_simp;try with_reducible rfl)
 refine Ja (i:=8) (v:=?v8) rfl (by kernel_rfl) (by kernel_rfl) (by kernel_rfl) (λ_ _ _ h=>h) (J6 ⟨by rfl,?hy8⟩) (by assumption) ?_
 case hy8=>(intro W rU;obtain⟨d0,d1⟩:=rU;go_simp;try with_reducible rfl)
 refine Ja (i:=9) (v:=?v9) rfl (by kernel_rfl) (by kernel_rfl) (by kernel_rfl) (λ_ _ _ h=>h) (J6 ⟨by rfl,?hy9⟩) (by assumption) ?_
 case hy9=>(intro W rU;obtain⟨d0,d1⟩:=rU;go_simp;try with_reducible rfl)
 refine wpAnyH_ready (rs:=[10]) (by kernel_rfl) (by simp) ?_;refine Q5 rfl (λK hK=>?_) Um;go_simp;refine(pP _ _).mono ?_;rintro e w5 ⟨rfl,rfl⟩;exact⟨rfl,rfl,1,rfl⟩
theorem vM(g:Nat)(w:World)(m:Nat):Rd g w (w.drewN m):=Rd.ext ⟨rfl,rfl,rfl,By _,λ_ _=>rfl,λ_ _=>rfl,λ_ _=>rfl⟩
theorem abq(g a n:Nat)(t:ByteArray)(w:World)(h:uo g t a w)(hs:t.size<=1000)(ha:a<=t.size)(Ar:¬ a+n<=t.size) :
 Calls AT 123 #[Ik (AI ⟨g,0,U⟩),O J n] w λe w'=>e=sU 1/\Hid (Rd g w w'):=by
 have HT:Hid (Calls AT 172 #[Ik (AI ⟨g,0,U⟩),O J n] w λe w'=>e=sU 1/\∃m,w'=w.drewN m):=WS g a n t w h.c0 h.c1 hs ha Ar;clear h;go_enter func123,ntmps123;go_wp2_with fail;refine HT.out.mono ?_;rintro e w1 ⟨rfl,m,rfl⟩;exact⟨rfl,rfl,vM g w m⟩
theorem qM(g a n:Nat)(t:ByteArray)(w:World)(h:uo g t a w)(hs:t.size<=1000)(ha:a<=t.size)(hn:n<=4) :
 Calls AT 123 #[Ik (AI ⟨g,0,U⟩),O J n] w λe w'=>Hid (Rd g w w')/\((a+n<=t.size/\e=Ia (O J (mP t a n))/\Hid (uo g t (a+n) w'))\/(¬ a+n<=t.size/\e=sU 1)):=by
 by_cases Ar:a+n<=t.size
 .refine(aeI g a n t w h hs Ar hn).mono ?_
  rintro e w' ⟨rfl,h1,h2⟩;exact⟨h2,.inl ⟨Ar,rfl,h1⟩⟩
 .refine(abq g a n t w h hs ha Ar).mono ?_
  rintro e w' ⟨rfl,h2⟩;exact⟨h2,.inr ⟨Ar,rfl⟩⟩
theorem amJ(g a:Nat)(t:ByteArray)(w:World)(h:uo g t a w) :
 Calls AT 173 #[Ik (AI ⟨g,0,U⟩)] w λe w'=>Hid (Rd g w w')/\((a<t.size/\e=Ia (O .u8 (mP t a 1:Nat))/\Hid (uo g t a w'))\/(¬ a<t.size/\e=sU 1)):=by
 by_cases Ar:a<t.size
 .refine(al7 g a t w h Ar).mono ?_
  rintro e w' ⟨rfl,h1,h2⟩;exact⟨h2,.inl ⟨Ar,rfl,h1⟩⟩
 .refine(aiq g a t w h.c0 h.c1 Ar).mono ?_
  rintro e w' ⟨rfl,m,rfl⟩;exact⟨vM g w m,.inr ⟨Ar,rfl⟩⟩
theorem uG(g a n:Nat)(x:Int)(t:ByteArray)(w:World)(h:uo g t a w)(hs:t.size<=1000)(ha:a<=t.size)(hn:n<=4) :
 Calls AT 126 #[Ik (AI ⟨g,0,U⟩),O J n,O J x] w λe w'=>Hid (Rd g w w')/\(((a+n<=t.size/\(mP t a n:Int)=x)/\e=Ia (Ir #[])/\Hid (uo g t (a+n) w'))\/(¬ (a+n<=t.size/\(mP t a n:Int)=x)/\e=sU 1)):=by
 have HT:Hid (Calls AT 123 #[Ik (AI ⟨g,0,U⟩),O J n] w λe w'=>Hid (Rd g w w')/\((a+n<=t.size/\e=Ia (O J (mP t a n))/\Hid (uo g t (a+n) w'))\/(¬ a+n<=t.size/\e=sU 1))):=qM g a n t w h hs ha hn;clear h;go_enter func126,ntmps126;go_wp2_with fail;refine HT.out.mono ?_;rintro e w1 ⟨HD,⟨Ar,rfl,HI⟩|⟨Ar,rfl⟩⟩
 .by_cases hx:(mP t a n:Int)=x
  .have hb:((mP t a n:Int)==x)=true:=by simpa using hx
   have HX:Hid ((mP t a n:Int)=x):=hx;clear hx;go_wp2_with fail;refine(ql _ _).mono ?_;rintro e w5 ⟨rfl,rfl⟩;go_wp2_with fail;simp[JM,results,results126];exact⟨HD,.inl ⟨⟨Ar,HX.out⟩,HI⟩⟩
  .have hb:((mP t a n:Int)==x)=false:=by simpa using hx
   have HX:Hid (¬ (mP t a n:Int)=x):=hx;clear hx;go_wp2_with fail;refine(pP _ _).mono ?_;rintro e w5 ⟨rfl,rfl⟩;exact⟨rfl,HD,.inr ⟨λh=>HX.out h.2,rfl⟩⟩
 .exact⟨rfl,HD,.inr ⟨λh=>Ar h.1,rfl⟩⟩
theorem Vi(g a:Nat)(t:ByteArray)(w:World)(h:uo g t a w)(hs:t.size<=1000)(ha:a<=t.size)(Ar:¬ a+1+mP t a 1<=t.size) :
 Calls AT 175 #[Ik (AI ⟨g,0,U⟩)] w λe w'=>e=sU 1/\Hid (Rd g w w'):=by
 have HT:Hid (Calls AT 123 #[Ik (AI ⟨g,0,U⟩),O J 1] w λe w'=>Hid (Rd g w w')/\((a+1<=t.size/\e=Ia (O J (mP t a 1))/\Hid (uo g t (a+1) w'))\/(¬ a+1<=t.size/\e=sU 1))):=qM g a 1 t w h hs ha (by omega);clear h;go_enter func175,ntmps175;go_wp2_with fail;refine HT.out.mono ?_;rintro e w1 ⟨HD,⟨h1,rfl,HI⟩|⟨h1,rfl⟩⟩
 .have RY:Hid (Calls AT 172 #[Ik (AI ⟨g,0,U⟩),O J (mP t a 1:Nat)] w1 λe w'=>e=sU 1/\∃m,w'=w1.drewN m):=WS g (a+1) (mP t a 1) t w1 HI.out.c0 HI.out.c1 hs h1 Ar
  go_wp2_with fail;refine RY.out.mono ?_;rintro e w2 ⟨rfl,m,rfl⟩;exact⟨rfl,rfl,HD.out.trans (vM g w1 m)⟩
 .exact⟨rfl,rfl,HD⟩
theorem KT(g a:Nat)(t:ByteArray)(w:World)(h:uo g t a w)(hs:t.size<=1000)(ha:a<=t.size) :
 Calls AT 175 #[Ik (AI ⟨g,0,U⟩)] w λe w'=>Hid (Rd g w w')/\((a+1+mP t a 1<=t.size/\e=Ia (I (t.extract (a+1) (a+1+mP t a 1)))/\Hid (uo g t (a+1+mP t a 1) w'))\/(¬ a+1+mP t a 1<=t.size/\e=sU 1)):=by
 by_cases Ar:a+1+mP t a 1<=t.size
 .refine(aaG g a _ t _ w h hs rfl Ar rfl).mono ?_
  rintro e w' ⟨rfl,h1,h2⟩;exact⟨h2,.inl ⟨Ar,rfl,h1⟩⟩
 .refine(Vi g a t w h hs ha Ar).mono ?_
  rintro e w' ⟨rfl,h2⟩;exact⟨h2,.inr ⟨Ar,rfl⟩⟩
def Mz(c:UInt8):UInt8:=if 65<=c.toNat/\c.toNat<=90 then(c.toNat+32).toUInt8 else c
def Ej(s:ByteArray):ByteArray:=mk (s.data.toList.map Mz)
theorem P5(s:ByteArray):(Ej s).size=s.size:=by unfold Ej;rw[sJ];simp
def xU(s:ByteArray)(k j:Nat):Nat:=if j<k then(Mz (s.data.toList.getD j 0)).toNat else(s.data.toList.getD j 0).toNat
theorem afw(s:ByteArray)(j:Nat)(hj:j<s.size):xU s s.size j=((Ej s).data.toList.getD j 0).toNat:=by
 have DY:j<s.data.toList.length:=by simpa using hj
 unfold xU Ej;rw[if_pos hj,BD];simp only[List.getD_eq_getElem?_getD,List.getElem?_map,Ih DY];rfl
theorem abr(s:ByteArray)(k j:Nat)(hl:¬ (65<=(s.data.toList.getD k 0).toNat/\(s.data.toList.getD k 0).toNat<=90)):xU s (k+1) j=xU s k j:=by
 unfold xU;by_cases h1:j<k
 .rw[if_pos h1,if_pos (by omega)]
 .by_cases h2:j=k
  .subst h2
   rw[if_pos (by omega),if_neg (by omega)];unfold Mz;rw[if_neg hl]
  .rw[if_neg h1,if_neg (by omega)]
theorem abt(s:ByteArray)(k:Nat)(hl:65<=(s.data.toList.getD k 0).toNat/\(s.data.toList.getD k 0).toNat<=90):xU s (k+1) k=(s.data.toList.getD k 0).toNat+32:=by
 unfold xU Mz;rw[if_pos (by omega),if_pos hl];show((s.data.toList.getD k 0).toNat+32)%256=_;omega
theorem abu(s:ByteArray)(k j:Nat)(h:j≠k):xU s (k+1) j=xU s k j:=by
 unfold xU;by_cases h1:j<k
 .rw[if_pos h1,if_pos (by omega)]
 .rw[if_neg h1,if_neg (by omega)]
theorem abv(s:ByteArray)(w:World)(hs:s.size<=1000) :
 Calls AT 174 #[I s] w λe w'=>e=Ia (I (Ej s))/\Below w.heap.size w w':=by
 have hcv:=λw s=>Lib.run_convert_string_bytes (P:=AT) w 9 139 5 s (u:=.string) IF Oa JA;have pN:Hid (∀j,j<s.size->(O6 w 5 s).cell? ⟨w.heap.size,j,U⟩=AI (O .u8 (xU s 0 j:Nat))):=λj hj=>Lib.bytesWorld_cell w 5 s j hj;have HF0:Hid (∀j,j<s.size->(O6 w 5 s).frozen? ⟨w.heap.size,j,U⟩=false):=λj hj=>by
  have h:=Lib.bytesWorld_at_new w 5 s;have h2:s.size<=(Lib.bytesCells w 5 s).size:=by simp[Lib.bytesCells]
  simp only[Ij,h];simp;omega
 have hX:Below w.heap.size w (O6 w 5 s):=by
  rw[<- Ff w s];exact((If _ _).drew).alloc (By _) _
 have HX0:Hid (Below w.heap.size w (O6 w 5 s)):=hX;clear hX;obtain⟨W1,uj⟩:∃W1,W1=O6 w 5 s:=⟨_,rfl⟩;go_enter func174,ntmps174;go_wp2_with fail;rw[<- uj] at pN HX0 HF0 ⊢;clear hcv uj;have aky:(Ej s).data.toList.length=s.size:=by have:=P5 s;simpa using this
 have HBK:Hid (∀cap W,(∀j,j<s.size->W.cell? ⟨w.heap.size,j,U⟩=AI (O .u8 (xU s s.size j:Nat)))->(convert 139 9 (sh (AI ⟨w.heap.size,0,U⟩) s.size cap)).run AT W=.ok (I (Ej s)) W):=λcap W hW=>by
  have h:=run_convert_bytes_back (P:=AT) W 139 9 5 ⟨w.heap.size,0,U⟩ cap (Ej s).data.toList Oa JA IF (λj hj=>by
   have h2:=hW j (by omega);rw[afw s j (by omega),List.getD_eq_getElem?_getD,Ih hj] at h2;have ha:(⟨w.heap.size,0,U⟩:Addr).add j=⟨w.heap.size,j,U⟩:=by
    by_cases hj0:j=0<;>simp[Addr.add,hj0]
   rw[ha];simpa using h2)
  rw[aky] at h;exact h
 clear aky;go_loopw [10] (λvi wr=>∃(k:Nat),vi=O J k/\k<=s.size/\Hid (∀j,j<s.size->wr.cell? ⟨w.heap.size,j,U⟩=AI (O .u8 (xU s k j:Nat)))/\Hid (∀j,j<s.size->wr.frozen? ⟨w.heap.size,j,U⟩=false)/\Hid (Below w.heap.size w wr))
  (λvi _=>s.size-(intOf vi).toNat)
 case atStart=>exact⟨0,rfl,by omega,pN,HF0,HX0⟩
 case round=>
  obtain⟨k,rfl,hk,HB,HF,HX⟩:=hrel;by_cases tp:k<s.size
  .have hc:decide ((k:Int)<(s.size:Int))=true:=by simp;omega
   have nG:=HB.out k tp;have ux:=HF.out k tp;have qg:(0:Int)<=(k:Int):=by omega
   have XC:(k:Int)<(s.size:Int):=by omega
   have GM:((k:Int)).toNat=k:=by omega
   have HV:Hid (xU s k k=(s.data.toList.getD k 0).toNat):=(show _=_ by unfold xU;rw[if_neg (by omega)]);rw[HV.out] at nG;have aBb:=(s.data.toList.getD k 0).toNat_lt;by_cases hl:65<=(s.data.toList.getD k 0).toNat/\(s.data.toList.getD k 0).toNat<=90
   .have HT:Hid (xU s (k+1) k=(s.data.toList.getD k 0).toNat+32):=abt s k hl
    generalize hb:(s.data.toList.getD k 0).toNat=b at *;clear hb;have uN:decide ((65:Int)<=(b:Int))=true:=by simp;omega
    have hd2:decide ((b:Int)<=90)=true:=by simp;omega
    have RF:IntKind.u8.wrap ((b:Int)-65)=(b:Int)-65:=by rw[IntKind.wrap_u8];omega
    have xN:IntKind.u8.wrap ((b:Int)-65+97)=((b+32:Nat):Int):=by rw[IntKind.wrap_u8];omega
    go_wp2_with fail;refine⟨⟨k+1,by simp,by omega,?_,?_,?_⟩,by simp[intOf];omega⟩
    .show ∀_,_
     intro j hj;by_cases K4:j=k
     .subst K4
      rw[World.cell?_setCell_same _ _ _ nG,HT.out];simp
     .refine(JL _ _ _ _ (λe=>by injection e with e1 e2;exact K4 e2.symm)).trans ?_
      rw[abu s k j K4];exact HB.out j hj
    .show ∀_,_
     intro j hj;simpa using HF.out j hj
    .exact HX.out.setCell (p:=⟨w.heap.size,k,U⟩) (By _) _
   .have HT:Hid (∀j,xU s (k+1) j=xU s k j):=λj=>abr s k j hl
    generalize hb:(s.data.toList.getD k 0).toNat=b at *;clear hb;have mY:Hid (∀j,j<s.size->wr.cell? ⟨w.heap.size,j,U⟩=AI (O .u8 (xU s (k+1) j:Nat))):=λj hj=>by rw[HT.out j];exact HB.out j hj
    by_cases h65:65<=b
    .have uN:decide ((65:Int)<=(b:Int))=true:=by simp;omega
     have hd2:decide ((b:Int)<=90)=false:=by simp;omega
     go_wp2_with fail;refine⟨⟨k+1,by simp,by omega,mY,HF,HX⟩,by simp[intOf];omega⟩
    .have uN:decide ((65:Int)<=(b:Int))=false:=by simp;omega
     go_wp2_with fail;refine⟨⟨k+1,by simp,by omega,mY,HF,HX⟩,by simp[intOf];omega⟩
  .have hc:decide ((k:Int)<(s.size:Int))=false:=by simp;omega
   have agV:k=s.size:=by omega
   subst agV;have Ld:=λcap=>HBK.out cap wr HB.out;go_wp2_with fail;simp[JM,results,results174];exact HX.out
end Go.Proofs.YtipbebleapjcjaaGreatDoor
namespace Go.Proofs.YtipbebleapjcjaaGreatDoor
open Go.RowKit Go.Lib
def nmG(t:ByteArray):Nat->Nat->Nat->List ByteArray->Option Nat->Option (List ByteArray×Nat)
 |0,_,_,_,_=>U
 |f+1,b,bg,D,p=>
  if b<t.size then
   if mP t b 1=0 then AI (D,p.getD (b+1))
   else if 192<=mP t b 1 then
    (if b+2<=t.size/\mP t b 2-49152<bg then nmG t f (mP t b 2-49152) (mP t b 2-49152) D (AI (p.getD (b+2))) else U)
   else
    (if b+1+mP t b 1<=t.size/\mT (Ej (t.extract (b+1) (b+1+mP t b 1)))=true/\D.length<8 then nmG t f (b+1+mP t b 1) bg (D++[Ej (t.extract (b+1) (b+1+mP t b 1))]) p else U)
  else U
def DP(t:ByteArray)(b bg:Nat)(D:List ByteArray)(p:Option Nat):Option (List ByteArray×Nat):=nmG t (bg*9+(8-D.length)+1) b bg D p
theorem Cf(t:ByteArray):∀(f g b bg:Nat) (D:List ByteArray) (p:Option Nat),bg*9+(8-D.length)<f->bg*9+(8-D.length)<g->nmG t f b bg D p=nmG t g b bg D p
 |0,_,_,_,_,_,h,_=>by omega
 |_+1,0,_,_,_,_,_,h=>by omega
 |f+1,g+1,b,bg,D,p,hf,hg=>by
  simp only[nmG];by_cases h1:b<t.size
  .rw[if_pos h1,if_pos h1]
   by_cases h2:mP t b 1=0
   .rw[if_pos h2,if_pos h2]
   .rw[if_neg h2,if_neg h2]
    by_cases h3:192<=mP t b 1
    .rw[if_pos h3,if_pos h3]
     by_cases h4:b+2<=t.size/\mP t b 2-49152<bg
     .rw[if_pos h4,if_pos h4]
      exact Cf t f g _ _ _ _ (by omega) (by omega)
     .rw[if_neg h4,if_neg h4]
    .rw[if_neg h3,if_neg h3]
     by_cases h4:b+1+mP t b 1<=t.size/\mT (Ej (t.extract (b+1) (b+1+mP t b 1)))=true/\D.length<8
     .rw[if_pos h4,if_pos h4]
      exact Cf t f g _ _ _ _ (by rw[Iq,Jk];omega) (by rw[Iq,Jk];omega)
     .rw[if_neg h4,if_neg h4]
  .rw[if_neg h1,if_neg h1]
theorem Vj{t:ByteArray}{b bg:Nat}{D:List ByteArray}{p:Option Nat}(h:¬ b<t.size):DP t b bg D p=U:=by unfold DP;simp only[nmG];rw[if_neg h]
theorem Mi{t:ByteArray}{b bg:Nat}{D:List ByteArray}{p:Option Nat}(h:b<t.size)(h0:mP t b 1=0):DP t b bg D p=AI (D,p.getD (b+1)):=by unfold DP;simp only[nmG];rw[if_pos h,if_pos h0]
theorem Gt{t:ByteArray}{b bg:Nat}{D:List ByteArray}{p:Option Nat}(h:b<t.size)(h0:192<=mP t b 1):DP t b bg D p=if b+2<=t.size/\mP t b 2-49152<bg then DP t (mP t b 2-49152) (mP t b 2-49152) D (AI (p.getD (b+2))) else U:=by
 have e:DP t b bg D p=if b+2<=t.size/\mP t b 2-49152<bg then nmG t (bg*9+(8-D.length)) (mP t b 2-49152) (mP t b 2-49152) D (AI (p.getD (b+2))) else U:=by
  unfold DP;simp only[nmG];rw[if_pos h,if_neg (by omega),if_pos h0]
 rw[e];by_cases h1:b+2<=t.size/\mP t b 2-49152<bg
 .rw[if_pos h1,if_pos h1]
  exact Cf t _ _ _ _ _ _ (by omega) (by omega)
 .rw[if_neg h1,if_neg h1]
theorem Db{t:ByteArray}{b bg:Nat}{D:List ByteArray}{p:Option Nat}(h:b<t.size)(h0:mP t b 1≠0)(h1:¬ 192<=mP t b 1):DP t b bg D p=if b+1+mP t b 1<=t.size/\mT (Ej (t.extract (b+1) (b+1+mP t b 1)))=true/\D.length<8 then DP t (b+1+mP t b 1) bg (D++[Ej (t.extract (b+1) (b+1+mP t b 1))]) p else U:=by
 have e:DP t b bg D p=if b+1+mP t b 1<=t.size/\mT (Ej (t.extract (b+1) (b+1+mP t b 1)))=true/\D.length<8 then nmG t (bg*9+(8-D.length)) (b+1+mP t b 1) bg (D++[Ej (t.extract (b+1) (b+1+mP t b 1))]) p else U:=by
  unfold DP;simp only[nmG];rw[if_pos h,if_neg h0,if_neg h1]
 rw[e];by_cases h2:b+1+mP t b 1<=t.size/\mT (Ej (t.extract (b+1) (b+1+mP t b 1)))=true/\D.length<8
 .rw[if_pos h2,if_pos h2]
  exact Cf t _ _ _ _ _ _ (by rw[Iq,Jk];omega) (by omega)
 .rw[if_neg h2,if_neg h2]
structure Nm(g:Nat)(t:ByteArray)(w:World)(lv:Value)(k b:Nat)(D:List ByteArray)(p:Option Nat)(W:World):Prop where
 tL:uo k t b W
 rd:Rd g w W
 own:nD w.heap.size W lv D
 wh:(p=U/\k=g)\/(∃q,p=AI q/\w.heap.size<=k/\uo g t q W/\q<=t.size/\lv.ownBlock≠AI k)
 lt:g<w.heap.size
theorem Nm.ne{g k b:Nat}{t:ByteArray}{w W:World}{lv:Value}{D:List ByteArray}{p:Option Nat}(h:Nm g t w lv k b D p W):lv.ownBlock≠AI k:=by
 rcases h.wh with⟨_,rfl⟩|⟨_,_,_,_,_,h5⟩
 .intro e
  have:=(h.own.lt _ e).1;have:=h.lt;omega
 .exact h5
theorem Nm.text{g k b:Nat}{t:ByteArray}{w W:World}{lv:Value}{D:List ByteArray}{p:Option Nat}(h:Nm g t w lv k b D p W):W.cell? ⟨g,0,U⟩=AI (I t):=by
 rcases h.wh with⟨_,rfl⟩|⟨_,_,_,h4,_,_⟩
 .exact h.tL.c0
 .exact h4.c0
theorem Rd.tL{k g a:Nat}{t:ByteArray}{W W':World}(h:Rd k W W')(hg:uo g t a W)(nK:g≠k):uo g t a W' where
 c0:=(Ow (a:=⟨g,0,U⟩) (h.block g hg.hg nK)).trans hg.c0
 c1:=(Ow (a:=⟨g,1,U⟩) (h.block g hg.hg nK)).trans hg.c1
 hz:=(World.frozen?_of_block (a:=⟨g,1,U⟩) (h.block g hg.hg nK)).trans hg.hz
 hg:=Ix hg.hg h.size
theorem Nm.rd2{g k b:Nat}{t:ByteArray}{w W W':World}{lv:Value}{D:List ByteArray}{p:Option Nat}(h:Nm g t w lv k b D p W)(h2:Hid (Rd k W W')):Rd g w W':=by
 rcases h.wh with⟨_,rfl⟩|⟨q,_,h3,_,_,_⟩
 .exact h.rd.trans h2.out
 .exact⟨h2.out.os.trans h.rd.os,h2.out.tape.trans h.rd.tape,h2.out.output.trans h.rd.output,IB h.rd.size h2.out.size,λj hj hg=>(h2.out.block j (Ix hj h.rd.size) (by omega)).trans (h.rd.block j hj hg)⟩
theorem Nm.call{g k b c:Nat}{t:ByteArray}{w W W':World}{lv:Value}{D:List ByteArray}{p:Option Nat}(h:Nm g t w lv k b D p W)(h1:Hid (uo k t c W'))(h2:Hid (Rd k W W')):Nm g t w lv k c D p W':=by
 have hl:=h.lt;refine⟨h1.out,h.rd2 h2,?_,?_,hl⟩
 .have nK:=h.ne
  rcases h.own.2 with⟨rfl,h0⟩|⟨j,c,cur,rfl,qa,hk,r⟩
  .exact⟨h.own.1,.inl ⟨rfl,h0⟩⟩
  .refine⟨h.own.1,.inr ⟨j,c,cur,rfl,qa,(h2.out.block j (Ig.1 hk).1 ?_).trans hk,r⟩⟩
   intro e;exact nK (by rw[e];rfl)
 .rcases h.wh with⟨h3,h4⟩|⟨q,h3,h4,h5,h6,h7⟩
  .exact .inl ⟨h3,h4⟩
  .exact .inr ⟨q,h3,h4,h2.out.tL h5 (by omega),h6,h7⟩
theorem Nm.below{g k b:Nat}{t:ByteArray}{w W W':World}{lv:Value}{D:List ByteArray}{p:Option Nat}(h:Nm g t w lv k b D p W)(hb:Below W.heap.size W W'):Nm g t w lv k b D p W':=
 h.call (h.tL.below hb h.tL.hg) (Rd.uD hb (By _):Rd k W W')
theorem Nm.grown{g k b:Nat}{t l:ByteArray}{w W W':World}{lv v':Value}{D:List ByteArray}{p:Option Nat}(h:Nm g t w lv k b D p W)(h1:nD w.heap.size W' v' (D++[l]))(h2:W.grownBy W' lv.ownBlock)(h3:v'.ownBlock=lv.ownBlock\/v'.ownBlock=AI W.heap.size):Nm g t w v' k b (D++[l]) p W':=by
 have hl:=h.lt;have nK:=h.ne;have hk:=h.tL.hg;have hblk:∀q,q<w.heap.size->W'.heap[q]?=W.heap[q]?:=λq hq=>h2.block q (Ix hq h.rd.size) (λe=>by have:=(h.own.lt _ e.symm).1;omega);have isr:∀q a,(q=k\/q=g)->uo q t a W->uo q t a W':=λq a hq hr=>by
  have hqb:W'.heap[q]?=W.heap[q]?:=by
   rcases hq with rfl|rfl
   .exact h2.block q hk (λe=>nK e.symm)
   .exact hblk q hl
  exact⟨(Ow (a:=⟨q,0,U⟩) hqb).trans hr.c0,(Ow (a:=⟨q,1,U⟩) hqb).trans hr.c1,(World.frozen?_of_block (a:=⟨q,1,U⟩) hqb).trans hr.hz,Ix hr.hg h2.size⟩
 refine⟨isr k b (.inl rfl) h.tL,⟨h2.os.trans h.rd.os,h2.tape.trans h.rd.tape,h2.output.trans h.rd.output,IB h.rd.size h2.size,λj hj hg=>(hblk j hj).trans (h.rd.block j hj hg)⟩,h1,?_,hl⟩;rcases h.wh with⟨h4,h5⟩|⟨q,h4,h5,h6,h7,h8⟩
 .exact .inl ⟨h4,h5⟩
 .refine .inr ⟨q,h4,h5,isr g q (.inr rfl) h6,h7,?_⟩
  rcases h3 with e|e
  .rw[e];exact h8
  .rw[e];intro e2;have:=Jq e2;omega
theorem Nm.rest{g k b r:Nat}{t:ByteArray}{w W:World}{lv:Value}{D:List ByteArray}{p:Option Nat}(h:Nm g t w lv k b D p W)(hb:b<=t.size):Nm g t w lv W.heap.size r D (AI (p.getD b)) (W.alloc (Ib #[I t,O J r] 128)):=by
 have hx:W.Extends (W.alloc (Ib #[I t,O J r] 128)):=(I1 W).alloc _;have hn:(W.alloc (Ib #[I t,O J r] 128)).heap[W.heap.size]?=AI (Ib #[I t,O J r] 128 (0,0)):=Ii W _;have nE:Below W.heap.size W (W.alloc (Ib #[I t,O J r] 128)):=(If _ _).alloc (By _) _;refine⟨⟨by simp only[World.cell?,hn];rfl,by simp only[World.cell?,hn];rfl,by simp only[Ij,hn];rfl,by simp⟩,h.rd.trans (Rd.ext hx),h.own.below nE,.inr ⟨p.getD b,rfl,h.rd.size,?_,?_,?_⟩,h.lt⟩
 .rcases h.wh with⟨rfl,rfl⟩|⟨q,rfl,_,h5,_,_⟩
  .exact h.tL.ext hx
  .exact h5.ext hx
 .rcases h.wh with⟨rfl,rfl⟩|⟨q,rfl,_,_,h6,_⟩
  .exact hb
  .exact h6
 .intro e
  have:=(h.own.lt _ e).2;omega
theorem Nm.fin{g k b:Nat}{t:ByteArray}{w W:World}{lv:Value}{D:List ByteArray}{p:Option Nat}(h:Nm g t w lv k b D p W)(hb:b<=t.size):uo g t (p.getD b) W/\p.getD b<=t.size:=by
 rcases h.wh with⟨rfl,rfl⟩|⟨q,rfl,_,h5,h6,_⟩
 .exact⟨h.tL,hb⟩
 .exact⟨h5,h6⟩
theorem afx(t:ByteArray)(b:Nat)(h:192<=mP t b 1):49152<=mP t b 2:=by
 have e:mP t b 2=mP t b 1*256+(t.data[b+1]?.getD 0).toNat:=rfl;omega
theorem Gu:∀(D:List ByteArray),(∀l∈D,l.size<=30)->(jn (D.map L1)).length<=D.length*31
 |[],_=>by simp[jn]
 |[x],h=>by have:=h x (by simp);simp[jn];omega
 |x::y::r,h=>by
  have ih:=Gu (y::r) (λl hl=>h l (Jv _ hl));have hx:=h x (by simp);have hx2:(L1 x).length=x.size:=by simp
  simp only[List.map_cons,jn,Iq,Je] at ih ⊢;omega
theorem WT(t:ByteArray)(b f:Nat)(h:b+1+f<=t.size):(t.extract (b+1) (b+1+f)).size=f:=by simp;omega
theorem afy{P:Prop}(h:P:=by
 go_wp2_with fail;refine(nL l w3 hls).mono ?_;rintro e w4 ⟨rfl,WB⟩;subst WB;rw[CI.out];go_wp2_with fail;refine(pP _ _).mono ?_;rintro e w5 ⟨rfl,DV⟩;subst DV;exact⟨rfl,GW.out.rd,.inr ⟨te.out,rfl⟩⟩):P:=h
theorem amK(g a:Nat)(t:ByteArray)(w:World)(h:uo g t a w)(hs:t.size<=1000)(ha:a<=t.size) :
 Calls AT 127 #[Ik (AI ⟨g,0,U⟩)] w λe w'=>Hid (Rd g w w')/\((∃ls q,DP t a a [] U=AI (ls,q)/\(ls.length<=8/\∀l∈ls,l.size<=30)/\q<=t.size/\e=Ia (I (mk (jn (ls.map L1))))/\Hid (uo g t q w'))\/(DP t a a [] U=U/\e=sU 1)):=by
 obtain⟨i0,qg,oS,so,sf⟩:=Jc Tryz.AU;have c1:=h.c1;have HI:Hid _:=h;have Bo:=h.hg;clear h;obtain⟨MA,Vk⟩:∃R,R=DP t a a [] U:=⟨_,rfl⟩;rw[<- Vk];have Hc:Hid _:=Vk.symm;clear Vk;have HJ:Hid (∀(D:List ByteArray) (W:World) (v:Value),nD w.heap.size W v D->D.length<=8->(∀l∈D,l.size<=30)->∃R,R=mk (jn (D.map L1))/\Calls AT 139 #[v,I ⟨#[46]⟩] W λe w'=>e=Ia (I R)/\Below W.heap.size W w'):=λD W v ho hd hl=>⟨_,rfl,aeJ _ D W v ho (by omega) (by have:=Gu D hl;omega)⟩;go_enter func127,ntmps127;go_wp2_with fail;go_quiet (fail)
 go_wp2_with fail;go_loopw [3,4,5] (λlv pv bv wr=>∃(D:List ByteArray) (b bg:Nat) (p:Option Nat) (k:Nat),pv=Ik (AI ⟨k,0,U⟩)/\bv=O J bg/\b<=t.size/\bg<=t.size/\D.length<=8/\Hid (∀l∈D,l.size<=30)/\Hid (DP t b bg D p=MA)/\Hid (Nm g t w lv k b D p wr)) (λlv _ bv _=>(RowKit.intOf bv).toNat*9+(8-lenOf lv))
 case atStart=>exact⟨[],a,a,U,g,rfl,rfl,ha,ha,by simp,(show ∀_,_ from λl hl=>by cases hl),Hc,(⟨HI.out.ext (KH _ _),Rd.ext (KH _ _),tW _ _,.inl ⟨rfl,rfl⟩,Bo⟩:Nm g t w _ g a [] U _)⟩
 case round=>
  obtain⟨D,b,bg,p,k,rfl,rfl,hb,qa,hD,Pf,HR,HN⟩:=hrel;have HP:Hid (Calls _ _ _ _ _):=amJ k b t wr HN.out.tL;go_wp2_with fail;refine HP.out.mono ?_;rintro e w1 ⟨uC,⟨mS,rfl,yb⟩|⟨mS,rfl⟩⟩;rotate_left
  .exact⟨rfl,HN.out.rd2 uC,.inr ⟨HR.out.symm.trans (Vj mS),rfl⟩⟩
  have BU:Hid _:=HN.out.call yb uC;clear HN HP yb uC;by_cases h0:mP t b 1=0
  .have sr:Hid _:=HR.out.symm.trans (Mi mS h0)
   have HX:Hid (Calls _ _ _ _ _):=uG k b 1 0 t w1 BU.out.tL hs hb (by omega);rw[h0] at HX ⊢;go_wp2_with fail;refine HX.out.mono ?_;rintro e w2 ⟨xK,⟨_,rfl,zN⟩|⟨tY,rfl⟩⟩;rotate_left
   .exact absurd ⟨by omega,rfl⟩ tY
   have EB:Hid _:=BU.out.call zN xK;clear zN xK HX BU;go_wp2_with fail;obtain⟨R,hR,HJC⟩:=HJ.out D w2 _ EB.out.own hD Pf.out;have HJC:Hid (Calls _ _ _ _ _):=HJC;have HRR:Hid _:=hR;clear hR;refine HJC.out.mono ?_;rintro e w3 ⟨rfl,nC⟩;have GW:Hid _:=EB.out.below nC;clear nC EB;go_wp2_with fail;go_ret;obtain⟨f1,f2⟩:=GW.out.fin (by omega);exact⟨GW.out.rd,.inl ⟨D,_,sr.out,⟨hD,Pf.out⟩,f2,by rw[HRR.out];rfl,f1⟩⟩
  .by_cases h192:192<=mP t b 1
   .have sr:Hid _:=HR.out.symm.trans (Gt mS h192)
    have h2:=afx t b h192;have hm0:=beq_eq_false_iff_ne.2 (by omega);have Cu:¬ (mP t b 1:Int)=0:=by omega
    have XG:decide ((192:Int)<=(mP t b 1:Int))=true:=by simp;omega
    have HX:Hid (Calls _ _ _ _ _):=qM k b 2 t w1 BU.out.tL hs hb (by omega);clear HR;go_wp2_with fail;refine HX.out.mono ?_;rintro e w2 ⟨xK,⟨hle,rfl,zN⟩|⟨tY,rfl⟩⟩;rotate_left
    .exact⟨rfl,BU.out.rd2 xK,.inr ⟨sr.out.trans (if_neg (λh=>tY h.1)),rfl⟩⟩
    have EB:Hid _:=BU.out.call zN xK;clear zN xK HX BU;have ct:=EB.out.text;have oR:=wu t b 2;obtain⟨r,hr⟩:∃r,r=mP t b 2-49152:=⟨_,rfl⟩;rw[<- hr] at sr;have hwr:IntKind.i64.wrap ((mP t b 2:Int)-49152)=(r:Int):=by rw[IW];omega
    clear hr h2 oR;by_cases hrb:r<bg
    .have hd:decide ((r:Int)<(bg:Int))=true:=by simp;omega
     have te:Hid _:=(sr.out.trans (if_pos ⟨hle,hrb⟩)).symm;clear sr;go_wp2_with fail;refine(ql _ _).mono ?_;rintro e w5 ⟨rfl,DV⟩;subst DV;have GW:Hid (Nm g t w _ w5.heap.size r D (AI (p.getD (b+2))) (w5.alloc (Ib #[I t,O J r] 128))):=EB.out.rest hle;clear EB;go_wp2_with fail;refine⟨⟨D,r,r,_,w5.heap.size,rfl,rfl,by omega,by omega,hD,Pf,te,GW⟩,?_⟩;simp[RowKit.intOf];omega
    .have hd:decide ((r:Int)<(bg:Int))=false:=by simp;omega
     have te:Hid _:=sr.out.trans (if_neg (λh=>hrb h.2));clear sr;go_wp2_with fail;refine(pP _ _).mono ?_;rintro e w5 ⟨rfl,DV⟩;subst DV;exact⟨rfl,EB.out.rd,.inr ⟨te.out,rfl⟩⟩
   .have sr:Hid _:=HR.out.symm.trans (Db mS h0 h192)
    have hm0:=beq_eq_false_iff_ne.2 (by omega);have Cu:¬ (mP t b 1:Int)=0:=by omega
    have XG:decide ((192:Int)<=(mP t b 1:Int))=false:=by simp;omega
    have HX:Hid (Calls _ _ _ _ _):=KT k b t w1 BU.out.tL hs hb;clear HR;generalize hf:mP t b 1=f at *;clear hf;go_wp2_with fail;refine HX.out.mono ?_;rintro e w2 ⟨xK,⟨hle,rfl,zN⟩|⟨tY,rfl⟩⟩;rotate_left
    .exact⟨rfl,BU.out.rd2 xK,.inr ⟨sr.out.trans (if_neg (λh=>tY h.1)),rfl⟩⟩
    have EB:Hid _:=BU.out.call zN xK;have hes:=WT t b f hle;generalize t.extract (b+1) (b+1+f)=x at *;clear zN xK HX BU;go_wp2_with fail;refine(abv x w2 (by omega)).mono ?_;rintro e w3 ⟨rfl,nC⟩;have GW:Hid _:=EB.out.below nC;have hxs:=P5 x;generalize Ej x=l at *;clear nC EB;obtain⟨pp,c,hv⟩:=zO GW.out.own;subst hv;have hls:l.size<=Il:=by unfold Il;omega
    by_cases hl:mT l=true
    .have amM:=Ps hl
     have CI:Hid _:=hl;clear hl;by_cases hD8:D.length<8
     .have hd8:decide ((D.length:Int)<8)=true:=by simp;omega
      have te:Hid _:=(sr.out.trans (if_pos ⟨hle,CI.out,hD8⟩)).symm;clear sr;go_wp2_with fail;refine(nL l w3 hls).mono ?_;rintro e w4 ⟨rfl,WB⟩;subst WB;rw[CI.out];go_wp2_with fail;refine(ql _ _).mono ?_;rintro e w5 ⟨rfl,DV⟩;subst DV;have alE:=GW.out.rd.size;go_wp2_with (at_builtin;refine O7 _ rfl _ _ 107 rfl w.heap.size 9 i0 _ 1 16 IS qg oS so sf rfl (by omega) _ D.length (D.map I) rfl ?hown ⟨w5.heap.size,0,U⟩ 1 1 [I l] rfl rfl ?hnews (qj [_]) ?h63 ?hbytes ?hbase ?_)
      case hown=>exact GW.out.own.below ((If _ _).alloc (By _) _)
      case hnews=>(intro j u hj;rw[Addr.add_lit];exact(oY (by simp)).trans (by simpa using hj))
      case h63=>(unfold Il;omega)
      case hbytes=>omega
      case hbase=>(simp;omega)
      intro v' w6 r1 r2 r3 r4;have N8:Hid _:=(GW.out.below ((If _ _).alloc (By _) _)).grown (rO (l:=D) r1) r2 (by simpa using r4);have axj:Hid (∀x∈D++[l],x.size<=30):=(show ∀_,_ from λx hx=>by
       rcases JI.1 hx with h|h
       .exact Pf.out x h
       .rw[JR.1 h];exact amM.2)
      clear r1 r2 r3 r4 GW Pf;go_wp2_with fail;refine⟨⟨D++[l],b+1+f,bg,p,k,rfl,rfl,by omega,qa,by rw[Iq,Jk];omega,axj,te,N8⟩,?_⟩;rw[L3 N8.out.own,show lenOf (sh pp D.length c)=D.length from rfl,Iq,Jk];omega
     .have hd8:decide ((D.length:Int)<8)=false:=by simp;omega
      have te:Hid _:=sr.out.trans (if_neg (λh=>hD8 h.2.2));clear sr;exact afy
    .have CI:Hid (mT l=false):=(show _=_ by simpa using hl)
     have te:Hid _:=sr.out.trans (if_neg (λh=>hl h.2.1));clear sr hl;exact afy
end Go.Proofs.YtipbebleapjcjaaGreatDoor
namespace Go.Proofs.YtipbebleapjcjaaGreatDoor
open Go.RowKit
theorem Vl(id code mQ:Int)(mX cut:Bool)(name:ByteArray)(v:Value)(w:World) :
 Calls AT 125 #[Iu #[O J id,Ic mX,Ic cut,O J code,I name,O J mQ,v]] w λe w'=>e=Ia (O J (CF mX cut))/\∃o,w'=w.alloc o:=by
 cases mX<;>cases cut
 all_goals
  go_enter func125,ntmps125;go_wp2_with fail;go_ret;exact⟨rfl,_,rfl⟩
def zc(id code mQ:Int)(mX cut:Bool)(name:ByteArray)(n:Nat):List Value:=
 qo id 2++(qo (CF mX cut) 1++(qo code 1++(qo 1 2++(qo n 2++(qo 0 2++(qo 0 2++(sA name++(qo mQ 2++qo 1 2))))))))
theorem afz{r:Rc.Rec}(h:nT r=0):(vK r).length<=514:=by
 obtain⟨h1,_,h3,h4⟩:=tK h;have:=xy h1;have:=Pt h3 h4;unfold vK;simp only[Iq,oL];omega
theorem Gv:∀(rs:List Rc.Rec),(∀r∈rs,nT r=0)->(rs.flatMap vK).length<=514*rs.length
 |[],_=>by simp
 |x::r,h=>by
  have h1:=afz (h x Jg);have h2:=Gv r (λy hy=>h y (Jv _ hy));rw[OX,Iq,Je];omega
theorem P7(B b:Nat)(bs:List Value)(id code mQ:Int)(mX cut:Bool)(name:ByteArray)(rs:List Rc.Rec)(pa:Option Addr)(cap:Nat)(w:World)(hm:ML w)(h:oZ B b bs w)(hlen:bs.length<=1000)(hn:nS name=0)(Cj:B<=w.heap.size)(zZ:0<B)(h20:rs.length<=20)(oH:∀r∈rs,nT r=0)(pO:∀W,Below B w W->rs=[]\/∃b off,pa=AI ⟨b,off,U⟩/\b<W.heap.size/\Rc.Row W b off rs) :
 Calls AT 191 #[Ik (AI ⟨b,0,U⟩),Iu #[O J id,Ic mX,Ic cut,O J code,I name,O J mQ,sh pa rs.length cap]] w λe w'=>e=Ia (Ir #[])/\oZ B b (bs++(zc id code mQ mX cut name rs.length++rs.flatMap vK)) w'/\Kp B b w w':=by
 have Ed:Hid (∀W,Below B w W->rs=[]\/∃b off,pa=AI ⟨b,off,U⟩/\b<W.heap.size/\Rc.Row W b off rs):=pO;have HCS:Hid (∀k,k<rs.length->nT (rs.getD k Rc.dm)=0):=λk hk=>oH _ (by simp[Ip,Ih hk]);have Rj:Hid (∀k,((rs.take k).flatMap vK).length<=10280):=λk=>by
  refine IB (Gv (rs.take k) λx hx=>oH x (Jr hx)) ?_;rw[IA];omega
 have HTK:Hid (∀k,k<rs.length->(rs.take (k+1)).flatMap vK=(rs.take k).flatMap vK++vK (rs.getD k Rc.dm)):=λk hk=>by
  rw[Iz hk,Qh];simp[Ip,hk]
 have aeO:Hid (rs.take rs.length=rs):=JU;have HMW:Hid (ML w):=hm;clear pO oH;generalize hln:rs.length=n at *;have HLN:Hid (rs.length=n):=hln;clear hln;have HI:Hid (oZ B b bs w):=h;clear h;have nE:=HI.out.lt;obtain⟨hL8,yC⟩:=xc hn;have hwn:(sA name).length<=249:=by
  unfold sA;rw[Iq,oL];have:=BG (oO name) yC;omega
 clear hL8 yC;go_enter func191,ntmps191;go_wp2_with fail;obtain⟨w0,qu⟩:∃w0,w0=w.alloc (Ib #[O J id,Ic mX,Ic cut,O J code,I name,O J mQ,sh pa n cap] 63):=⟨_,rfl⟩;rw[<- qu];have pS:w0.heap[w.heap.size]?=AI (Ib #[O J id,Ic mX,Ic cut,O J code,I name,O J mQ,sh pa n cap] 63 (0,0)):=by rw[qu];exact Ii w _
 have Et:Hid (Kp B b w w0):=(show Kp B b w w0 by rw[qu];exact Kp.alloc _ Cj);have HI0:Hid (oZ B b bs w0):=(show oZ B b bs w0 by rw[qu];exact HI.out.alloc _);have Rh:Hid (ML w0):=(show ML w0 from hm.kp Et.out zZ);have HG:Hid (∀W,Kp B b w0 W->W.cell? ⟨w.heap.size,0,U⟩=AI (O J id)/\W.cell? ⟨w.heap.size,1,U⟩=AI (Ic mX)/\W.cell? ⟨w.heap.size,2,U⟩=AI (Ic cut)/\W.cell? ⟨w.heap.size,3,U⟩=AI (O J code)/\W.cell? ⟨w.heap.size,4,U⟩=AI (I name)/\W.cell? ⟨w.heap.size,5,U⟩=AI (O J mQ)/\W.cell? ⟨w.heap.size,6,U⟩=AI (sh pa n cap)):=λW hW=>by
  have hg:W.heap[w.heap.size]?=AI (Ib #[O J id,Ic mX,Ic cut,O J code,I name,O J mQ,sh pa n cap] 63 (0,0)):=hW.oth _ _ pS (by simp;omega) (by simp);exact⟨fi hg 0,fi hg 1,fi hg 2,fi hg 3,fi hg 4,fi hg 5,fi hg 6⟩
 have oS:B<=w0.heap.size:=IB Cj Et.out.size;clear pS qu hm;refine(nM B b 2 id bs w0 HI0.out (by omega) (by omega) (IB oS (Kp.size (Kp.refl B b w0)))).mono ?_;rintro e w1 ⟨rfl,h1,mO⟩;have wH:Hid (Kp B b w0 w1):=Kp.trans (Kp.refl B b w0) mO;have l1:(bs++qo id 2).length<=1002:=by rw[Iq,oL];omega
 obtain⟨D1,hD1⟩:∃D,D=bs++qo id 2:=⟨_,rfl⟩;rw[<- hD1] at h1 l1;have uC:Hid (D1=bs++qo id 2):=hD1;have yb:Hid (oZ B b D1 w1):=h1;clear hD1 h1 mO;obtain⟨c0,c1,c2,c3,c4,c5,c6⟩:=HG.out w1 wH.out;go_wp2_with fail;refine(Vl id code mQ mX cut name _ _).mono ?_;rintro e wf ⟨rfl,o,hwf⟩;have HIf:Hid (oZ B b D1 wf):=(show oZ B b D1 wf by rw[hwf];exact oZ.alloc yb.out _);have HKf:Hid (Kp B b w0 wf):=(show Kp B b w0 wf by rw[hwf];exact Kp.trans wH.out (Kp.alloc _ (IB oS (Kp.size wH.out))));clear hwf;obtain⟨x0,x1,x2,x3,x4,x5,x6⟩:=HG.out wf HKf.out;clear c0 c1 c2 c3 c4 c5 c6;have c0:=x0;have c1:=x1;have c2:=x2;have c3:=x3;have c4:=x4;have c5:=x5;have c6:=x6;clear x0 x1 x2 x3 x4 x5 x6;go_wp2_with fail;refine(nM B b 1 (CF mX cut) D1 wf HIf.out (by omega) (by omega) (IB oS (Kp.size HKf.out))).mono ?_;rintro e w2 ⟨rfl,h2,mZ⟩;have vN:Hid (Kp B b w0 w2):=Kp.trans HKf.out mZ;have l2:(D1++qo (CF mX cut) 1).length<=1003:=by rw[Iq,oL];omega
 obtain⟨D2,hD2⟩:∃D,D=D1++qo (CF mX cut) 1:=⟨_,rfl⟩;rw[<- hD2] at h2 l2;have xK:Hid (D2=D1++qo (CF mX cut) 1):=hD2;have zN:Hid (oZ B b D2 w2):=h2;clear hD2 h2 mZ c0 c1 c2 c3 c4 c5 c6;obtain⟨c0,c1,c2,c3,c4,c5,c6⟩:=HG.out w2 vN.out;go_wp2_with fail;refine(nM B b 1 code D2 w2 zN.out (by omega) (by omega) (IB oS (Kp.size vN.out))).mono ?_;rintro e w3 ⟨rfl,h3,nC⟩;have Ac:Hid (Kp B b w0 w3):=Kp.trans vN.out nC;have l3:(D2++qo code 1).length<=1004:=by rw[Iq,oL];omega
 obtain⟨D3,hD3⟩:∃D,D=D2++qo code 1:=⟨_,rfl⟩;rw[<- hD3] at h3 l3;have Wn:Hid (D3=D2++qo code 1):=hD3;have HI3:Hid (oZ B b D3 w3):=h3;clear hD3 h3 nC c0 c1 c2 c3 c4 c5 c6;obtain⟨c0,c1,c2,c3,c4,c5,c6⟩:=HG.out w3 Ac.out;go_wp2_with fail;refine(nM B b 2 1 D3 w3 HI3.out (by omega) (by omega) (IB oS (Kp.size Ac.out))).mono ?_;rintro e w4 ⟨rfl,h4,qA⟩;have Co:Hid (Kp B b w0 w4):=Kp.trans Ac.out qA;have l4:(D3++qo 1 2).length<=1006:=by rw[Iq,oL];omega
 obtain⟨D4,hD4⟩:∃D,D=D3++qo 1 2:=⟨_,rfl⟩;rw[<- hD4] at h4 l4;have HD4:Hid (D4=D3++qo 1 2):=hD4;have HI4:Hid (oZ B b D4 w4):=h4;clear hD4 h4 qA c0 c1 c2 c3 c4 c5 c6;obtain⟨c0,c1,c2,c3,c4,c5,c6⟩:=HG.out w4 Co.out;go_wp2_with fail;refine(nM B b 2 n D4 w4 HI4.out (by omega) (by omega) (IB oS (Kp.size Co.out))).mono ?_;rintro e w5 ⟨rfl,h5,sK⟩;have HK5:Hid (Kp B b w0 w5):=Kp.trans Co.out sK;have l5:(D4++qo n 2).length<=1008:=by rw[Iq,oL];omega
 obtain⟨D5,hD5⟩:∃D,D=D4++qo n 2:=⟨_,rfl⟩;rw[<- hD5] at h5 l5;have HD5:Hid (D5=D4++qo n 2):=hD5;have HI5:Hid (oZ B b D5 w5):=h5;clear hD5 h5 sK c0 c1 c2 c3 c4 c5 c6;obtain⟨c0,c1,c2,c3,c4,c5,c6⟩:=HG.out w5 HK5.out;go_wp2_with fail;refine(nM B b 2 0 D5 w5 HI5.out (by omega) (by omega) (IB oS (Kp.size HK5.out))).mono ?_;rintro e w6 ⟨rfl,h6,sZ⟩;have Ww:Hid (Kp B b w0 w6):=Kp.trans HK5.out sZ;have l6:(D5++qo 0 2).length<=1010:=by rw[Iq,oL];omega
 obtain⟨D6,hD6⟩:∃D,D=D5++qo 0 2:=⟨_,rfl⟩;rw[<- hD6] at h6 l6;have HD6:Hid (D6=D5++qo 0 2):=hD6;have Px:Hid (oZ B b D6 w6):=h6;clear hD6 h6 sZ c0 c1 c2 c3 c4 c5 c6;obtain⟨c0,c1,c2,c3,c4,c5,c6⟩:=HG.out w6 Ww.out;go_wp2_with fail;refine(nM B b 2 0 D6 w6 Px.out (by omega) (by omega) (IB oS (Kp.size Ww.out))).mono ?_;rintro e w7 ⟨rfl,h7,Bj⟩;have HK7:Hid (Kp B b w0 w7):=Kp.trans Ww.out Bj;have l7:(D6++qo 0 2).length<=1012:=by rw[Iq,oL];omega
 obtain⟨D7,hD7⟩:∃D,D=D6++qo 0 2:=⟨_,rfl⟩;rw[<- hD7] at h7 l7;have HD7:Hid (D7=D6++qo 0 2):=hD7;have HI7:Hid (oZ B b D7 w7):=h7;clear hD7 h7 Bj c0 c1 c2 c3 c4 c5 c6;obtain⟨c0,c1,c2,c3,c4,c5,c6⟩:=HG.out w7 HK7.out;go_wp2_with fail;refine(CE B b D7 name w7 (ML.kp Rh.out HK7.out zZ) HI7.out (by omega) hn (IB oS (Kp.size HK7.out))).mono ?_;rintro e w8 ⟨rfl,h8,Dl⟩;have HK8:Hid (Kp B b w0 w8):=Kp.trans HK7.out Dl;have l8:(D7++sA name).length<=1261:=by rw[Iq];omega
 obtain⟨D8,hD8⟩:∃D,D=D7++sA name:=⟨_,rfl⟩;rw[<- hD8] at h8 l8;have HD8:Hid (D8=D7++sA name):=hD8;have HI8:Hid (oZ B b D8 w8):=h8;clear hD8 h8 Dl c0 c1 c2 c3 c4 c5 c6;obtain⟨c0,c1,c2,c3,c4,c5,c6⟩:=HG.out w8 HK8.out;go_wp2_with fail;refine(nM B b 2 mQ D8 w8 HI8.out (by omega) (by omega) (IB oS (Kp.size HK8.out))).mono ?_;rintro e w9 ⟨rfl,h9,tv⟩;have HK9:Hid (Kp B b w0 w9):=Kp.trans HK8.out tv;have l9:(D8++qo mQ 2).length<=1263:=by rw[Iq,oL];omega
 obtain⟨D9,hD9⟩:∃D,D=D8++qo mQ 2:=⟨_,rfl⟩;rw[<- hD9] at h9 l9;have HD9:Hid (D9=D8++qo mQ 2):=hD9;have HI9:Hid (oZ B b D9 w9):=h9;clear hD9 h9 tv c0 c1 c2 c3 c4 c5 c6;obtain⟨c0,c1,c2,c3,c4,c5,c6⟩:=HG.out w9 HK9.out;go_wp2_with fail;refine(nM B b 2 1 D9 w9 HI9.out (by omega) (by omega) (IB oS (Kp.size HK9.out))).mono ?_;rintro e w10 ⟨rfl,h10,Ng⟩;have arM:Hid (Kp B b w0 w10):=Kp.trans HK9.out Ng;have l10:(D9++qo 1 2).length<=1265:=by rw[Iq,oL];omega
 obtain⟨D10,amN⟩:∃D,D=D9++qo 1 2:=⟨_,rfl⟩;rw[<- amN] at h10 l10;have arN:Hid (D10=D9++qo 1 2):=amN;have arO:Hid (oZ B b D10 w10):=h10;clear amN h10 Ng c0 c1 c2 c3 c4 c5 c6;obtain⟨c0,c1,c2,c3,c4,c5,c6⟩:=HG.out w10 arM.out;go_wp2_with fail;have HF:Hid (D10=bs++zc id code mQ mX cut name n):=(show _=_ by rw[arN.out,HD9.out,HD8.out,HD7.out,HD6.out,HD5.out,HD4.out,Wn.out,xK.out,uC.out];simp[zc]);have HIF:Hid (oZ B b (bs++zc id code mQ mX cut name n) w10):=(show oZ _ _ _ _ by rw[<- HF.out];exact arO.out);have HKF:Hid (Kp B b w w10):=Et.out.trans arM.out;have hhl:(bs++zc id code mQ mX cut name n).length<=1265:=by rw[<- HF.out];exact l10
 have aFb:B<=w10.heap.size:=IB Cj HKF.out.size;obtain⟨H,hH⟩:∃H,H=bs++zc id code mQ mX cut name n:=⟨_,rfl⟩;rw[<- hH] at hhl HIF;have HH:Hid (H=bs++zc id code mQ mX cut name n):=hH;clear hH;clear HF uC xK Wn HD4 HD5 HD6 HD7 HD8 HD9 arN yb zN HI3 HI4 HI5 Px HI7 HI8 HI9 arO wH vN Ac Co HK5 Ww HK7 HK8 HK9 HIf HKf l1 l2 l3 l4 l5 l6 l7 l8 l9 l10 c0 c1 c2 c3 c4 c5;go_loopw [44] (λi wr=>∃k:Nat,k<=n/\i=O J k/\Hid (oZ B b (H++(rs.take k).flatMap vK) wr)/\Hid (Kp B b w wr)) (λi _=>n-(intOf i).toNat)
 case atStart=>exact⟨0,Iw _,rfl,by simpa using HIF,HKF⟩
 case round=>
  obtain⟨k,hk,rfl,HW,HKR⟩:=hrel;have hBr:B<=wr.heap.size:=IB Cj HKR.out.size;have uU:=Rj.out k;by_cases mS:k<n
  .obtain⟨bR,off,Tn,Al,hr⟩:∃b off,pa=AI ⟨b,off,U⟩/\b<wr.heap.size/\Rc.Row wr b off rs:=by
    rcases Ed.out wr HKR.out.Mo with h|h
    .have:=HLN.out;rw[h] at this;simp at this;omega
    .exact h
   subst Tn;obtain⟨c0,c1,c2,c3,c4,c5,c7⟩:=hr k (by rw[HLN.out];exact mS);have arP:=HTK.out k mS;have yt:=HCS.out k mS;have axr:Hid ((rs.take (k+1)).flatMap vK=(rs.take k).flatMap vK++vK (rs.getD k Rc.dm)):=arP;have axs:Hid (nT (rs.getD k Rc.dm)=0):=yt;clear arP yt hr;generalize rs.getD k Rc.dm=r at *;have hd:decide ((k:Int)<(n:Int))=true:=by simp;omega
   have qg:(0:Int)<=(k:Int):=by omega
   have XC:(k:Int)<(n:Int):=by omega
   have GM:((k:Int)).toNat=k:=by omega
   go_wp2_with fail;obtain⟨wx,WU⟩:∃wx,wx=wr.alloc (Ib #[I r.name,O J r.mQ,O J r.nH,O J r.addr,I r.text,O J r.port,I r.target] 104):=⟨_,rfl⟩;rw[<- WU];have HIX:Hid (oZ B b (H++(rs.take k).flatMap vK) wx):=(show oZ _ _ _ _ by rw[WU];exact HW.out.alloc _);have HKX:Hid (Kp B b w wx):=(show Kp _ _ _ _ by rw[WU];exact HKR.out.trans (Kp.alloc _ hBr));clear WU c0 c1 c2 c3 c4 c5 c7;refine(Pw B b _ r wx (HMW.out.kp HKX.out zZ) HIX.out (by rw[Iq];omega) axs.out (IB Cj HKX.out.size) zZ).mono ?_;rintro e w12 ⟨rfl,h1,mO⟩;have axu:Hid (oZ B b (H++(rs.take (k+1)).flatMap vK) w12):=(show oZ _ _ _ _ by rw[axr.out,<- Jh];exact h1);have axv:Hid (Kp B b w w12):=HKX.out.trans mO;clear h1 mO;go_wp2_with fail;exact⟨⟨k+1,by omega,by go_num,axu,axv⟩,by simp[intOf];omega⟩
  .have tp:k=n:=by omega
   have HIZ:Hid (oZ B b (bs++(zc id code mQ mX cut name n++rs.flatMap vK)) wr):=(show oZ _ _ _ _ by
    have h:=HW.out;rw[tp,aeO.out,HH.out,Jh] at h;exact h)
   have hd:decide ((k:Int)<(n:Int))=false:=by simp;omega
   clear tp;go_wp2_with fail;simp[JM,results,results191];exact⟨HIZ.out,HKR.out⟩
def zd(r:Rc.Rec):List UInt8:=yT r.name++(zP r.mQ 2++(zP 1 2++(zP r.nH 4++(zP (uR r).length 2++uR r))))
def Bc(id code mQ:Int)(mX cut:Bool)(name:ByteArray)(n:Nat):List UInt8:=
 zP id 2++(zP (CF mX cut) 1++(zP code 1++(zP 1 2++(zP n 2++(zP 0 2++(zP 0 2++(yT name++(zP mQ 2++zP 1 2))))))))
def yW(id code mQ:Int)(mX cut:Bool)(name:ByteArray)(rs:List Rc.Rec):List UInt8:=Bc id code mQ mX cut name rs.length++rs.flatMap zd
theorem Vm(r:Rc.Rec):vK r=Jl (zd r):=by
 unfold vK zd;rw[FZ];simp only[tm,tl,uE,OP]
theorem Bg:∀(rs:List Rc.Rec),rs.flatMap vK=Jl (rs.flatMap zd)
 |[]=>rfl
 |r::t=>by rw[OX,OX,tm,Vm,Bg t]
theorem Vn(id code mQ:Int)(mX cut:Bool)(name:ByteArray)(rs:List Rc.Rec):zc id code mQ mX cut name rs.length++rs.flatMap vK=Jl (yW id code mQ mX cut name rs):=by
 unfold zc yW Bc;simp only[tm,tl,uE,Bg]
theorem afA(id code mQ:Int)(mX cut:Bool)(name:ByteArray)(rs:List Rc.Rec):yW id code mQ mX cut name rs≠[]:=by
 unfold yW Bc;simp[zP]
theorem KU:∀{rs:List Rc.Rec},sG rs=0->∀r∈rs,nT r=0
 |[],_,_,h=>by cases h
 |x::t,h0,r,hr=>by
  unfold sG at h0;split at h0
  .rename_i h1
   rcases List.mem_cons.1 hr with rfl|hr
   .exact h1
   .exact KU h0 r hr
  .rename_i h1
   exact absurd h0 h1
theorem oM{id code mQ:Int}{name:ByteArray}{rs:List Rc.Rec}(h:nx id code mQ name rs=0):rs.length<=20/\nS name=0/\∀r∈rs,nT r=0:=by
 unfold nx at h;split at h
 .omega
 split at h
 .omega
 rename_i h2;split at h
 .omega
 rename_i h3;split at h
 .omega
 exact⟨by omega,by omega,KU h⟩
theorem PA(id code mQ:Int)(mX cut:Bool)(name:ByteArray)(rs:List Rc.Rec)(pa:Option Addr)(cap:Nat)(w:World)(hm:ML w)(hn:nS name=0)(h20:rs.length<=20)(oH:∀r∈rs,nT r=0)(pO:∀W,Below w.heap.size w W->rs=[]\/∃b off,pa=AI ⟨b,off,U⟩/\b<W.heap.size/\Rc.Row W b off rs) :
 Calls AT 146 #[Iu #[O J id,Ic mX,Ic cut,O J code,I name,O J mQ,sh pa rs.length cap]] w λe w'=>e=Ia (I ⟨(yW id code mQ mX cut name rs).toArray⟩)/\Below w.heap.size w w':=by
 have Kz:Hid (∀W,ML W->oZ (w.heap.size+1) (w.heap.size+1) [] W->Below w.heap.size w W->w.heap.size+1<=W.heap.size->Calls AT 191 #[Ik (AI ⟨w.heap.size+1,0,U⟩),Iu #[O J id,Ic mX,Ic cut,O J code,I name,O J mQ,sh pa rs.length cap]] W λe w'=>e=Ia (Ir #[])/\oZ (w.heap.size+1) (w.heap.size+1) ([]++(zc id code mQ mX cut name rs.length++rs.flatMap vK)) w'/\Kp (w.heap.size+1) (w.heap.size+1) W w'):=λW h1 h2 h3 h4=>P7 (w.heap.size+1) (w.heap.size+1) [] id code mQ mX cut name rs pa cap W h1 h2 (by simp) hn h4 (by omega) h20 oH (λW2 sx=>pO W2 (h3.trans (sx.mono (by omega))));clear pO oH h20 hn;generalize hln:rs.length=n at *;have HLN:Hid (rs.length=n):=hln;clear hln;go_enter func146,ntmps146;go_wp2_with fail;obtain⟨w0,qu⟩:∃w0,w0=(w.alloc (Ib #[O J id,Ic mX,Ic cut,O J code,I name,O J mQ,sh pa n cap] 63)).alloc (Ib #[Ik U,sh U 0 0] 238):=⟨_,rfl⟩;rw[<- qu];have od:w0.heap.size=w.heap.size+2:=by rw[qu];simp
 have Xm:w0.heap[w.heap.size+1]?=AI (Ib #[Ik U,sh U 0 0] 238 (0,0)):=by
  have h:=Ii (w.alloc (Ib #[O J id,Ic mX,Ic cut,O J code,I name,O J mQ,sh pa n cap] 63)) (Ib #[Ik U,sh U 0 0] 238);rw[qu];simpa using h
 have pN:Hid (Below w.heap.size w w0):=(show Below _ _ _ by rw[qu];exact((If _ _).alloc (By _) _).alloc (by simp) _);have HI0:Hid (oZ (w.heap.size+1) (w.heap.size+1) [] w0):=(show oZ _ _ _ _ from .inl ⟨By _,sh U 0 0,Xm,Jz w0 _ 5 1,by simp[Value.ownBlock]⟩);have Rh:Hid (ML w0):=(show ML w0 from hm.below pN.out);clear qu Xm hm;refine(Kz.out w0 Rh.out HI0.out pN.out (by omega)).mono ?_;rintro e w1 ⟨rfl,h1,mO⟩;have yb:Hid (oZ (w.heap.size+1) (w.heap.size+1) (Jl (yW id code mQ mX cut name rs)) w1):=(show oZ _ _ _ _ by rw[<- Vn,HLN.out];simpa using h1);have mY:Hid (Below w.heap.size w w1):=pN.out.trans (mO.Mo.mono (by omega));have pC:=mY.out.size;have xC:=mO.size;clear h1 mO;go_wp2_with fail;refine(TJ (w.heap.size+1) (w.heap.size+1) _ w1 yb.out (afA _ _ _ _ _ _ _)).mono ?_;rintro e w2 ⟨rfl,mZ⟩;have nR:Hid (Below w.heap.size w w2):=mY.out.trans (mZ.mono (by omega));clear mZ;go_wp2_with fail;go_ret;exact⟨rfl,nR.out⟩
def AtW(t:ByteArray)(a:Nat)(l:List UInt8):Prop:=∃p q,t.data.toList=p++(l++q)/\p.length=a
theorem Mj{s:ByteArray}(h:nS s=0):(∀l∈oO s,mT l=true)/\(oO s).length<=8/\s.size<=1000:=by
 refine⟨?_,(xc h).1,?_⟩
 .rw[CD] at h
  split at h
  .omega
  .rename_i h1
   have h3:(oO s).all mT=true:=by simpa using h1
   exact λl hl=>List.all_eq_true.1 h3 l hl
 .by_cases h0:s.size=0
  .omega
  .unfold nS at h
   rw[if_neg h0] at h;split at h
   .omega
   .split at h<;>omega
end Go.Proofs.YtipbebleapjcjaaGreatDoor
namespace Go.Proofs
open Go.Shelf
def Tryz.Mk:Go.Shelf.Ren:=⟨fun|316=>249|n=>n,fun|9=>9|3=>3|4=>4|37=>139|0=>0|127=>271|5=>5|n=>n,fun|n=>n⟩
theorem Tryz.afB:Go.Proofs.LaysM.n316 AT Tryz.Mk:={
 mixed:=by kernel_rfl
 f316:=Tryz.func249.trans (congrArg AI (by kernel_rfl))
 t0:=underlying0
 a0:=isAgg0
 z0:=sizeOf0
 v0:=Tryz.zeroValue0
 t3:=underlying3
 a3:=isAgg3
 z3:=sizeOf3
 v3:=Tryz.zeroValue3
 t4:=underlying4
 a4:=isAgg4
 z4:=sizeOf4
 v4:=Tryz.zeroValue4
 t9:=IF
 a9:=isAgg9
 z9:=sizeOf9
 v9:=Tryz.zeroValue9
 t37:=Oa
 a37:=isAgg139
 z37:=sizeOf139
 v37:=Tryz.zeroValue139
 t127:=underlying271
 a127:=isAgg271
 z127:=sizeOf271
 v127:=Tryz.zeroValue271
 t5:=JA
 a5:=isAgg5
 z5:=sizeOf5
 v5:=Tryz.zeroValue5
 i0:=by kernel_rfl
 i3:=by kernel_rfl
 i4:=by kernel_rfl
 i5:=by kernel_rfl
 i9:=by kernel_rfl
 i37:=by kernel_rfl
 i127:=by kernel_rfl }
open Go.RowKit in
theorem Tryz.stringslite_Clone(s:ByteArray)(w:World)(axw:s.size<=281474976710656) :
 Calls AT 249 #[I s] w λe w'=>e=Ia (I s)/\Below w.heap.size w w':=Any.stringslite_Clone Tryz.afB s w axw
end Go.Proofs
namespace Go.Proofs.YtipbebleapjcjaaGreatDoor
open Go.RowKit
structure Rx(g X:Nat)(t:ByteArray)(w:World)(a:Nat)(cs:Array Value)(W:World):Prop where
 tL:uo g t a W
 bx:W.heap[X]?=AI (Ib cs 104 (0,0))
 os:W.os=w.os
 tape:W.tape=w.tape
 output:W.output=w.output
 size:w.heap.size<=W.heap.size
 block:∀k:Nat,k<w.heap.size->k≠g->k≠X->W.heap[k]?=w.heap[k]?
 ne:g≠X
theorem Rx.call{g X a b:Nat}{t:ByteArray}{w W W':World}{cs:Array Value}(h:Rx g X t w a cs W)(h1:Hid (uo g t b W'))(h2:Hid (Rd g W W')):Rx g X t w b cs W':=
 ⟨h1.out,(h2.out.block X (Ig.1 h.bx).1 (Ne.symm h.ne)).trans h.bx,h2.out.os.trans h.os,h2.out.tape.trans h.tape,h2.out.output.trans h.output,IB h.size h2.out.size,λk hk h3 h4=>(h2.out.block k (Ix hk h.size) h3).trans (h.block k hk h3 h4),h.ne⟩
theorem Rx.below{g X a:Nat}{t:ByteArray}{w W W':World}{cs:Array Value}(h:Rx g X t w a cs W)(hb:Below W.heap.size W W'):Rx g X t w a cs W':=
 h.call (h.tL.below hb h.tL.hg) (Rd.uD hb (By _):Rd g W W')
theorem Rx.store{g X a:Nat}{t:ByteArray}{w W:World}{cs:Array Value}(h:Rx g X t w a cs W)(i:Nat)(v:Value):Rx g X t w a (cs.setIfInBounds i v) (W.setCell ⟨X,i,U⟩ v) where
 tL:=⟨(JL _ _ _ _ (by have:=h.ne;intro e;simp at e)).trans h.tL.c0,(JL _ _ _ _ (by have:=h.ne;intro e;simp at e)).trans h.tL.c1,by simpa using h.tL.hz,by simpa using h.tL.hg⟩
 bx:=It h.bx v
 os:=h.os
 tape:=h.tape
 output:=h.output
 size:=by simpa using h.size
 block:=λk hk h3 h4=>(IC W _ v k (by simpa using h4)).trans (h.block k hk h3 h4)
 ne:=h.ne
theorem Rx.cell{g X a:Nat}{t:ByteArray}{w W:World}{cs:Array Value}(h:Rx g X t w a cs W)(i:Nat):W.cell? ⟨X,i,U⟩=cs[i]?:=fi h.bx i
theorem Rx.free{g X a:Nat}{t:ByteArray}{w W:World}{cs:Array Value}(h:Rx g X t w a cs W)(i:Nat):W.frozen? ⟨X,i,U⟩=false:=by simp[Ij,h.bx]
theorem Vo(s:ByteArray)(w:World)(hs:s.size<=1000) :
 Calls AT 220 #[I s] w λe w'=>e=Ia (I s)/\Below w.heap.size w w':=by
 have HC:Hid (Calls _ _ _ _ _):=Tryz.stringslite_Clone s w (by omega);go_enter func220,ntmps220;go_wp2_with fail;refine HC.out.mono ?_;rintro e w1 ⟨rfl,hb⟩;go_wp2_with fail;go_ret;exact⟨rfl,hb⟩
def Gc(t:ByteArray)(a:Nat):Option (ByteArray×Nat):=(DP t a a [] U).map λx=>(mk (jn (x.1.map L1)),x.2)
theorem Vp(g a:Nat)(t:ByteArray)(w:World)(h:uo g t a w)(hs:t.size<=1000)(ha:a<=t.size) :
 Calls AT 127 #[Ik (AI ⟨g,0,U⟩)] w λe w'=>Hid (Rd g w w')/\((∃s q,Gc t a=AI (s,q)/\s.size<=1000/\q<=t.size/\e=Ia (I s)/\Hid (uo g t q w'))\/(Gc t a=U/\e=sU 1)):=by
 refine(amK g a t w h hs ha).mono ?_;rintro e w' ⟨h1,⟨ls,q,h2,⟨h3,h4⟩,h5,h6,h7⟩|⟨h2,h3⟩⟩
 .refine⟨h1,.inl ⟨_,q,by unfold Gc;rw[h2];rfl,?_,h5,h6,h7⟩⟩
  rw[sJ];have:=Gu ls h4;omega
 .exact⟨h1,.inr ⟨by unfold Gc;rw[h2];rfl,h3⟩⟩
def pA(t:ByteArray)(a:Nat)(nm:ByteArray)(ty la:Int):Option (Rc.Rec×Nat):=
 if ty=1 then(if a+4<=t.size then AI (⟨nm,ty,la,mP t a 4,⟨#[]⟩,0,⟨#[]⟩⟩,a+4) else U)
 else if ty=16 then(if a+1+mP t a 1<=t.size then AI (⟨nm,ty,la,0,t.extract (a+1) (a+1+mP t a 1),0,⟨#[]⟩⟩,a+1+mP t a 1) else U)
 else if ty=33 then
  (if a+2<=t.size/\(mP t a 2:Int)=0 then
    if a+2+2<=t.size/\(mP t (a+2) 2:Int)=0 then
     if a+2+2+2<=t.size then(Gc t (a+2+2+2)).map λx=>(⟨nm,ty,la,0,⟨#[]⟩,mP t (a+2+2) 2,x.1⟩,x.2) else U
    else U
  else U)
 else AI (⟨nm,ty,la,0,⟨#[]⟩,0,⟨#[]⟩⟩,a)
structure Ry(g X:Nat)(w W:World):Prop where
 os:W.os=w.os
 tape:W.tape=w.tape
 output:W.output=w.output
 size:w.heap.size<=W.heap.size
 block:∀k:Nat,k<w.heap.size->k≠g->k≠X->W.heap[k]?=w.heap[k]?
theorem Rx.ry{g X a:Nat}{t:ByteArray}{w W:World}{cs:Array Value}(h:Rx g X t w a cs W):Ry g X w W:=⟨h.os,h.tape,h.output,h.size,h.block⟩
theorem Rx.gone{g X a:Nat}{t:ByteArray}{w W W':World}{cs:Array Value}(h:Rx g X t w a cs W)(h2:Hid (Rd g W W')):Ry g X w W':=
 ⟨h2.out.os.trans h.os,h2.out.tape.trans h.tape,h2.out.output.trans h.output,IB h.size h2.out.size,λk hk h3 h4=>(h2.out.block k (Ix hk h.size) h3).trans (h.block k hk h3 h4)⟩
abbrev ad6(r:Rc.Rec):Array Value:=#[I r.name,O J r.mQ,O J r.nH,O J r.addr,I r.text,O J r.port,I r.target]
abbrev Ml(g X a:Nat)(t nm:ByteArray)(ty la:Int)(w:World)(e:Ending)(w':World):Prop:=
 (∃r q,pA t a nm ty la=AI (r,q)/\q<=t.size/\(r.name=nm/\r.text.size<=1000/\r.target.size<=1000)/\e=Ia (Ir #[])/\Hid (Rx g X t w q (ad6 r) w'))\/(pA t a nm ty la=U/\e=sU 1/\Hid (Ry g X w w'))
theorem air(g X a:Nat)(t nm:ByteArray)(la:Int)(w W:World)(h:Rx g X t w a #[I nm,O J 1,O J la,O J 0,I ⟨#[]⟩,O J 0,I ⟨#[]⟩] W)(hs:t.size<=1000)(ha:a<=t.size) :
 Calls AT 176 #[Ik (AI ⟨g,0,U⟩),Ik (AI ⟨X,0,U⟩)] W (Ml g X a t nm 1 la w):=by
 have HF:Hid (pA t a nm 1 la=if a+4<=t.size then AI (⟨nm,1,la,mP t a 4,⟨#[]⟩,0,⟨#[]⟩⟩,a+4) else U):=if_pos rfl;have H:Hid _:=h;have HN:Hid (Calls _ _ _ _ _):=qM g a 4 t W h.tL hs ha (by omega);have c1:=h.cell 1;clear h;unfold Ml;generalize pA t a nm 1 la=F at *;go_enter func176,ntmps176;go_wp2_with fail;refine HN.out.mono ?_;rintro e w1 ⟨h2,⟨hle,rfl,h1⟩|⟨tY,rfl⟩⟩;rotate_left
 .exact⟨rfl,.inr ⟨HF.out.trans (if_neg tY),rfl,H.out.gone h2⟩⟩
 have H1:Hid _:=H.out.call h1 h2;have c3:=H1.out.cell 3;have z3:=H1.out.free 3;have Mr:Hid _:=HF.out.trans (if_pos hle);clear h1 h2 HF;generalize(mP t a 4:Int)=x at *;go_wp2_with fail;simp only[JM,results,results176];exact⟨trivial,Ir #[],by simp,.inl ⟨_,_,Mr.out,hle,⟨rfl,by simp[JN],by simp[JN]⟩,rfl,H1.out.store 3 (O J x)⟩⟩
theorem afC(g X a:Nat)(t nm:ByteArray)(la:Int)(w W:World)(h:Rx g X t w a #[I nm,O J 16,O J la,O J 0,I ⟨#[]⟩,O J 0,I ⟨#[]⟩] W)(hs:t.size<=1000)(ha:a<=t.size) :
 Calls AT 176 #[Ik (AI ⟨g,0,U⟩),Ik (AI ⟨X,0,U⟩)] W (Ml g X a t nm 16 la w):=by
 have HF:Hid (pA t a nm 16 la=if a+1+mP t a 1<=t.size then AI (⟨nm,16,la,0,t.extract (a+1) (a+1+mP t a 1),0,⟨#[]⟩⟩,a+1+mP t a 1) else U):=rfl;have H:Hid _:=h;have HN:Hid (Calls _ _ _ _ _):=KT g a t W h.tL hs ha;have hxs:a+1+mP t a 1<=t.size->(t.extract (a+1) (a+1+mP t a 1)).size<=1000:=λhl=>by rw[WT t a _ hl];omega
 have c1:=h.cell 1;clear h;unfold Ml;generalize pA t a nm 16 la=F at *;generalize t.extract (a+1) (a+1+mP t a 1)=x at *;generalize mP t a 1=y at *;go_enter func176,ntmps176;go_wp2_with fail;refine HN.out.mono ?_;rintro e w1 ⟨h2,⟨hle,rfl,h1⟩|⟨tY,rfl⟩⟩;rotate_left
 .exact⟨rfl,.inr ⟨HF.out.trans (if_neg tY),rfl,H.out.gone h2⟩⟩
 have H1:Hid _:=H.out.call h1 h2;have Mr:Hid _:=HF.out.trans (if_pos hle);have HCL:Hid (∀W,Calls _ _ _ _ _):=λW=>Vo x W (hxs hle);have LQ:=hxs hle;clear h1 h2 HF hxs;go_wp2_with fail;refine(HCL.out w1).mono ?_;rintro e w2 ⟨rfl,mZ⟩;have H2:Hid _:=H1.out.below mZ;have c4:=H2.out.cell 4;have z4:=H2.out.free 4;clear mZ;go_wp2_with fail;simp only[JM,results,results176];exact⟨trivial,Ir #[],by simp,.inl ⟨_,_,Mr.out,hle,⟨rfl,LQ,by simp[JN]⟩,rfl,H2.out.store 4 (I x)⟩⟩
theorem afD(g X a:Nat)(t nm:ByteArray)(la:Int)(w W:World)(h:Rx g X t w a #[I nm,O J 33,O J la,O J 0,I ⟨#[]⟩,O J 0,I ⟨#[]⟩] W)(hs:t.size<=1000)(ha:a<=t.size) :
 Calls AT 176 #[Ik (AI ⟨g,0,U⟩),Ik (AI ⟨X,0,U⟩)] W (Ml g X a t nm 33 la w):=by
 have HF:Hid (pA t a nm 33 la=if a+2<=t.size/\(mP t a 2:Int)=0 then
  if a+2+2<=t.size/\(mP t (a+2) 2:Int)=0 then
   if a+2+2+2<=t.size then(Gc t (a+2+2+2)).map λx=>(⟨nm,33,la,0,⟨#[]⟩,mP t (a+2+2) 2,x.1⟩,x.2) else U
  else U
  else U):=rfl
 have H:Hid _:=h;have c1:=h.cell 1;clear h;unfold Ml;generalize pA t a nm 33 la=F at *;go_enter func176,ntmps176;go_wp2_with fail;refine(uG g a 2 0 t W H.out.tL hs ha (by omega)).mono ?_;rintro e w1 ⟨h2,⟨hle,rfl,h1⟩|⟨tY,rfl⟩⟩;rotate_left
 .exact⟨rfl,.inr ⟨HF.out.trans (if_neg tY),rfl,H.out.gone h2⟩⟩
 have H1:Hid _:=H.out.call h1 h2;have Mr:Hid _:=HF.out.trans (if_pos hle);have o8:=hle.1;clear h1 h2 HF hle;go_wp2_with fail;refine(uG g (a+2) 2 0 t w1 H1.out.tL hs o8 (by omega)).mono ?_;rintro e w2 ⟨h2,⟨hle,rfl,h1⟩|⟨tY,rfl⟩⟩;rotate_left
 .exact⟨rfl,.inr ⟨Mr.out.trans (if_neg tY),rfl,H1.out.gone h2⟩⟩
 have H2:Hid _:=H1.out.call h1 h2;have zy:Hid _:=Mr.out.trans (if_pos hle);have oR:=hle.1;clear h1 h2 Mr hle;go_wp2_with fail;refine(qM g (a+2+2) 2 t w2 H2.out.tL hs oR (by omega)).mono ?_;rintro e w3 ⟨h2,⟨hle,rfl,h1⟩|⟨tY,rfl⟩⟩;rotate_left
 .exact⟨rfl,.inr ⟨zy.out.trans (if_neg tY),rfl,H2.out.gone h2⟩⟩
 have H3:Hid _:=H2.out.call h1 h2;have GO:Hid _:=zy.out.trans (if_pos hle);have c5:=H3.out.cell 5;have z5:=H3.out.free 5;clear h1 h2 zy;generalize(mP t (a+2+2) 2:Int)=po at *;go_wp2_with fail;have H4:Hid _:=H3.out.store 5 (O J po);refine(Vp g (a+2+2+2) t _ H4.out.tL hs hle).mono ?_;rintro e w4 ⟨h2,⟨ta,q,h3,h4,h5,rfl,h1⟩|⟨h3,rfl⟩⟩;rotate_left
 .exact⟨rfl,.inr ⟨by rw[GO.out,h3];rfl,rfl,H4.out.gone h2⟩⟩
 have H5:Hid _:=H4.out.call h1 h2;have HF4:Hid (F=AI (⟨nm,33,la,0,⟨#[]⟩,po,ta⟩,q)):=(show _=_ by rw[GO.out,h3];rfl);have c6:=H5.out.cell 6;have z6:=H5.out.free 6;clear h1 h2 h3 GO H4 c5 z5;go_wp2_with fail;simp only[JM,results,results176];exact⟨trivial,Ir #[],by simp,.inl ⟨_,_,HF4.out,h5,⟨rfl,by simp[JN],h4⟩,rfl,H5.out.store 6 (I ta)⟩⟩
theorem Vq(g X a:Nat)(t nm:ByteArray)(ty la:Int)(w W:World)(h:Rx g X t w a #[I nm,O J ty,O J la,O J 0,I ⟨#[]⟩,O J 0,I ⟨#[]⟩] W)(ha:a<=t.size)(h1:ty≠1)(h2:ty≠16)(h3:ty≠33) :
 Calls AT 176 #[Ik (AI ⟨g,0,U⟩),Ik (AI ⟨X,0,U⟩)] W (Ml g X a t nm ty la w):=by
 have HF:Hid (pA t a nm ty la=AI (⟨nm,ty,la,0,⟨#[]⟩,0,⟨#[]⟩⟩,a)):=(show _=_ by unfold pA;rw[if_neg h1,if_neg h2,if_neg h3]);have H:Hid _:=h;have c1:=h.cell 1;have e1:(ty==1)=false:=by simpa using h1
 have e2:(ty==16)=false:=by simpa using h2
 have e3:(ty==33)=false:=by simpa using h3
 clear h;unfold Ml;generalize pA t a nm ty la=F at *;go_enter func176,ntmps176;go_wp2_with fail;simp only[JM,results,results176];exact⟨trivial,Ir #[],by simp,.inl ⟨_,_,HF.out,ha,⟨rfl,by simp[JN],by simp[JN]⟩,rfl,H.out⟩⟩
theorem amO(g X a:Nat)(t nm:ByteArray)(ty la:Int)(w W:World)(h:Rx g X t w a #[I nm,O J ty,O J la,O J 0,I ⟨#[]⟩,O J 0,I ⟨#[]⟩] W)(hs:t.size<=1000)(ha:a<=t.size) :
 Calls AT 176 #[Ik (AI ⟨g,0,U⟩),Ik (AI ⟨X,0,U⟩)] W (Ml g X a t nm ty la w):=by
 by_cases h1:ty=1
 .subst h1;exact air g X a t nm la w W h hs ha
 by_cases h2:ty=16
 .subst h2;exact afC g X a t nm la w W h hs ha
 by_cases h3:ty=33
 .subst h3;exact afD g X a t nm la w W h hs ha
 exact Vq g X a t nm ty la w W h ha h1 h2 h3
theorem uo.put{g a b:Nat}{t:ByteArray}{W:World}(h:uo g t a W)(i:Nat)(v:Value)(hb:b≠g):uo g t a (W.setCell ⟨b,i,U⟩ v):=
 ⟨(JL _ _ _ _ (by intro e;simp at e)).trans h.c0,(JL _ _ _ _ (by intro e;simp at e)).trans h.c1,by simpa using h.hz,by simpa using h.hg⟩
def Ee(t:ByteArray)(p:Nat)(o:Option (Rc.Rec×Nat)):Option (Rc.Rec×Nat):=
 match o with
 |none=>U
 |some (r,q)=>if(q:Int)-((p+2+2+4+2:Nat):Int)=(mP t (p+2+2+4) 2:Int) then AI (r,q) else U
def P8(t nm:ByteArray)(p:Nat):Option (Rc.Rec×Nat):=
 if p+2<=t.size then
  if p+2+2<=t.size/\(mP t (p+2) 2:Int)=1 then
   if p+2+2+4<=t.size then
    if p+2+2+4+2<=t.size then Ee t p (pA t (p+2+2+4+2) nm (mP t p 2) (mP t (p+2+2) 4)) else U
   else U
  else U
 else U
def rT(t:ByteArray)(a:Nat):Option (Rc.Rec×Nat):=
 match Gc t a with
 |none=>U
 |some (nm,p)=>P8 t nm p
theorem Ry.rd{g X:Nat}{w wq W:World}(h:Ry g X wq W)(hx:w.Extends wq)(hX:w.heap.size<=X):Rd g w W:=
 ⟨h.os.trans hx.os,h.tape.trans hx.tape,h.output.trans hx.output,IB hx.size h.size,λk hk hg=>(h.block k (Ix hk hx.size) hg (by omega)).trans (hx.block k hk)⟩
theorem amP(g a:Nat)(t:ByteArray)(w:World)(h:uo g t a w)(hs:t.size<=1000)(ha:a<=t.size) :
 Calls AT 128 #[Ik (AI ⟨g,0,U⟩)] w λe w'=>Hid (Rd g w w')/\((∃r q,rT t a=AI (r,q)/\q<=t.size/\r.ok/\e=Ia (B6 r)/\Hid (uo g t q w'))\/(rT t a=U/\e=sU 1)):=by
 have HI:Hid _:=h;have hg:=h.hg;have HF:Hid (rT t a=match Gc t a with|none=>U|some (nm,p)=>P8 t nm p):=rfl;clear h;generalize rT t a=F at *;go_enter func128,ntmps128;go_wp2_with fail;obtain⟨wq,hwq⟩:∃wq,wq=w.alloc (Ib #[I ⟨#[]⟩,O J 0,O J 0,O J 0,I ⟨#[]⟩,O J 0,I ⟨#[]⟩] 104):=⟨_,rfl⟩;have hnq:wq.heap.size=w.heap.size+1:=by rw[hwq];simp
 have hxq:w.Extends wq:=by rw[hwq];exact(I1 w).alloc _
 have xv:wq.heap[w.heap.size]?=AI (Ib #[I ⟨#[]⟩,O J 0,O J 0,O J 0,I ⟨#[]⟩,O J 0,I ⟨#[]⟩] 104 (0,0)):=by rw[hwq];exact Ii w _
 rw[<- hwq];clear hwq;have HXQ:Hid (w.Extends wq):=hxq;have HGQ:Hid _:=xv;have H0:Hid (Rx g (w.heap.size+1) t wq a #[I ⟨#[]⟩,O J 0,O J 0,O J 0,I ⟨#[]⟩,O J 0,I ⟨#[]⟩] (wq.alloc (Ib #[I ⟨#[]⟩,O J 0,O J 0,O J 0,I ⟨#[]⟩,O J 0,I ⟨#[]⟩] 104))):=(show Rx _ _ _ _ _ _ _ by
  have hx:wq.Extends (wq.alloc (Ib #[I ⟨#[]⟩,O J 0,O J 0,O J 0,I ⟨#[]⟩,O J 0,I ⟨#[]⟩] 104)):=(I1 wq).alloc _;have hn:=Ii wq (Ib #[I ⟨#[]⟩,O J 0,O J 0,O J 0,I ⟨#[]⟩,O J 0,I ⟨#[]⟩] 104);rw[hnq] at hn;exact⟨(HI.out.ext hxq).ext hx,hn,rfl,rfl,rfl,hx.size,λk hk _ _=>hx.block k hk,by omega⟩)
 clear hxq xv;refine(Vp g a t _ H0.out.tL hs ha).mono ?_;rintro e w1 ⟨h2,⟨nm,p,h3,h4,h5,rfl,h1⟩|⟨h3,rfl⟩⟩;rotate_left
 .exact⟨rfl,(H0.out.gone h2).rd HXQ.out (by omega),.inr ⟨by rw[HF.out,h3],rfl⟩⟩
 have Mr:Hid (F=P8 t nm p):=(show _=_ by rw[HF.out,h3]);have zy:Hid (F=if p+2<=t.size then
  if p+2+2<=t.size/\(mP t (p+2) 2:Int)=1 then
   if p+2+2+4<=t.size then
    if p+2+2+4+2<=t.size then Ee t p (pA t (p+2+2+4+2) nm (mP t p 2) (mP t (p+2+2) 4)) else U
   else U
  else U
  else U):=Mr
 have H1:Hid _:=H0.out.call h1 h2;have c0:=H1.out.cell 0;have z0:=H1.out.free 0;clear h1 h2 h3 H0 HF Mr;go_wp2_with fail;have H2:Hid _:=H1.out.store 0 (I nm);refine(qM g p 2 t _ H2.out.tL hs h5 (by omega)).mono ?_;rintro e w2 ⟨h2,⟨hle,rfl,h1⟩|⟨tY,rfl⟩⟩;rotate_left
 .exact⟨rfl,(H2.out.gone h2).rd HXQ.out (by omega),.inr ⟨zy.out.trans (if_neg tY),rfl⟩⟩
 have GO:Hid (F=if p+2+2<=t.size/\(mP t (p+2) 2:Int)=1 then
  if p+2+2+4<=t.size then
   if p+2+2+4+2<=t.size then Ee t p (pA t (p+2+2+4+2) nm (mP t p 2) (mP t (p+2+2) 4)) else U
  else U
  else U):=zy.out.trans (if_pos hle)
 have H3:Hid _:=H2.out.call h1 h2;have c1:=H3.out.cell 1;have z1:=H3.out.free 1;clear h1 h2 H1 H2 c0 z0 zy;generalize(mP t p 2:Int)=ty at *;go_wp2_with fail;have H4:Hid _:=H3.out.store 1 (O J ty);refine(uG g (p+2) 2 1 t _ H4.out.tL hs hle (by omega)).mono ?_;rintro e w3 ⟨h2,⟨abw,rfl,h1⟩|⟨tY,rfl⟩⟩;rotate_left
 .exact⟨rfl,(H4.out.gone h2).rd HXQ.out (by omega),.inr ⟨GO.out.trans (if_neg tY),rfl⟩⟩
 have HF4:Hid (F=if p+2+2+4<=t.size then
  if p+2+2+4+2<=t.size then Ee t p (pA t (p+2+2+4+2) nm ty (mP t (p+2+2) 4)) else U
  else U):=GO.out.trans (if_pos abw)
 have H5:Hid _:=H4.out.call h1 h2;have axy:=abw.1;clear h1 h2 H3 H4 c1 z1 GO abw;go_wp2_with fail;refine(qM g (p+2+2) 4 t _ H5.out.tL hs axy (by omega)).mono ?_;rintro e w4 ⟨h2,⟨arQ,rfl,h1⟩|⟨tY,rfl⟩⟩;rotate_left
 .exact⟨rfl,(H5.out.gone h2).rd HXQ.out (by omega),.inr ⟨HF4.out.trans (if_neg tY),rfl⟩⟩
 have HF5:Hid _:=HF4.out.trans (if_pos arQ);have H6:Hid _:=H5.out.call h1 h2;have c2:=H6.out.cell 2;have z2:=H6.out.free 2;clear h1 h2 H5 HF4;generalize(mP t (p+2+2) 4:Int)=la at *;go_wp2_with fail;have H7:Hid _:=H6.out.store 2 (O J la);refine(qM g (p+2+2+4) 2 t _ H7.out.tL hs arQ (by omega)).mono ?_;rintro e w5 ⟨h2,⟨arR,rfl,h1⟩|⟨tY,rfl⟩⟩;rotate_left
 .exact⟨rfl,(H7.out.gone h2).rd HXQ.out (by omega),.inr ⟨HF5.out.trans (if_neg tY),rfl⟩⟩
 have HF6:Hid _:=HF5.out.trans (if_pos arR);have H8:Hid _:=H7.out.call h1 h2;clear h1 h2 H6 H7 c2 z2 HF5;have HRH:Hid (∀r q,Ee t p (AI (r,q))=if(q:Int)-((p+2+2+4+2:Nat):Int)=(mP t (p+2+2+4) 2:Int) then AI (r,q) else U):=λr q=>rfl;have HRN:Hid (Ee t p U=U):=rfl;generalize(mP t (p+2+2+4) 2:Int)=sz at *;generalize hB:p+2+2+4+2=B at *;clear hB;have ca:=H8.out.tL.c1;go_wp2_with fail;refine(amO g (w.heap.size+1) B t nm ty la wq w5 H8.out hs arR).mono ?_;rintro e w9 (⟨r,q,h3,hq,⟨k1,k2,k3⟩,rfl,H9⟩|⟨h3,rfl,h9⟩);rotate_left
 .exact⟨rfl,h9.out.rd HXQ.out (by omega),.inr ⟨by rw[HF6.out,h3,HRN.out],rfl⟩⟩
 have HF7:Hid (F=if(q:Int)-(B:Int)=sz then AI (r,q) else U):=(show _=_ by rw[HF6.out,h3,HRH.out]);have P9:r.ok:=⟨by rw[k1];unfold Il;omega,by unfold Il;omega,by unfold Il;omega⟩;have WV:Hid _:=(H9.out.block _ (by omega) (by omega) (by omega)).trans HGQ.out;have cb:w9.cell? ⟨g,1,U⟩=AI (O J (q:Int)):=H9.out.tL.c1;clear H8 ca HF6 h3 HRH HRN k1 k2 k3;have axz:Hid r.ok:=P9;clear P9;have m0:w9.cell? ⟨w.heap.size+1,0,U⟩=AI (I r.name):=H9.out.cell 0;have q0:w9.cell? ⟨w.heap.size,0,U⟩=AI (I ⟨#[]⟩):=fi WV.out 0;have y0:w9.frozen? ⟨w.heap.size,0,U⟩=false:=by simp[Ij,WV.out]
 have m1:w9.cell? ⟨w.heap.size+1,1,U⟩=AI (O J r.mQ):=H9.out.cell 1;have q1:w9.cell? ⟨w.heap.size,1,U⟩=AI (O J 0):=fi WV.out 1;have y1:w9.frozen? ⟨w.heap.size,1,U⟩=false:=by simp[Ij,WV.out]
 have m2:w9.cell? ⟨w.heap.size+1,2,U⟩=AI (O J r.nH):=H9.out.cell 2;have q2:w9.cell? ⟨w.heap.size,2,U⟩=AI (O J 0):=fi WV.out 2;have y2:w9.frozen? ⟨w.heap.size,2,U⟩=false:=by simp[Ij,WV.out]
 have m3:w9.cell? ⟨w.heap.size+1,3,U⟩=AI (O J r.addr):=H9.out.cell 3;have q3:w9.cell? ⟨w.heap.size,3,U⟩=AI (O J 0):=fi WV.out 3;have y3:w9.frozen? ⟨w.heap.size,3,U⟩=false:=by simp[Ij,WV.out]
 have m4:w9.cell? ⟨w.heap.size+1,4,U⟩=AI (I r.text):=H9.out.cell 4;have q4:w9.cell? ⟨w.heap.size,4,U⟩=AI (I ⟨#[]⟩):=fi WV.out 4;have y4:w9.frozen? ⟨w.heap.size,4,U⟩=false:=by simp[Ij,WV.out]
 have m5:w9.cell? ⟨w.heap.size+1,5,U⟩=AI (O J r.port):=H9.out.cell 5;have q5:w9.cell? ⟨w.heap.size,5,U⟩=AI (O J 0):=fi WV.out 5;have y5:w9.frozen? ⟨w.heap.size,5,U⟩=false:=by simp[Ij,WV.out]
 have m6:w9.cell? ⟨w.heap.size+1,6,U⟩=AI (I r.target):=H9.out.cell 6;have q6:w9.cell? ⟨w.heap.size,6,U⟩=AI (I ⟨#[]⟩):=fi WV.out 6;have y6:w9.frozen? ⟨w.heap.size,6,U⟩=false:=by simp[Ij,WV.out]
 have hwr:IntKind.i64.wrap ((q:Int)-(B:Int))=(q:Int)-(B:Int):=by rw[IW];omega
 by_cases od:(q:Int)-(B:Int)=sz
 .have hbq:((q:Int)-(B:Int)==sz)=true:=by simpa using od
  have HF8:Hid (F=AI (r,q)):=HF7.out.trans (if_pos od);clear od HF7;go_wp2_with fail;refine(ql _ _).mono ?_;rintro e w10 ⟨rfl,amS⟩;subst amS;go_wp2_with fail;refine IE (v:=B6 r) ?_ rfl ⟨?_,.inl ⟨r,q,HF8.out,hq,axz.out,rfl,?_⟩⟩
  .simp[results,results128,go_sem,q0,q1,q2,q3,q4,q5,q6]
  .have hrd:=H9.out.ry.rd HXQ.out (by omega)
   exact(((((((hrd.put 0 _ (By _)).put 1 _ (By _)).put 2 _ (By _)).put 3 _ (By _)).put 4 _ (By _)).put 5 _ (By _)).put 6 _ (By _))
  .exact((((((((H9.out.tL).put 0 _ (by omega)).put 1 _ (by omega)).put 2 _ (by omega)).put 3 _ (by omega)).put 4 _ (by omega)).put 5 _ (by omega)).put 6 _ (by omega))
 .have hbq:((q:Int)-(B:Int)==sz)=false:=by simpa using od
  have HF8:Hid _:=HF7.out.trans (if_neg od);clear od HF7;go_wp2_with fail;refine(pP _ _).mono ?_;rintro e w10 ⟨rfl,amS⟩;subst amS;exact⟨rfl,H9.out.ry.rd HXQ.out (by omega),.inr ⟨HF8.out,rfl⟩⟩
theorem PC(f:Nat)(DU:Array Value)(E:Int)(w:World)(ef:∀args W,(callFunc f args).run AT W=.ok (.enter f args) W)(hc:Calls AT f DU (w.alloc (Ib #[O J 0] 31)) λr w'=>r=sU E/\Below (w.heap.size+1) (w.alloc (Ib #[O J 0] 31)) w') :
 Calls AT 72 #[.func (.func f) #[] DU] w λr w'=>r=Ia (O J E)/\Below w.heap.size w w':=by
 have Ep:(w.alloc (Ib #[O J 0] 31)).heap[w.heap.size]?=AI (Ib #[O J 0] 31 (0,0)):=Ii w _;by_cases h0:E=0
 .subst h0
  refine(Fc f DU w (λW=>Below (w.heap.size+1) (w.alloc (Ib #[O J 0] 31)) W) ef (hc.mono ?_)).mono ?_
  .rintro r w' ⟨rfl,hb⟩
   have hk:=(hb.block _ (by omega)).trans Ep;exact⟨rfl,hb,fi hk 0,by simp[Ij,hk],(Ig.1 hk).1⟩
  .rintro r w' ⟨rfl,w1,hR,_,rfl⟩
   exact⟨rfl,(((If _ _).alloc (By _) _).trans (hR.mono (by omega))).setCell (p:=⟨w.heap.size,0,U⟩) (By _) _⟩
 .refine(Fe f DU E w (λW=>Below (w.heap.size+1) (w.alloc (Ib #[O J 0] 31)) W) ef (hc.mono ?_)).mono ?_
  .rintro r w' ⟨rfl,hb⟩
   have hk:=(hb.block _ (by omega)).trans Ep;exact⟨ri h0,hb,fi hk 0,by simp[Ij,hk],(Ig.1 hk).1⟩
  .rintro r w' ⟨rfl,w1,hR,_,hb⟩
   exact⟨rfl,(((If _ _).alloc (By _) _).trans (hR.mono (by omega))).trans hb⟩
theorem KL{w W:World}{b off:Nat}{rs:List Rc.Rec}(h:Rc.Row w b off rs)(hW:Below w.heap.size w W)(hb:b<w.heap.size):Rc.Row W b off rs:=λj hj=>by
 obtain⟨c0,c1,c2,c3,c4,c5,c6⟩:=h j hj;exact⟨(hW.cell (p:=⟨b,off+j*7,U⟩) hb).trans c0,(hW.cell (p:=⟨b,off+j*7+1,U⟩) hb).trans c1,(hW.cell (p:=⟨b,off+j*7+2,U⟩) hb).trans c2,(hW.cell (p:=⟨b,off+j*7+3,U⟩) hb).trans c3,(hW.cell (p:=⟨b,off+j*7+4,U⟩) hb).trans c4,(hW.cell (p:=⟨b,off+j*7+5,U⟩) hb).trans c5,(hW.cell (p:=⟨b,off+j*7+6,U⟩) hb).trans c6⟩
theorem Tryz.Wt:(Tryz.prog.info? 104).map (λi=>(i.zero,i.size,i.bytes))=AI (AI (Iu #[I ⟨#[]⟩,O J 0,O J 0,O J 0,I ⟨#[]⟩,O J 0,I ⟨#[]⟩]),7,80):=by kernel_rfl
theorem Rd.alJ{g base:Nat}{w w':World}{v:Value}{l:List Rc.Rec}(h:Rd g w w')(ho:Rc.Own base w v l)(hg:g<base):Rc.Own base w' v l:=by
 rcases ho.2 with⟨rfl,h0⟩|⟨k,c,cur,rfl,qa,hk,rF,qw,oH,nA⟩
 .exact⟨ho.1,.inl ⟨rfl,h0⟩⟩
 .have mS:k<w.heap.size:=(Ig.1 hk).1
  exact⟨ho.1,.inr ⟨k,c,cur,rfl,qa,(h.block k mS (by omega)).trans hk,rF,qw,oH,nA⟩⟩
theorem St.grown{g a:Nat}{t:ByteArray}{w W W':World}{T:TypeId}{zs cs:Array Value}{row:Option Nat}(h:St g t w T zs a cs W)(hg:W.grownBy W' row)(nK:∀q,q<w.heap.size+2->AI q≠row):St g t w T zs a cs W':=by
 have hl:=h.lt;have mO:w.heap.size+1<W.heap.size:=(Ig.1 h.bx).1;have hblk:∀q,q<w.heap.size+2->W'.heap[q]?=W.heap[q]?:=λq hq=>hg.block q (by omega) (nK q hq);refine⟨⟨?_,?_,?_,?_⟩,⟨hg.os.trans h.rd.os,hg.tape.trans h.rd.tape,hg.output.trans h.rd.output,IB h.rd.size hg.size,λq hq hqg=>(hblk q (by omega)).trans (h.rd.block q hq hqg)⟩,(hblk _ (by omega)).trans h.qx,(hblk _ (by omega)).trans h.bx,hl⟩
 .exact(Ow (a:=⟨g,0,U⟩) (hblk g (by omega))).trans h.tL.c0
 .exact(Ow (a:=⟨g,1,U⟩) (hblk g (by omega))).trans h.tL.c1
 .exact(World.frozen?_of_block (a:=⟨g,1,U⟩) (hblk g (by omega))).trans h.tL.hz
 .exact Ix h.tL.hg hg.size
theorem nI{base b i:Nat}{u v:Value}{l:List Rc.Rec}{W:World}(h:Rc.Own base W v l)(hb:b<base):Rc.Own base (W.setCell ⟨b,i,U⟩ u) v l:=by
 rcases h.2 with⟨rfl,h0⟩|⟨k,c,cur,rfl,qa,hk,r⟩
 .exact⟨h.1,.inl ⟨rfl,h0⟩⟩
 .exact⟨h.1,.inr ⟨k,c,cur,rfl,qa,(IC W _ u k (by simp;omega)).trans hk,r⟩⟩
structure Ms where
 id:Int
 code:Int
 mQ:Int
 mX:Bool
 cut:Bool
 R:ByteArray
 rs:List Rc.Rec
def qX(t:ByteArray):Nat->Nat->List Rc.Rec->Option (List Rc.Rec×Nat)
 |0,a,D=>AI (D,a)
 |n+1,a,D=>match rT t a with
  |none=>U
  |some (r,q)=>qX t n q (D++[r])
def Ef(t:ByteArray)(id:Int)(mX cut:Bool)(code:Int)(R:ByteArray)(mQ:Int)(o:Option (List Rc.Rec×Nat)):Option Ms:=
 match o with
 |none=>U
 |some (rs,q)=>if q=t.size then AI ⟨id,code,mQ,mX,cut,R,rs⟩ else U
def Hd(t:ByteArray)(id:Int)(mX cut:Bool)(code:Int)(n:Nat)(o:Option (ByteArray×Nat)):Option Ms:=
 match o with
 |none=>U
 |some (R,p)=>if p+2<=t.size then if p+2+2<=t.size/\(mP t (p+2) 2:Int)=1 then Ef t id mX cut code R (mP t p 2) (qX t n (p+2+2) []) else U else U
def Vr(t:ByteArray)(id F:Int)(mX cut:Bool):Option Ms:=
 if F=CF mX cut then
  if 3+1<=t.size then
   if 4+2<=t.size/\(mP t 4 2:Int)=1 then
    if 6+2<=t.size then
     if 8+2<=t.size/\(mP t 8 2:Int)=0 then
      if 10+2<=t.size/\(mP t 10 2:Int)=0 then Hd t id mX cut (mP t 3 1) (mP t 6 2) (Gc t 12) else U
     else U
    else U
   else U
  else U
 else U
def pI(t:ByteArray):Option Ms:=
 if 0+2<=t.size then
  if 2+1<=t.size then Vr t (mP t 0 2) (mP t 2 1) (bits .and J (mP t 2 1) 128 !=0) (bits .and J (mP t 2 1) 2 !=0) else U
 else U
theorem N6{t:ByteArray}{n a:Nat}{D:List Rc.Rec}(h:rT t a=U)(hn:0<n):qX t n a D=U:=by
 obtain⟨m,rfl⟩:∃m,n=m+1:=⟨n-1,by omega⟩;simp only[qX,h]
theorem N7{t:ByteArray}{n a q:Nat}{r:Rc.Rec}{D:List Rc.Rec}(h:rT t a=AI (r,q))(hn:0<n):qX t n a D=qX t (n-1) q (D++[r]):=by
 obtain⟨m,rfl⟩:∃m,n=m+1:=⟨n-1,by omega⟩;simp only[qX,h,Nat.add_sub_cancel]
abbrev MsP(g:Nat)(w:World)(F:Option Ms)(e:Ending)(w':World):Prop:=
 Hid (Rd g w w')/\((∃M v,F=AI M/\(M.R.size<=1000/\∀r∈M.rs,r.ok)/\e=Ia (Iu #[O J M.id,Ic M.mX,Ic M.cut,O J M.code,I M.R,O J M.mQ,v])/\Hid (Rc.Own (w.heap.size+2) w' v M.rs))\/(F=U/\e=sU 1))
theorem Vs{P:Prop}(h:P:=by
 refine Qj rfl (λK hK=>?_) Q8;have HK:Hid _:=hK;clear hK;go_simp;refine HK.out _ _ ?_;clear HK K;refine QE (rs:=[5]) (by kernel_rfl) (by simp) ?_;refine Qj rfl (λK hK=>?_) Q8;have HK:Hid _:=hK;clear hK;rw[if_pos (by rfl)];refine wp_append_own _ _ _ 61 rfl (w.heap.size+2) 104 i0 _ 7 80 underlying61 qg oS so sf rfl (by omega) v D.length (Rc.fl D) rfl (OY Nt.out _) ⟨w5.heap.size,0,U⟩ 1 1 r.cs rfl rfl (World.news_of_block (cs:=#[I r.name,O J r.mQ,O J r.nH,O J r.addr,I r.text,O J r.port,I r.target]) (t:=104) (fr:=(0,0)) (Ii w5 _)) (Rc.pX r) (by unfold Il;omega) (by omega) (by simp;omega) ?_;intro v' w6 r1 r2 r3;obtain⟨ao,l',c',Mu⟩:∃ao l' c',v'=sh ao l' c':=by
  rcases r1.2 with⟨hv,_⟩|⟨gq,cq,_,hv,_⟩
  .exact⟨_,_,_,hv⟩
  .exact⟨_,_,_,hv⟩
 subst Mu;have arS:w5.Extends (w5.alloc (Ib #[I r.name,O J r.mQ,O J r.nH,O J r.addr,I r.text,O J r.port,I r.target] 104)):=(I1 w5).alloc _;have aea:∀q,q<w.heap.size+2->AI q≠v.ownBlock:=λq hq e=>by have:=(Nt.out.lt q e.symm).1;omega
 have HS6:Hid (St g t w 63 oG q #[O J id,Ic mX,Ic cut,O J code,I R,O J mQ,v] w6):=(show St _ _ _ _ _ _ _ _ from(HS5.out.keep arS).grown r2 (λq hq=>aea q hq));have Bl:Hid (Rc.Own (w.heap.size+2) w6 (sh ao l' c') (D++[r])):=(show Rc.Own _ _ _ _ by exact Rc.qC r1);have hz6:w.heap.size+2<=w6.heap.size:=by have:=r2.size;simp at this;omega
 have hv6:w6.cell? ⟨w.heap.size+1,6,U⟩=AI v:=HS6.out.cell 6;have hf6:=HS6.out.free 6;clear r1 r2 r3 arS aea HS5 Nt uJ hv5;refine HK.out _ _ ?_;clear HK K;refine QE (rs:=[6]) (by kernel_rfl) (by simp) ?_;refine Qj rfl (λK hK=>?_) Q8;have HK:Hid _:=hK;clear hK;go_simp;refine HK.out _ _ ?_;clear HK K;refine QE (rs:=[7]) (by kernel_rfl) (by simp) ?_;refine Qj rfl (λK hK=>?_) Q8;have HK:Hid _:=hK;clear hK;go_simp;refine HK.out _ _ ?_;clear HK K;refine wpAny_done (by kernel_rfl) ?_ _;have HS7:Hid (St g t w 63 oG q #[O J id,Ic mX,Ic cut,O J code,I R,O J mQ,sh ao l' c'] (w6.setCell ⟨w.heap.size+1,6,U⟩ (sh ao l' c'))):=HS6.out.store 6 (sh ao l' c');have HO7:Hid (Rc.Own (w.heap.size+2) (w6.setCell ⟨w.heap.size+1,6,U⟩ (sh ao l' c')) (sh ao l' c') (D++[r])):=nI Bl.out (by omega);have hz7:w.heap.size+2<=(w6.setCell ⟨w.heap.size+1,6,U⟩ (sh ao l' c')).heap.size:=by simpa using hz6
 clear HS6 Bl hz6 hv6 hf6;go_wp2_with fail;exact⟨⟨k+1,sh ao l' c',D++[r],q,by omega,by go_num,by rw[Iq,Jk,hDk],hqt,arT,N9,HS7,HO7,hz7⟩,by simp[intOf];omega⟩):P:=h
theorem afE(g:Nat)(t:ByteArray)(w:World)(h:uo g t 0 w)(hs:t.size<=1000) :
 Calls AT 70 #[Ik (AI ⟨g,0,U⟩)] w (MsP g w (pI t)):=by
 have HF:Hid (pI t=if 0+2<=t.size then
  if 2+1<=t.size then Vr t (mP t 0 2) (mP t 2 1) (bits .and J (mP t 2 1) 128 !=0) (bits .and J (mP t 2 1) 2 !=0) else U
 else U):=rfl
 have HI:Hid (uo g t 0 w):=h;have hg:=h.hg;clear h;unfold MsP;generalize pI t=F at *;go_enter func70,ntmps70;go_wp2_with fail;obtain⟨w0,qu⟩:∃w0,w0=(w.alloc (Ib oG 63)).alloc (Ib oG 63):=⟨_,rfl⟩;rw[<- qu];have S0:Hid (St g t w 63 oG 0 oG w0):=(show St _ _ _ _ _ _ _ _ by
  have hx:w.Extends w0:=by rw[qu];exact((I1 w).alloc _).alloc _
  refine⟨HI.out.ext hx,Rd.ext hx,?_,?_,hg⟩
  .rw[qu]
   exact(Jj _ _ _ (by simp)).trans (Ii w _)
  .rw[qu]
   have:=Ii (w.alloc (Ib oG 63)) (Ib oG 63);simpa using this)
 clear qu;refine(qM g 0 2 t w0 S0.out.tL hs (by omega) (by omega)).mono ?_;rintro e w1 ⟨h2,⟨l0,rfl,h1⟩|⟨tY,rfl⟩⟩;rotate_left
 .exact⟨rfl,S0.out.rd.trans h2.out,.inr ⟨HF.out.trans (if_neg tY),rfl⟩⟩
 have HF0:Hid (F=if 2+1<=t.size then Vr t (mP t 0 2) (mP t 2 1) (bits .and J (mP t 2 1) 128 !=0) (bits .and J (mP t 2 1) 2 !=0) else U):=HF.out.trans (if_pos l0);have S1:Hid (St g t w 63 oG 2 oG w1):=S0.out.call h1 h2;have z1:=S1.out.free 0;have c1:w1.cell? ⟨w.heap.size+1,0,U⟩=AI (O J 0):=S1.out.cell 0;clear h1 h2 S0 HF;generalize(mP t 0 2:Int)=id at *;go_wp2_with fail;have S2:Hid (St g t w 63 oG 2 #[O J id,Ic false,Ic false,O J 0,I ⟨#[]⟩,O J 0,sh U 0 0] (w1.setCell ⟨w.heap.size+1,0,U⟩ (O J id))):=S1.out.store 0 (O J id);refine(qM g 2 1 t _ S2.out.tL hs (by omega) (by omega)).mono ?_;rintro e w2 ⟨h2,⟨l2,rfl,h1⟩|⟨tY,rfl⟩⟩;rotate_left
 .exact⟨rfl,S2.out.rd.trans h2.out,.inr ⟨HF0.out.trans (if_neg tY),rfl⟩⟩
 have Mr:Hid (F=Vr t id (mP t 2 1) (bits .and J (mP t 2 1) 128 !=0) (bits .and J (mP t 2 1) 2 !=0)):=HF0.out.trans (if_pos l2);have S3:Hid (St g t w 63 oG 3 #[O J id,Ic false,Ic false,O J 0,I ⟨#[]⟩,O J 0,sh U 0 0] w2):=S2.out.call h1 h2;have z1:=S3.out.free 1;have z2:=S3.out.free 2;have c0:w2.cell? ⟨w.heap.size+1,0,U⟩=AI (O J id):=S3.out.cell 0;have c1:w2.cell? ⟨w.heap.size+1,1,U⟩=AI (Ic false):=S3.out.cell 1;have c2:w2.cell? ⟨w.heap.size+1,2,U⟩=AI (Ic false):=S3.out.cell 2;have c3:w2.cell? ⟨w.heap.size+1,3,U⟩=AI (O J 0):=S3.out.cell 3;have c4:w2.cell? ⟨w.heap.size+1,4,U⟩=AI (I ⟨#[]⟩):=S3.out.cell 4;have c5:w2.cell? ⟨w.heap.size+1,5,U⟩=AI (O J 0):=S3.out.cell 5;have c6:w2.cell? ⟨w.heap.size+1,6,U⟩=AI (sh U 0 0):=S3.out.cell 6;clear h1 h2 S1 S2 HF0;generalize(mP t 2 1:Int)=fl at *;obtain⟨mX,mO⟩:∃x,(bits .and J fl 128 !=0)=x:=⟨_,rfl⟩;obtain⟨cut,mZ⟩:∃x,(bits .and J fl 2 !=0)=x:=⟨_,rfl⟩;rw[mO,mZ] at Mr;go_wp2_with fail;have S4:Hid (St g t w 63 oG 3 #[O J id,Ic mX,Ic cut,O J 0,I ⟨#[]⟩,O J 0,sh U 0 0] ((w2.setCell ⟨w.heap.size+1,1,U⟩ (Ic mX)).setCell ⟨w.heap.size+1,2,U⟩ (Ic cut))):=(S3.out.store 1 (Ic mX)).store 2 (Ic cut);refine(XF id 0 0 mX cut ⟨#[]⟩ _).mono ?_;rintro e w3 ⟨rfl,o,Rq⟩;have S5:Hid (St g t w 63 oG 3 #[O J id,Ic mX,Ic cut,O J 0,I ⟨#[]⟩,O J 0,sh U 0 0] w3):=(show St _ _ _ _ _ _ _ _ by rw[Rq];exact S4.out.keep ((I1 _).alloc _));have zy:Hid (F=if fl=CF mX cut then
  if 3+1<=t.size then
   if 4+2<=t.size/\(mP t 4 2:Int)=1 then
    if 6+2<=t.size then
     if 8+2<=t.size/\(mP t 8 2:Int)=0 then
      if 10+2<=t.size/\(mP t 10 2:Int)=0 then Hd t id mX cut (mP t 3 1) (mP t 6 2) (Gc t 12) else U
     else U
    else U
   else U
  else U
 else U):=Mr
 clear Rq z1 z2 c0 c1 c2 c3 c4 c5 c6 S3 S4 mO mZ Mr;generalize CF mX cut=fg at *;by_cases uU:fl=fg;rotate_left
 .have hfb:(fl==fg)=false:=by simpa using uU
  have GO:Hid (F=U):=zy.out.trans (if_neg uU);clear zy uU;go_wp2_with fail;refine(pP _ _).mono ?_;rintro e w4 ⟨rfl,WB⟩;subst WB;exact⟨rfl,S5.out.rd,.inr ⟨GO.out,rfl⟩⟩
 have hfb:(fl==fg)=true:=by simpa using uU
 have GO:Hid _:=zy.out.trans (if_pos uU);clear zy uU;go_wp2_with fail;refine(ql _ _).mono ?_;rintro e w4 ⟨rfl,WB⟩;subst WB;clear hfb;go_wp2_with fail;refine(qM g 3 1 t _ S5.out.tL hs l2 (by omega)).mono ?_;rintro e w5 ⟨h2,⟨l3,rfl,h1⟩|⟨tY,rfl⟩⟩;rotate_left
 .exact⟨rfl,S5.out.rd.trans h2.out,.inr ⟨GO.out.trans (if_neg tY),rfl⟩⟩
 have HF4:Hid _:=GO.out.trans (if_pos l3);have S6:Hid (St g t w 63 oG 4 #[O J id,Ic mX,Ic cut,O J 0,I ⟨#[]⟩,O J 0,sh U 0 0] w5):=S5.out.call h1 h2;have z3:=S6.out.free 3;have c3:w5.cell? ⟨w.heap.size+1,3,U⟩=AI (O J 0):=S6.out.cell 3;clear h1 h2 S5 GO;generalize(mP t 3 1:Int)=code at *;go_wp2_with fail;have S7:Hid (St g t w 63 oG 4 #[O J id,Ic mX,Ic cut,O J code,I ⟨#[]⟩,O J 0,sh U 0 0] (w5.setCell ⟨w.heap.size+1,3,U⟩ (O J code))):=S6.out.store 3 (O J code);refine(uG g 4 2 1 t _ S7.out.tL hs l3 (by omega)).mono ?_;rintro e w6 ⟨h2,⟨l4,rfl,h1⟩|⟨tY,rfl⟩⟩;rotate_left
 .exact⟨rfl,S7.out.rd.trans h2.out,.inr ⟨HF4.out.trans (if_neg tY),rfl⟩⟩
 have HF5:Hid _:=HF4.out.trans (if_pos l4);have S8:Hid (St g t w 63 oG 6 #[O J id,Ic mX,Ic cut,O J code,I ⟨#[]⟩,O J 0,sh U 0 0] w6):=S7.out.call h1 h2;clear h1 h2 S6 S7 z3 c3 HF4;go_wp2_with fail;refine(qM g 6 2 t _ S8.out.tL hs l4.1 (by omega)).mono ?_;rintro e w7 ⟨h2,⟨l6,rfl,h1⟩|⟨tY,rfl⟩⟩;rotate_left
 .exact⟨rfl,S8.out.rd.trans h2.out,.inr ⟨HF5.out.trans (if_neg tY),rfl⟩⟩
 have HF6:Hid _:=HF5.out.trans (if_pos l6);have S9:Hid (St g t w 63 oG 8 #[O J id,Ic mX,Ic cut,O J code,I ⟨#[]⟩,O J 0,sh U 0 0] w7):=S8.out.call h1 h2;have aFf:=wu t 6 2;clear h1 h2 S8 HF5;generalize mP t 6 2=n at *;go_wp2_with fail;refine(uG g 8 2 0 t _ S9.out.tL hs l6 (by omega)).mono ?_;rintro e w8 ⟨h2,⟨l8,rfl,h1⟩|⟨tY,rfl⟩⟩;rotate_left
 .exact⟨rfl,S9.out.rd.trans h2.out,.inr ⟨HF6.out.trans (if_neg tY),rfl⟩⟩
 have HF7:Hid _:=HF6.out.trans (if_pos l8);have SA:Hid (St g t w 63 oG 10 #[O J id,Ic mX,Ic cut,O J code,I ⟨#[]⟩,O J 0,sh U 0 0] w8):=S9.out.call h1 h2;clear h1 h2 S9 HF6;go_wp2_with fail;refine(uG g 10 2 0 t _ SA.out.tL hs l8.1 (by omega)).mono ?_;rintro e w9 ⟨h2,⟨l10,rfl,h1⟩|⟨tY,rfl⟩⟩;rotate_left
 .exact⟨rfl,SA.out.rd.trans h2.out,.inr ⟨HF7.out.trans (if_neg tY),rfl⟩⟩
 have HF8:Hid (F=Hd t id mX cut code n (Gc t 12)):=HF7.out.trans (if_pos l10);have SB:Hid (St g t w 63 oG 12 #[O J id,Ic mX,Ic cut,O J code,I ⟨#[]⟩,O J 0,sh U 0 0] w9):=SA.out.call h1 h2;clear h1 h2 SA HF7;go_wp2_with fail;refine(Vp g 12 t _ SB.out.tL hs l10.1).mono ?_;rintro e wa ⟨h2,⟨R,p,h3,h4,h5,rfl,h1⟩|⟨h3,rfl⟩⟩;rotate_left
 .exact⟨rfl,SB.out.rd.trans h2.out,.inr ⟨by rw[HF8.out,h3];rfl,rfl⟩⟩
 have HF9:Hid (F=if p+2<=t.size then if p+2+2<=t.size/\(mP t (p+2) 2:Int)=1 then Ef t id mX cut code R (mP t p 2) (qX t n (p+2+2) []) else U else U):=(show _=_ by rw[HF8.out,h3];rfl);have SC:Hid (St g t w 63 oG p #[O J id,Ic mX,Ic cut,O J code,I ⟨#[]⟩,O J 0,sh U 0 0] wa):=SB.out.call h1 h2;have z4:=SC.out.free 4;have c4:wa.cell? ⟨w.heap.size+1,4,U⟩=AI (I ⟨#[]⟩):=SC.out.cell 4;clear h1 h2 h3 SB HF8;go_wp2_with fail;have SD:Hid (St g t w 63 oG p #[O J id,Ic mX,Ic cut,O J code,I R,O J 0,sh U 0 0] (wa.setCell ⟨w.heap.size+1,4,U⟩ (I R))):=SC.out.store 4 (I R);refine(qM g p 2 t _ SD.out.tL hs h5 (by omega)).mono ?_;rintro e wb ⟨h2,⟨lp,rfl,h1⟩|⟨tY,rfl⟩⟩;rotate_left
 .exact⟨rfl,SD.out.rd.trans h2.out,.inr ⟨HF9.out.trans (if_neg tY),rfl⟩⟩
 have TU:Hid (F=if p+2+2<=t.size/\(mP t (p+2) 2:Int)=1 then Ef t id mX cut code R (mP t p 2) (qX t n (p+2+2) []) else U):=HF9.out.trans (if_pos lp);have SE:Hid (St g t w 63 oG (p+2) #[O J id,Ic mX,Ic cut,O J code,I R,O J 0,sh U 0 0] wb):=SD.out.call h1 h2;have z5:=SE.out.free 5;have c5:wb.cell? ⟨w.heap.size+1,5,U⟩=AI (O J 0):=SE.out.cell 5;clear h1 h2 SC SD z4 c4 HF9;generalize(mP t p 2:Int)=mQ at *;go_wp2_with fail;have SF:Hid (St g t w 63 oG (p+2) #[O J id,Ic mX,Ic cut,O J code,I R,O J mQ,sh U 0 0] (wb.setCell ⟨w.heap.size+1,5,U⟩ (O J mQ))):=SE.out.store 5 (O J mQ);refine(uG g (p+2) 2 1 t _ SF.out.tL hs lp (by omega)).mono ?_;rintro e wc ⟨h2,⟨lq,rfl,h1⟩|⟨tY,rfl⟩⟩;rotate_left
 .exact⟨rfl,SF.out.rd.trans h2.out,.inr ⟨TU.out.trans (if_neg tY),rfl⟩⟩
 obtain⟨RS,hRS⟩:∃RS,RS=qX t n (p+2+2) []:=⟨_,rfl⟩;have HFB:Hid (F=Ef t id mX cut code R mQ RS):=(show _=_ by rw[hRS];exact TU.out.trans (if_pos lq));have arU:Hid (qX t (n-0) (p+2+2) []=RS):=hRS.symm;have SG:Hid (St g t w 63 oG (p+2+2) #[O J id,Ic mX,Ic cut,O J code,I R,O J mQ,sh U 0 0] wc):=SF.out.call h1 h2;have lp4:=lq.1;clear h1 h2 SE SF z5 c5 TU hRS lq;go_wp2_with fail;have hzw:w.heap.size+2<=wc.heap.size:=(Ig.1 SG.out.bx).1;obtain⟨i0,qg,oS,so,sf⟩:=Jc Tryz.Wt;go_loopw [46] (λi wr=>∃(k:Nat) (v:Value) (D:List Rc.Rec) (b:Nat),k<=n/\i=O J k/\D.length=k/\b<=t.size/\Hid (qX t (n-k) b D=RS)/\Hid (∀r∈D,r.ok)/\Hid (St g t w 63 oG b #[O J id,Ic mX,Ic cut,O J code,I R,O J mQ,v] wr)/\Hid (Rc.Own (w.heap.size+2) wr v D)/\w.heap.size+2<=wr.heap.size) (λi _=>n-(intOf i).toNat)
 case atStart=>exact⟨0,sh U 0 0,[],p+2+2,Iw _,rfl,rfl,lp4,arU,(show ∀_,_ from λr hr=>by cases hr),SG,Jz _ _ _ _,hzw⟩
 case round=>
  obtain⟨k,v,D,b,hk,rfl,hDk,VU,NQ,xY,HS,HO,od⟩:=hrel;by_cases mS:k<n
  .have hd:decide ((k:Int)<(n:Int))=true:=by simp;omega
   have NO:Hid (Calls AT 128 #[Ik (AI ⟨g,0,U⟩)] wr.drew λe w'=>Hid (Rd g wr.drew w')/\((∃r q,rT t b=AI (r,q)/\q<=t.size/\r.ok/\e=Ia (B6 r)/\Hid (uo g t q w'))\/(rT t b=U/\e=sU 1))):=amP g b t wr.drew (HS.out.tL.ext (I1 _).drew) hs VU;have Kc:Hid (rT t b=U->F=U):=λhh=>by
    rw[HFB.out,<- NQ.out,N6 hh (by omega)];rfl
   have HGO:Hid (∀r q,rT t b=AI (r,q)->qX t (n-(k+1)) q (D++[r])=RS):=λr q hh=>by
    rw[<- NQ.out,N7 hh (by omega),show n-(k+1)=n-k-1 by omega]
   generalize rT t b=rf at *;have hvw:wr.cell? ⟨w.heap.size+1,6,U⟩=AI v:=HS.out.cell 6;go_wp2_with fail;refine wp_region_any (by kernel_rfl) ?_;refine wpAny_take (i:=0) (v:=Ik (AI ⟨w.heap.size+1,6,U⟩)) rfl (by kernel_rfl) (by kernel_rfl) (by kernel_rfl) (λ_ _ _ h=>h) (J6 ⟨by rfl,?_⟩) ?_
   .intro W
    go_simp
   refine wpAny_take (i:=2) (v:=Ik (AI ⟨g,0,U⟩)) rfl (by kernel_rfl) (by kernel_rfl) (by kernel_rfl) (λ_ _ _ h=>h) (J6 ⟨by rfl,?_⟩) ?_
   .intro W
    go_simp
   refine QE (rs:=[1,3]) (by kernel_rfl) (by simp) ?_;refine Qj rfl (λK hK=>?_) (Qj rfl (λK hK=>?_) Q8)
   .have HK:Hid _:=hK
    clear hK;go_simp;refine HK.out _ _ ?_;clear HK K;refine QE (rs:=[3]) (by kernel_rfl) (by simp) ?_;refine Qj rfl (λK hK=>?_) Q8;have HK:Hid _:=hK;clear hK;go_simp;refine NO.out.mono ?_;rintro e w5 ⟨h2,⟨r,q,h3,hqt,P9,rfl,h1⟩|⟨h3,rfl⟩⟩;rotate_left
    .exact⟨rfl,(HS.out.keep (I1 _).drew).rd.trans h2.out,.inr ⟨Kc.out h3,rfl⟩⟩
    have arT:Hid (qX t (n-(k+1)) q (D++[r])=RS):=HGO.out r q h3;have N9:Hid (∀x∈D++[r],x.ok):=(show ∀_,_ from λx hx=>by
     rcases JI.1 hx with h|h
     .exact xY.out x h
     .rw[JR.1 h];exact P9)
    clear h3 P9 Kc HGO NQ xY;have HS5:Hid (St g t w 63 oG q #[O J id,Ic mX,Ic cut,O J code,I R,O J mQ,v] w5):=(HS.out.keep (I1 _).drew).call h1 h2;have Nt:Hid (Rc.Own (w.heap.size+2) w5 v D):=h2.out.alJ (World.ownsRow.drew HO.out) (by omega);have uJ:w.heap.size+2<=w5.heap.size:=IB od h2.out.size;have hv5:w5.cell? ⟨w.heap.size+1,6,U⟩=AI v:=HS5.out.cell 6;clear h1 h2;refine HK.out _ _ ?_;clear HK K;refine QE (rs:=[4]) (by kernel_rfl) (by simp) ?_;exact Vs
   .have HK:Hid _:=hK
    clear hK;go_simp;refine NO.out.mono ?_;rintro e w5 ⟨h2,⟨r,q,h3,hqt,P9,rfl,h1⟩|⟨h3,rfl⟩⟩;rotate_left
    .exact⟨rfl,(HS.out.keep (I1 _).drew).rd.trans h2.out,.inr ⟨Kc.out h3,rfl⟩⟩
    have arT:Hid (qX t (n-(k+1)) q (D++[r])=RS):=HGO.out r q h3;have N9:Hid (∀x∈D++[r],x.ok):=(show ∀_,_ from λx hx=>by
     rcases JI.1 hx with h|h
     .exact xY.out x h
     .rw[JR.1 h];exact P9)
    clear h3 P9 Kc HGO NQ xY;have HS5:Hid (St g t w 63 oG q #[O J id,Ic mX,Ic cut,O J code,I R,O J mQ,v] w5):=(HS.out.keep (I1 _).drew).call h1 h2;have Nt:Hid (Rc.Own (w.heap.size+2) w5 v D):=h2.out.alJ (World.ownsRow.drew HO.out) (by omega);have uJ:w.heap.size+2<=w5.heap.size:=IB od h2.out.size;have hv5:w5.cell? ⟨w.heap.size+1,6,U⟩=AI v:=HS5.out.cell 6;clear h1 h2;refine HK.out _ _ ?_;clear HK K;refine QE (rs:=[1,4]) (by kernel_rfl) (by simp) ?_;refine Qj rfl (λK hK=>?_) (Qj rfl (λK hK=>?_) Q8)
    .have HK:Hid _:=hK
     clear hK;go_simp;refine HK.out _ _ ?_;clear HK K;refine QE (rs:=[4]) (by kernel_rfl) (by simp) ?_;exact Vs
    .have HK:Hid _:=hK
     clear hK;go_simp;refine HK.out _ _ ?_;clear HK K;have hva:(w5.alloc (Ib #[I r.name,O J r.mQ,O J r.nH,O J r.addr,I r.text,O J r.port,I r.target] 104)).cell? ⟨w.heap.size+1,6,U⟩=AI v:=((I1 w5).alloc _).cell_of hv5;refine QE (rs:=[1]) (by kernel_rfl) (by simp) ?_;exact Vs
  .have tp:k=n:=by omega
   have hd:decide ((k:Int)<(n:Int))=false:=by simp;omega
   have BZ:Hid (RS=AI (D,b)):=(show _=_ by rw[<- NQ.out,show n-k=0 by omega];rfl);have Wu:Hid (F=if b=t.size then AI ⟨id,code,mQ,mX,cut,R,D⟩ else U):=(show _=_ by rw[HFB.out,BZ.out];rfl);have ct:wr.cell? ⟨g,0,U⟩=AI (I t):=HS.out.tL.c0;have ca:wr.cell? ⟨g,1,U⟩=AI (O J b):=HS.out.tL.c1;have HOF:Hid (Rc.Own (w.heap.size+2) wr v D):=HO;clear NQ BZ HFB arU;obtain⟨av,lv,cv,yq⟩:∃a l c,v=sh a l c:=by
    rcases HO.out.2 with⟨hv,_⟩|⟨gq,cq,_,hv,_⟩
    .exact⟨_,_,_,hv⟩
    .exact⟨_,_,_,hv⟩
   subst yq;have m0:wr.cell? ⟨w.heap.size+1,0,U⟩=AI (O J id):=HS.out.cell 0;have q0:wr.cell? ⟨w.heap.size,0,U⟩=AI (O J 0):=HS.out.ox 0;have y0:=HS.out.oy 0;have m1:wr.cell? ⟨w.heap.size+1,1,U⟩=AI (Ic mX):=HS.out.cell 1;have q1:wr.cell? ⟨w.heap.size,1,U⟩=AI (Ic false):=HS.out.ox 1;have y1:=HS.out.oy 1;have m2:wr.cell? ⟨w.heap.size+1,2,U⟩=AI (Ic cut):=HS.out.cell 2;have q2:wr.cell? ⟨w.heap.size,2,U⟩=AI (Ic false):=HS.out.ox 2;have y2:=HS.out.oy 2;have m3:wr.cell? ⟨w.heap.size+1,3,U⟩=AI (O J code):=HS.out.cell 3;have q3:wr.cell? ⟨w.heap.size,3,U⟩=AI (O J 0):=HS.out.ox 3;have y3:=HS.out.oy 3;have m4:wr.cell? ⟨w.heap.size+1,4,U⟩=AI (I R):=HS.out.cell 4;have q4:wr.cell? ⟨w.heap.size,4,U⟩=AI (I ⟨#[]⟩):=HS.out.ox 4;have y4:=HS.out.oy 4;have m5:wr.cell? ⟨w.heap.size+1,5,U⟩=AI (O J mQ):=HS.out.cell 5;have q5:wr.cell? ⟨w.heap.size,5,U⟩=AI (O J 0):=HS.out.ox 5;have y5:=HS.out.oy 5;have m6:wr.cell? ⟨w.heap.size+1,6,U⟩=AI (sh av lv cv):=HS.out.cell 6;have q6:wr.cell? ⟨w.heap.size,6,U⟩=AI (sh U 0 0):=HS.out.ox 6;have y6:=HS.out.oy 6;clear tp;by_cases hbe:b=t.size
   .have HFD:Hid (F=AI ⟨id,code,mQ,mX,cut,R,D⟩):=Wu.out.trans (if_pos hbe)
    subst hbe;clear Wu;go_wp2_with fail;go_region_held3 (λw'=>w'.cell? ⟨g,0,U⟩=AI (I t)/\w'.cell? ⟨g,1,U⟩=AI (O J t.size)) (go_keep) (first|(go_at_call 124;refine(ql _ _).mono ?_;rintro e w5 ⟨rfl,rfl⟩)|fail)
    go_wp2_with fail;refine IE (v:=Iu #[O J id,Ic mX,Ic cut,O J code,I R,O J mQ,sh av lv cv]) ?_ rfl ⟨?_,.inl ⟨_,sh av lv cv,HFD.out,⟨h4,xY.out⟩,rfl,?_⟩⟩
    .simp[results,results70,go_sem,q0,q1,q2,q3,q4,q5,q6]
    .exact(Rd.trans (((((((HS.out.rd.put 0 _ (By _)).put 1 _ (By _)).put 2 _ (By _)).put 3 _ (By _)).put 4 _ (By _)).put 5 _ (By _)).put 6 _ (By _)) (Rd.ext (I1 _).drew):Rd g w _)
    .exact World.ownsRow.drew (nI (i:=6) (nI (i:=5) (nI (i:=4) (nI (i:=3) (nI (i:=2) (nI (i:=1) (nI (i:=0) HOF.out (by omega)) (by omega)) (by omega)) (by omega)) (by omega)) (by omega)) (by omega))
   .have HFD:Hid (F=U):=Wu.out.trans (if_neg hbe)
    have heb:((b:Int)==(t.size:Int))=false:=beq_eq_false_iff_ne.2 (by omega);clear Wu;go_wp2_with fail;refine Ul (S:=λW=>W.cell? ⟨g,0,U⟩=AI (I t)/\W.cell? ⟨g,1,U⟩=AI (O J b)) (by kernel_rfl) ⟨ct,ca⟩ (λFp=>?_);refine Ja (i:=0) (v:=?v0) rfl (by kernel_rfl) (by kernel_rfl) (by kernel_rfl) (λ_ _ _ h=>h) (J6 ⟨by rfl,?hy0⟩) (by assumption) ?_
    case hy0=>(intro W rU;obtain⟨d0,d1⟩:=rU;go_simp;try with_reducible rfl)
    refine Ja (i:=1) (v:=?v1) rfl (by kernel_rfl) (by kernel_rfl) (by kernel_rfl) (λ_ _ _ h=>h) (J6 ⟨by rfl,?hy1⟩) (by assumption) ?_
    case hy1=>(intro W rU;obtain⟨d0,d1⟩:=rU;go_simp;try with_reducible rfl)
    refine Ja (i:=2) (v:=?v2) rfl (by kernel_rfl) (by kernel_rfl) (by kernel_rfl) (λ_ _ _ h=>h) (J6 ⟨by rfl,?hy2⟩) (by assumption) ?_
    case hy2=>(intro W rU;obtain⟨d0,d1⟩:=rU;go_simp;try with_reducible rfl)
    refine Ja (i:=3) (v:=?v3) rfl (by kernel_rfl) (by kernel_rfl) (by kernel_rfl) (λ_ _ _ h=>h) (J6 ⟨by rfl,?hy3⟩) (by assumption) ?_
    case hy3=>(intro W rU;obtain⟨d0,d1⟩:=rU;go_simp;try with_reducible rfl)
    refine Ja (i:=4) (v:=?v4) rfl (by kernel_rfl) (by kernel_rfl) (by kernel_rfl) (λ_ _ _ h=>h) (J6 ⟨by rfl,?hy4⟩) (by assumption) ?_
    case hy4=>(intro W rU;obtain⟨d0,d1⟩:=rU;go_simp;try with_reducible rfl)
    refine Ja (i:=5) (v:=?v5) rfl (by kernel_rfl) (by kernel_rfl) (by kernel_rfl) (λ_ _ _ h=>h) (J6 ⟨by rfl,?hy5⟩) (by assumption) ?_
    case hy5=>(intro W rU;obtain⟨d0,d1⟩:=rU;go_simp;try with_reducible rfl)
    refine Ja (i:=6) (v:=?v6) rfl (by kernel_rfl) (by kernel_rfl) (by kernel_rfl) (λ_ _ _ h=>h) (J6 ⟨by rfl,?hy6⟩) (by assumption) ?_
    case hy6=>(intro W rU;obtain⟨d0,d1⟩:=rU;go_simp;try with_reducible rfl)
    refine Ja (i:=7) (v:=?v7) rfl (by kernel_rfl) (by kernel_rfl) (by kernel_rfl) (λ_ _ _ h=>h) (J6 ⟨by rfl,?hy7⟩) (by assumption) ?_
    case hy7=>(intro W rU;obtain⟨d0,d1⟩:=rU;go_simp;try with_reducible rfl)
    refine Ja (i:=8) (v:=?v8) rfl (by kernel_rfl) (by kernel_rfl) (by kernel_rfl) (λ_ _ _ h=>h) (J6 ⟨by rfl,?hy8⟩) (by assumption) ?_
    case hy8=>(intro W rU;obtain⟨d0,d1⟩:=rU;go_simp;try with_reducible rfl)
    refine Ja (i:=9) (v:=?v9) rfl (by kernel_rfl) (by kernel_rfl) (by kernel_rfl) (λ_ _ _ h=>h) (J6 ⟨by rfl,?hy9⟩) (by assumption) ?_
    case hy9=>(intro W rU;obtain⟨d0,d1⟩:=rU;go_simp;try with_reducible rfl)
    refine wpAnyH_ready (rs:=[10]) (by kernel_rfl) (by simp) ?_;refine Q5 rfl (λK hK=>?_) Um;go_simp;refine(pP _ _).mono ?_;rintro e w5 ⟨rfl,rfl⟩;exact⟨rfl,HS.out.rd.trans (vM g wr 1),.inr ⟨HFD.out,rfl⟩⟩
def ze(id code mQ:Int)(mX cut:Bool)(name:ByteArray)(n:Nat):ByteArray:=
 nX id 2++nX (CF mX cut) 1++nX code 1++nX 1 2++nX n 2++nX 0 4++Ha name++nX mQ 2++nX 1 2
def Dc(r:Rc.Rec):ByteArray:=
 if r.mQ=1 then nX r.addr 4
 else if r.mQ=16 then nX r.text.size 1++r.text
 else if r.mQ=33 then nX 0 4++nX r.port 2++Ha r.target
 else⟨#[]⟩
def afF(r:Rc.Rec):ByteArray:=Ha r.name++nX r.mQ 2++nX 1 2++nX r.nH 4++nX (Dc r).size 2++Dc r
theorem aj5:zP 0 4=zP 0 2++zP 0 2:=by kernel_rfl
theorem afG(id code mQ:Int)(mX cut:Bool)(name:ByteArray)(n:Nat):ze id code mQ mX cut name n=⟨(Bc id code mQ mX cut name n).toArray⟩:=by
 apply pW;simp[ze,nX,Ha,Bc,aj5]
theorem ait(r:Rc.Rec):Dc r=⟨(uR r).toArray⟩:=by
 unfold Dc uR;split
 .rfl
 split
 .apply pW;simp[nX]
 split
 .apply pW;simp[nX,Ha,aj5]
 .rfl
theorem aiu(r:Rc.Rec):afF r=⟨(zd r).toArray⟩:=by
 have h:(⟨(uR r).toArray⟩:ByteArray).size=(uR r).length:=by simp[JN]
 apply pW;unfold afF zd;rw[ait,h];simp[nX,Ha]
def tV(rs:List Rc.Rec):ByteArray:=⟨(rs.flatMap zd).toArray⟩
theorem Vt(B:ByteArray)(rs:List Rc.Rec)(k:Nat)(h:k<rs.length):(B++tV (rs.take k))++afF (rs.getD k Rc.dm)=B++tV (rs.take (k+1)):=by
 have e:(rs.take (k+1)).flatMap zd=(rs.take k).flatMap zd++zd rs[k]:=by
  rw[Iz h,Qh];simp
 apply pW;rw[aiu];unfold tV;rw[e];simp[Ip,h]
theorem aiv(id code mQ:Int)(mX cut:Bool)(name:ByteArray)(rs:List Rc.Rec):ze id code mQ mX cut name rs.length++tV rs=⟨(yW id code mQ mX cut name rs).toArray⟩:=by
 apply pW;rw[afG];simp[tV,yW]
theorem afH{id code mQ:Int}{name:ByteArray}{rs:List Rc.Rec}(h:nx id code mQ name rs=0):(0<=id/\id<=65535)/\(0<=code/\code<=15)/\(0<=mQ/\mQ<=33):=by
 unfold nx at h;split at h
 .omega
 rename_i h1;split at h
 .omega
 split at h
 .omega
 split at h
 .omega
 rename_i h4;have RI:(within id 0 65535&&within code 0 15)=true:=by simpa using h1
 have h4':qS mQ=true:=by simpa using h4
 simp only[within,IP,decide_eq_true_eq] at RI;simp only[qS,O8,decide_eq_true_eq] at h4';exact⟨RI.1,RI.2,by omega,by omega⟩
theorem afI{r:Rc.Rec}(h:nT r=0):(0<=r.nH/\r.nH<=2147483647)/\(0<=r.addr/\r.addr<=4294967295)/\(0<=r.port/\r.port<=65535):=by
 unfold nT at h;split at h
 .omega
 split at h
 .omega
 split at h
 .omega
 rename_i h3;split at h
 .omega
 split at h
 .omega
 rename_i h5;have h3':within r.nH 0 2147483647=true:=by simpa using h3
 have h5':(within r.addr 0 4294967295&&within r.port 0 65535)=true:=by simpa using h5
 simp only[within,IP,decide_eq_true_eq] at h3' h5';exact⟨h3',h5'.1,h5'.2⟩
theorem aiw(b:ByteArray):b++tV []=b:=by
 apply pW;simp[tV]
theorem Gx{s:ByteArray}(h:nS s=0):(Ha s).size<=249:=by
 have h1:=xy h;rw[uE,OP] at h1
 have:(Ha s).size=(yT s).length:=by simp[Ha,JN]
 omega
end Go.Proofs.YtipbebleapjcjaaGreatDoor
namespace Go.Proofs.YtipbebleapjcjaaGreatDoor
open Go.RowKit Go.Lib
structure Vu(t:ByteArray)(id code mQ:Int)(mX cut:Bool)(R:ByteArray)(rs:List Rc.Rec):Prop where
 go:∀(g:Nat) (w:World),uo g t 0 w->Calls AT 70 #[Ik (AI ⟨g,0,U⟩)] w λe w'=>∃v,e=Ia (Iu #[O J id,Ic mX,Ic cut,O J code,I R,O J mQ,v])/\Hid (Rd g w w')/\Hid (Rc.Own (w.heap.size+2) w' v rs)
theorem TS{r:Rc.Rec}(h:nT r=0):r.ok:=by
 obtain⟨h1,_,h3,h4⟩:=tK h;have:=(Mj h1).2.2;have:=(Mj h4).2.2;refine⟨?_,?_,?_⟩<;>(unfold Il;omega)
theorem WD{rs:List Rc.Rec}(h:∀r∈rs,nT r=0):∀j,(rs.getD j Rc.dm).ok:=Rc.oz (λr hr=>TS (h r hr))
theorem abx(gs gm:Nat)(id code mQ:Int)(mX cut:Bool)(R t:ByteArray)(rs:List Rc.Rec)(w:World)(hr:Vu t id code mQ mX cut R rs)(Vv:w.heap[gs]?=AI (Ib #[I t] 9 (0,0)))(Ey:w.heap[gm]?=AI (Ib oG 63 (0,0)))(hc:nx id code mQ R rs=0) :
 Calls AT 69 #[Ik (AI ⟨gs,0,U⟩),Ik (AI ⟨gm,0,U⟩)] w λr w'=>r=Ia (Ir #[])/\Hid (Rd gm w w')/\∃v,Hid (w'.heap[gm]?=AI (Ib #[O J id,Ic mX,Ic cut,O J code,I R,O J mQ,v] 63 (0,0)))/\Hid (Rc.Own (w.heap.size+1) w' v rs):=by
 obtain⟨f1,f2,f3⟩:=oM hc;have hRs:=(Mj f2).2.2;have HC:Hid (∀v W,Rc.Sl W v rs->Calls AT 71 #[Iu #[O J id,Ic mX,Ic cut,O J code,I R,O J mQ,v]] W λr w'=>r=Ia (Ir #[])/\Below W.heap.size W w'):=λv W hv=>by
  have h:=Bb id code mQ mX cut R rs v W (by unfold Il;omega) hv;rw[hc,CX] at h;exact h
 have xY:Hid _:=WD f3;have HR:Hid _:=hr;have cs:=fi Vv 0;clear hr Vv f1 f2 f3 hRs hc;have mS:=(Ig.1 Ey).1;have HGM:Hid _:=Ey;clear Ey;go_enter func69,ntmps69;go_wp2_with fail;have hr0:(w.alloc (Ib #[I t,O J 0] 128)).heap[w.heap.size]?=AI (Ib #[I t,O J 0] 128 (0,0)):=Ii w _;refine(HR.out.go w.heap.size _ ⟨fi hr0 0,fi hr0 1,frozenAt hr0 1,by simp⟩).mono ?_;rintro e w1 ⟨v,rfl,h2,ho⟩;have mO:=((If _ _).alloc (By _) _).trans (h2.out.below (By _) (by simp));have uC:Hid (Rd gm w w1):=Rd.uD mO (By _);have uH:Hid (Rc.Own (w.heap.size+1) w1 v rs):=ho.out.mono (by simp<;>omega);obtain⟨av,lv,cv,yq⟩:∃a l c,v=sh a l c:=by
  rcases uH.out.2 with⟨hv,_⟩|⟨gq,cq,_,hv,_⟩
  .exact⟨_,_,_,hv⟩
  .exact⟨_,_,_,hv⟩
 subst yq;have ou:=(mO.block gm mS).trans HGM.out;have o8:=(Ig.1 ou).1;have c0:=fi ou 0;have z0:w1.frozen? ⟨gm,0,U⟩=false:=by simp[Ij,ou]
 have c1:=fi ou 1;have z1:w1.frozen? ⟨gm,1,U⟩=false:=by simp[Ij,ou]
 have c2:=fi ou 2;have z2:w1.frozen? ⟨gm,2,U⟩=false:=by simp[Ij,ou]
 have c3:=fi ou 3;have z3:w1.frozen? ⟨gm,3,U⟩=false:=by simp[Ij,ou]
 have c4:=fi ou 4;have z4:w1.frozen? ⟨gm,4,U⟩=false:=by simp[Ij,ou]
 have c5:=fi ou 5;have z5:w1.frozen? ⟨gm,5,U⟩=false:=by simp[Ij,ou]
 have c6:=fi ou 6;have z6:w1.frozen? ⟨gm,6,U⟩=false:=by simp[Ij,ou]
 have Cl:Hid _:=(It (i:=6) (It (i:=5) (It (i:=4) (It (i:=3) (It (i:=2) (It (i:=1) (It (i:=0) ou (O J id)) (Ic mX)) (Ic cut)) (O J code)) (I R)) (O J mQ)) (sh av lv cv));have xK:Hid (Rd gm w (((((((w1.setCell ⟨gm,0,U⟩ (O J id)).setCell ⟨gm,1,U⟩ (Ic mX)).setCell ⟨gm,2,U⟩ (Ic cut)).setCell ⟨gm,3,U⟩ (O J code)).setCell ⟨gm,4,U⟩ (I R)).setCell ⟨gm,5,U⟩ (O J mQ)).setCell ⟨gm,6,U⟩ (sh av lv cv))):=((((((((uC.out).here 0 _).here 1 _).here 2 _).here 3 _).here 4 _).here 5 _).here 6 _);have sI:Hid (Rc.Own (w.heap.size+1) (((((((w1.setCell ⟨gm,0,U⟩ (O J id)).setCell ⟨gm,1,U⟩ (Ic mX)).setCell ⟨gm,2,U⟩ (Ic cut)).setCell ⟨gm,3,U⟩ (O J code)).setCell ⟨gm,4,U⟩ (I R)).setCell ⟨gm,5,U⟩ (O J mQ)).setCell ⟨gm,6,U⟩ (sh av lv cv)) (sh av lv cv) rs):=(nI (i:=6) (nI (i:=5) (nI (i:=4) (nI (i:=3) (nI (i:=2) (nI (i:=1) (nI (i:=0) uH.out (by omega)) (by omega)) (by omega)) (by omega)) (by omega)) (by omega)) (by omega));clear h2 ho mO hr0 ou uC;go_wp2_with fail;refine(HC.out _ _ (sI.out.sl xY.out)).mono ?_;rintro e w2 ⟨rfl,mZ⟩;have nR:Hid _:=mZ;clear mZ;go_wp2_with fail;simp[JM,results,results69];refine⟨xK.out.trans (Rd.uD nR.out (By _)),sh av lv cv,?_,?_⟩
 .exact(nR.out.block gm (by simp;exact o8)).trans Cl.out
 .exact sI.out.below nR.out
theorem afJ(id code mQ:Int)(mX cut:Bool)(R t:ByteArray)(rs:List Rc.Rec)(w:World)(hr:Vu t id code mQ mX cut R rs)(hl:t.size<=512)(hc:nx id code mQ R rs=0) :
 Calls AT 31 #[I t] w λe w'=>∃v,e=Ia (Ir #[Iu #[O J id,Ic mX,Ic cut,O J code,I R,O J mQ,v],O J 0])/\Below w.heap.size w w'/\Hid (Rc.Own w.heap.size w' v rs):=by
 have Hw:Hid (∀(gs gm:Nat) (W:World),W.heap[gs]?=AI (Ib #[I t] 9 (0,0))->W.heap[gm]?=AI (Ib oG 63 (0,0))->Calls _ _ _ _ _):=λgs gm W Vv Ey=>abx gs gm id code mQ mX cut R t rs W hr Vv Ey hc;have ef:=enters_of func69 (by kernel_rfl) rfl;have ah5:decide (512<(t.size:Int))=false:=by simp;omega
 clear hl hr hc;go_enter func31,ntmps31;go_wp2_with fail;obtain⟨w0,qu⟩:∃w0,w0=((w.alloc (Ib #[I t] 9)).alloc (Ib oG 63)).alloc (Ib oG 63):=⟨_,rfl⟩;rw[<- qu];have hn0:w0.heap.size=w.heap.size+1+1+1:=by rw[qu];simp
 have pN:Hid (Below w.heap.size w w0):=(show Below _ _ _ by rw[qu];exact(((If _ _).alloc (By _) _).alloc (by simp) _).alloc (by simp;omega) _);have Vv:w0.heap[w.heap.size]?=AI (Ib #[I t] 9 (0,0)):=by
  rw[qu];exact(Jj _ _ _ (by simp;omega)).trans ((Jj _ _ _ (by simp)).trans (Ii w _))
 have xv:w0.heap[w.heap.size+1]?=AI (Ib oG 63 (0,0)):=by
  rw[qu];have h:=Ii (w.alloc (Ib #[I t] 9)) (Ib oG 63);exact(Jj _ _ _ (by simp)).trans (by simpa using h)
 have Ey:w0.heap[w.heap.size+1+1]?=AI (Ib oG 63 (0,0)):=by
  rw[qu];have h:=Ii ((w.alloc (Ib #[I t] 9)).alloc (Ib oG 63)) (Ib oG 63);simpa using h
 clear qu;have Ep:(w0.alloc (Ib #[O J 0] 31)).heap[w0.heap.size]?=AI (Ib #[O J 0] 31 (0,0)):=Ii w0 _;have vu:Hid (Calls AT 72 #[.func (.func 69) #[] #[Ik (AI ⟨w.heap.size,0,U⟩),Ik (AI ⟨w.heap.size+1+1,0,U⟩)]] w0 λr w'=>r=Ia (O J 0)/\Hid (Rd (w.heap.size+1+1) w0 w')/\∃v,Hid (w'.heap[w.heap.size+1+1]?=AI (Ib #[O J id,Ic mX,Ic cut,O J code,I R,O J mQ,v] 63 (0,0)))/\Hid (Rc.Own (w.heap.size+1+1+1) w' v rs)):=(show Calls _ _ _ _ _ by
  refine(Fc 69 #[Ik (AI ⟨w.heap.size,0,U⟩),Ik (AI ⟨w.heap.size+1+1,0,U⟩)] w0 (λW=>Rd (w.heap.size+1+1) (w0.alloc (Ib #[O J 0] 31)) W/\∃v,W.heap[w.heap.size+1+1]?=AI (Ib #[O J id,Ic mX,Ic cut,O J code,I R,O J mQ,v] 63 (0,0))/\Rc.Own (w0.heap.size+1+1) W v rs) ef ?_).mono ?_
  .refine(Hw.out w.heap.size (w.heap.size+1+1) _ ((Jj w0 _ _ (by omega)).trans Vv) ((Jj w0 _ _ (by omega)).trans Ey)).mono ?_
   rintro r w' ⟨rfl,hb,v,DT,ho⟩;have hk:=(hb.out.block _ (by simp) (by omega)).trans Ep;exact⟨rfl,⟨hb.out,v,DT.out,by have:=ho.out;simpa using this⟩,fi hk 0,frozenAt hk 0,(Ig.1 hk).1⟩
  .rintro r w' ⟨rfl,w1,⟨hR,v,hk,ho⟩,_,rfl⟩
   refine⟨rfl,(Rd.trans (Rd.ext ((I1 w0).alloc _)) hR).put 0 _ (By _),v,?_,?_⟩
   .exact(IC w1 _ _ _ (by simp;omega)).trans hk
   .exact(nI ho (by omega)).mono (by omega))
 clear Ep Vv Ey Hw ef;refine vu.out.mono ?_;rintro e w1 ⟨rfl,uC,v,vF,uH⟩;obtain⟨av,lv,cv,yq⟩:∃a l c,v=sh a l c:=by
  rcases uH.out.2 with⟨hv,_⟩|⟨gq,cq,_,hv,_⟩
  .exact⟨_,_,_,hv⟩
  .exact⟨_,_,_,hv⟩
 subst yq;have mY:Hid _:=pN.out.trans (uC.out.below (by omega) (by omega));have yf:=(uC.out.block _ (by omega) (by omega)).trans xv;have c0:=fi vF.out 0;have q0:=fi yf 0;have y0:=frozenAt yf 0;have c1:=fi vF.out 1;have q1:=fi yf 1;have y1:=frozenAt yf 1;have c2:=fi vF.out 2;have q2:=fi yf 2;have y2:=frozenAt yf 2;have c3:=fi vF.out 3;have q3:=fi yf 3;have y3:=frozenAt yf 3;have c4:=fi vF.out 4;have q4:=fi yf 4;have y4:=frozenAt yf 4;have c5:=fi vF.out 5;have q5:=fi yf 5;have y5:=frozenAt yf 5;have c6:=fi vF.out 6;have q6:=fi yf 6;have y6:=frozenAt yf 6;clear vu pN uC vF yf xv;go_wp2_with fail;refine IE (v:=Ir #[Iu #[O J id,Ic mX,Ic cut,O J code,I R,O J mQ,sh av lv cv],O J 0]) ?_ rfl ⟨sh av lv cv,rfl,?_,?_⟩
 .simp[results,results31,go_sem,q0,q1,q2,q3,q4,q5,q6]
 .exact(((((((mY.out.setCell (p:=⟨w.heap.size+1,0,U⟩) (by simp) _).setCell (p:=⟨w.heap.size+1,1,U⟩) (by simp) _).setCell (p:=⟨w.heap.size+1,2,U⟩) (by simp) _).setCell (p:=⟨w.heap.size+1,3,U⟩) (by simp) _).setCell (p:=⟨w.heap.size+1,4,U⟩) (by simp) _).setCell (p:=⟨w.heap.size+1,5,U⟩) (by simp) _).setCell (p:=⟨w.heap.size+1,6,U⟩) (by simp) _)
 .exact Rc.Own.mono (nI (i:=6) (nI (i:=5) (nI (i:=4) (nI (i:=3) (nI (i:=2) (nI (i:=1) (nI (i:=0) uH.out (by omega)) (by omega)) (by omega)) (by omega)) (by omega)) (by omega)) (by omega)) (by omega)
def vQ(t:ByteArray):Int:=match pI t with
 |none=>1
 |some M=>nx M.id M.code M.mQ M.R M.rs
theorem afK{t:ByteArray}{M:Ms}(h:pI t=AI M)(hs:t.size<=1000):Vu t M.id M.code M.mQ M.mX M.cut M.R M.rs:=⟨λg w hI=>by
 refine(afE g t w hI hs).mono ?_;rintro e w' ⟨h1,⟨M',v,h2,_,h4,h5⟩|⟨h2,_⟩⟩
 .have e1:=Jq (h2.symm.trans h)
  subst e1;exact⟨v,h4,h1,h5⟩
 .rw[h] at h2;cases h2⟩
theorem afL(gs gm:Nat)(t:ByteArray)(w:World)(Vv:w.heap[gs]?=AI (Ib #[I t] 9 (0,0)))(Ey:w.heap[gm]?=AI (Ib oG 63 (0,0)))(hs:t.size<=1000)(hE:vQ t≠0) :
 Calls AT 69 #[Ik (AI ⟨gs,0,U⟩),Ik (AI ⟨gm,0,U⟩)] w λr w'=>r=sU (vQ t)/\Hid (Rd gm w w'):=by
 have HR:Hid (∀g W,uo g t 0 W->Calls _ _ _ _ _):=λg W hW=>afE g t W hW hs;have HEN:Hid (pI t=U->vQ t=1):=λh=>by unfold vQ;rw[h]
 have HES:Hid (∀M,pI t=AI M->vQ t=nx M.id M.code M.mQ M.R M.rs):=λM h=>by unfold vQ;rw[h]
 have cs:=fi Vv 0;have HE0:Hid _:=hE;clear Vv hE;have mS:=(Ig.1 Ey).1;have HGM:Hid _:=Ey;clear Ey;generalize pI t=F at *;generalize vQ t=E at *;go_enter func69,ntmps69;go_wp2_with fail;have hr0:(w.alloc (Ib #[I t,O J 0] 128)).heap[w.heap.size]?=AI (Ib #[I t,O J 0] 128 (0,0)):=Ii w _;refine(HR.out w.heap.size _ ⟨fi hr0 0,fi hr0 1,frozenAt hr0 1,by simp⟩).mono ?_;rintro e w1 ⟨h2,⟨M,v,hM,⟨hMR,hMo⟩,rfl,ho⟩|⟨hM,rfl⟩⟩;rotate_left
 .have mO:=((If _ _).alloc (By _) _).trans (h2.out.below (By _) (by simp))
  exact⟨rfl,by rw[HEN.out hM];rfl,Rd.uD mO (By _)⟩
 have xY:Hid _:=Rc.oz hMo;have axE:Hid _:=HES.out M hM;have HC:Hid (∀v W,Rc.Sl W v M.rs->Calls AT 71 #[Iu #[O J M.id,Ic M.mX,Ic M.cut,O J M.code,I M.R,O J M.mQ,v]] W λr w'=>r=sU E/\Below W.heap.size W w'):=λv W hv=>by
  have h:=Bb M.id M.code M.mQ M.mX M.cut M.R M.rs v W (by unfold Il;omega) hv;rw[<- axE.out] at h;exact h
 clear HES HEN hM hMo;have mO:=((If _ _).alloc (By _) _).trans (h2.out.below (By _) (by simp));have uC:Hid (Rd gm w w1):=Rd.uD mO (By _);have uH:Hid (Rc.Own (w.heap.size+1) w1 v M.rs):=ho.out.mono (by simp<;>omega);obtain⟨av,lv,cv,yq⟩:∃a l c,v=sh a l c:=by
  rcases uH.out.2 with⟨hv,_⟩|⟨gq,cq,_,hv,_⟩
  .exact⟨_,_,_,hv⟩
  .exact⟨_,_,_,hv⟩
 subst yq;have ou:=(mO.block gm mS).trans HGM.out;have o8:=(Ig.1 ou).1;have c0:=fi ou 0;have z0:w1.frozen? ⟨gm,0,U⟩=false:=by simp[Ij,ou]
 have c1:=fi ou 1;have z1:w1.frozen? ⟨gm,1,U⟩=false:=by simp[Ij,ou]
 have c2:=fi ou 2;have z2:w1.frozen? ⟨gm,2,U⟩=false:=by simp[Ij,ou]
 have c3:=fi ou 3;have z3:w1.frozen? ⟨gm,3,U⟩=false:=by simp[Ij,ou]
 have c4:=fi ou 4;have z4:w1.frozen? ⟨gm,4,U⟩=false:=by simp[Ij,ou]
 have c5:=fi ou 5;have z5:w1.frozen? ⟨gm,5,U⟩=false:=by simp[Ij,ou]
 have c6:=fi ou 6;have z6:w1.frozen? ⟨gm,6,U⟩=false:=by simp[Ij,ou]
 have Cl:Hid _:=(It (i:=6) (It (i:=5) (It (i:=4) (It (i:=3) (It (i:=2) (It (i:=1) (It (i:=0) ou (O J M.id)) (Ic M.mX)) (Ic M.cut)) (O J M.code)) (I M.R)) (O J M.mQ)) (sh av lv cv));have xK:Hid (Rd gm w (((((((w1.setCell ⟨gm,0,U⟩ (O J M.id)).setCell ⟨gm,1,U⟩ (Ic M.mX)).setCell ⟨gm,2,U⟩ (Ic M.cut)).setCell ⟨gm,3,U⟩ (O J M.code)).setCell ⟨gm,4,U⟩ (I M.R)).setCell ⟨gm,5,U⟩ (O J M.mQ)).setCell ⟨gm,6,U⟩ (sh av lv cv))):=((((((((uC.out).here 0 _).here 1 _).here 2 _).here 3 _).here 4 _).here 5 _).here 6 _);have sI:Hid (Rc.Own (w.heap.size+1) (((((((w1.setCell ⟨gm,0,U⟩ (O J M.id)).setCell ⟨gm,1,U⟩ (Ic M.mX)).setCell ⟨gm,2,U⟩ (Ic M.cut)).setCell ⟨gm,3,U⟩ (O J M.code)).setCell ⟨gm,4,U⟩ (I M.R)).setCell ⟨gm,5,U⟩ (O J M.mQ)).setCell ⟨gm,6,U⟩ (sh av lv cv)) (sh av lv cv) M.rs):=(nI (i:=6) (nI (i:=5) (nI (i:=4) (nI (i:=3) (nI (i:=2) (nI (i:=1) (nI (i:=0) uH.out (by omega)) (by omega)) (by omega)) (by omega)) (by omega)) (by omega)) (by omega));clear h2 ho mO hr0 ou uC;rw[ri HE0.out] at HC;go_wp2_with fail;refine(HC.out _ _ (sI.out.sl xY.out)).mono ?_;rintro e w2 ⟨rfl,mZ⟩;exact⟨rfl,(ri HE0.out).symm,xK.out.trans (Rd.uD mZ (By _))⟩
theorem aix(t:ByteArray)(w:World)(hl:t.size<=512)(hE:vQ t≠0) :
 Calls AT 31 #[I t] w λe w'=>e=Ia (Ir #[Iu oG,O J 1])/\Below w.heap.size w w':=by
 have Hw:Hid (∀(gs gm:Nat) (W:World),W.heap[gs]?=AI (Ib #[I t] 9 (0,0))->W.heap[gm]?=AI (Ib oG 63 (0,0))->Calls _ _ _ _ _):=λgs gm W Vv Ey=>afL gs gm t W Vv Ey (by omega) hE;have ef:=enters_of func69 (by kernel_rfl) rfl;have ah5:decide (512<(t.size:Int))=false:=by simp;omega
 have HE0:Hid _:=hE;have hE2:(vQ t==0)=false:=by simpa using hE
 have hE3:(vQ t !=0)=true:=by simpa using hE
 clear hl hE;generalize vQ t=E at *;go_enter func31,ntmps31;go_wp2_with fail;obtain⟨w0,qu⟩:∃w0,w0=((w.alloc (Ib #[I t] 9)).alloc (Ib oG 63)).alloc (Ib oG 63):=⟨_,rfl⟩;rw[<- qu];have hn0:w0.heap.size=w.heap.size+1+1+1:=by rw[qu];simp
 have pN:Hid (Below w.heap.size w w0):=(show Below _ _ _ by rw[qu];exact(((If _ _).alloc (By _) _).alloc (by simp) _).alloc (by simp;omega) _);have Vv:w0.heap[w.heap.size]?=AI (Ib #[I t] 9 (0,0)):=by
  rw[qu];exact(Jj _ _ _ (by simp;omega)).trans ((Jj _ _ _ (by simp)).trans (Ii w _))
 have xv:w0.heap[w.heap.size+1]?=AI (Ib oG 63 (0,0)):=by
  rw[qu];have h:=Ii (w.alloc (Ib #[I t] 9)) (Ib oG 63);exact(Jj _ _ _ (by simp)).trans (by simpa using h)
 have Ey:w0.heap[w.heap.size+1+1]?=AI (Ib oG 63 (0,0)):=by
  rw[qu];have h:=Ii ((w.alloc (Ib #[I t] 9)).alloc (Ib oG 63)) (Ib oG 63);simpa using h
 clear qu;have Ep:(w0.alloc (Ib #[O J 0] 31)).heap[w0.heap.size]?=AI (Ib #[O J 0] 31 (0,0)):=Ii w0 _;have vu:Hid (Calls AT 72 #[.func (.func 69) #[] #[Ik (AI ⟨w.heap.size,0,U⟩),Ik (AI ⟨w.heap.size+1+1,0,U⟩)]] w0 λr w'=>r=Ia (O J E)/\Hid (Rd (w.heap.size+1+1) w0 w')):=(show Calls _ _ _ _ _ by
  refine(Fe 69 #[Ik (AI ⟨w.heap.size,0,U⟩),Ik (AI ⟨w.heap.size+1+1,0,U⟩)] E w0 (λW=>Rd (w.heap.size+1+1) (w0.alloc (Ib #[O J 0] 31)) W) ef ?_).mono ?_
  .refine(Hw.out w.heap.size (w.heap.size+1+1) _ ((Jj w0 _ _ (by omega)).trans Vv) ((Jj w0 _ _ (by omega)).trans Ey)).mono ?_
   rintro r w' ⟨rfl,hb⟩;have hk:=(hb.out.block _ (by simp) (by omega)).trans Ep;exact⟨ri HE0.out,hb.out,fi hk 0,frozenAt hk 0,(Ig.1 hk).1⟩
  .rintro r w' ⟨rfl,w1,hR,_,hb⟩
   exact⟨rfl,(Rd.trans (Rd.ext ((I1 w0).alloc _)) hR).ah0 hb⟩)
 clear Ep Vv Ey Hw ef;refine vu.out.mono ?_;rintro e w1 ⟨rfl,uC⟩;have mY:Hid _:=pN.out.trans (uC.out.below (by omega) (by omega));have yf:=(uC.out.block _ (by omega) (by omega)).trans xv;have q0:=fi yf 0;have y0:=frozenAt yf 0;have q1:=fi yf 1;have y1:=frozenAt yf 1;have q2:=fi yf 2;have y2:=frozenAt yf 2;have q3:=fi yf 3;have y3:=frozenAt yf 3;have q4:=fi yf 4;have y4:=frozenAt yf 4;have q5:=fi yf 5;have y5:=frozenAt yf 5;have q6:=fi yf 6;have y6:=frozenAt yf 6;clear vu pN uC yf xv;go_wp2_with fail;refine IE (v:=Ir #[Iu oG,O J 1]) ?_ rfl ⟨rfl,?_⟩
 .simp[results,results31,go_sem,q0,q1,q2,q3,q4,q5,q6]
 .exact(((((((mY.out.setCell (p:=⟨w.heap.size+1,0,U⟩) (by simp) _).setCell (p:=⟨w.heap.size+1,1,U⟩) (by simp) _).setCell (p:=⟨w.heap.size+1,2,U⟩) (by simp) _).setCell (p:=⟨w.heap.size+1,3,U⟩) (by simp) _).setCell (p:=⟨w.heap.size+1,4,U⟩) (by simp) _).setCell (p:=⟨w.heap.size+1,5,U⟩) (by simp) _).setCell (p:=⟨w.heap.size+1,6,U⟩) (by simp) _)
theorem aby(t:ByteArray)(w:World)(hl:¬ t.size<=512) :
 Calls AT 31 #[I t] w λe w'=>e=Ia (Ir #[Iu oG,O J 2])/\Below w.heap.size w w':=by
 have ah5:decide (512<(t.size:Int))=true:=by simp;omega
 clear hl;go_enter func31,ntmps31;go_wp2_with fail;refine IE (v:=Ir #[Iu oG,O J 2]) ?_ rfl ⟨rfl,?_⟩
 .simp[results,results31,go_sem]
 .exact((If _ _).alloc (By _) _).alloc (by simp) _
abbrev RdP(t:ByteArray)(w:World)(e:Ending)(w':World):Prop:=
 Below w.heap.size w w'/\((∃M v,pI t=AI M/\t.size<=512/\nx M.id M.code M.mQ M.R M.rs=0/\e=Ia (Ir #[Iu #[O J M.id,Ic M.mX,Ic M.cut,O J M.code,I M.R,O J M.mQ,v],O J 0])/\Hid (Rc.Own w.heap.size w' v M.rs))\/(∃E:Int,E=(if t.size<=512 then 1 else 2)/\(t.size<=512->vQ t≠0)/\e=Ia (Ir #[Iu oG,O J E])))
theorem ae4(t:ByteArray)(w:World):Calls AT 31 #[I t] w (RdP t w):=by
 by_cases hl:t.size<=512
 .by_cases hE:vQ t=0
  .have h2:∃M,pI t=AI M/\nx M.id M.code M.mQ M.R M.rs=0:=by
    unfold vQ at hE;cases hM:pI t with
    |none=>rw[hM] at hE;simp at hE
    |some M=>rw[hM] at hE;exact⟨M,rfl,hE⟩
   obtain⟨M,hM,hc⟩:=h2;refine(afJ M.id M.code M.mQ M.mX M.cut M.R t M.rs w (afK hM (by omega)) hl hc).mono ?_;rintro e w' ⟨v,h1,h2,h3⟩;exact⟨h2,.inl ⟨M,v,hM,hl,hc,h1,h3⟩⟩
  .refine(aix t w hl hE).mono ?_
   rintro e w' ⟨h1,h2⟩;exact⟨h2,.inr ⟨1,by rw[if_pos hl],λ_=>hE,h1⟩⟩
 .refine(aby t w hl).mono ?_
  rintro e w' ⟨h1,h2⟩;exact⟨h2,.inr ⟨2,by rw[if_neg hl],λh=>absurd h hl,h1⟩⟩
end Go.Proofs.YtipbebleapjcjaaGreatDoor
namespace Go.Proofs.YtipbebleapjcjaaGreatDoor
open Go.RowKit
def uh(k:Nat)(t:ByteArray)(a:Nat)(bad:Bool)(W:World):Prop:=W.heap[k]?=AI (Ib #[I t,O J a,Ic bad] 100 (0,0))
theorem uh.lt{k a:Nat}{t:ByteArray}{bad:Bool}{W:World}(h:uh k t a bad W):k<W.heap.size:=(Ig.1 h).1
theorem uh.drewN{k a:Nat}{t:ByteArray}{bad:Bool}{W:World}(h:uh k t a bad W)(m:Nat):uh k t a bad (W.drewN m):=h
theorem uh.at{k a:Nat}{t:ByteArray}{bad:Bool}{W:World}(h:uh k t a bad W)(b:Nat):uh k t b bad (W.setCell ⟨k,1,U⟩ (O J b)):=It (i:=1) h (O J b)
theorem uh.Cg{k a:Nat}{t:ByteArray}{bad:Bool}{W:World}(h:uh k t a bad W)(b:Bool):uh k t a b (W.setCell ⟨k,2,U⟩ (Ic b)):=It (i:=2) h (Ic b)
theorem Vw(x y:Nat)(hx:x<16777216)(hy:y<256):wrap64 (256*(x:Int)+wrap64 (y:Int))=((x*256+y:Nat):Int):=by
 have h1:wrap64 (y:Int)=(y:Int):=by unfold wrap64;omega
 rw[h1];unfold wrap64;omega
theorem Gy(k a n:Nat)(t:ByteArray)(bad:Bool)(w:World)(h:uh k t a bad w)(hs:t.size<=1000)(hn:n<=4)(hn0:0<n)(ha:a<=20000) :
 Calls AT 41 #[Ik (AI ⟨k,0,U⟩),O J n] w λe w'=>Hid (Rd k w w')/\((a+n<=t.size/\e=Ia (O J (mP t a n))/\Hid (uh k t (a+n) bad w'))\/(¬ a+n<=t.size/\e=Ia (O J 0)/\∃b,t.size<=b/\b<=20000/\Hid (uh k t b true w'))):=by
 have HI:Hid (uh k t a bad w):=h;clear h;go_enter func41,ntmps41;go_wp2_with fail;go_loopw [5,6] (λvn vi wr=>∃(j x:Nat),vn=O J x/\vi=O J j/\j<=n/\(j=0\/a+j<=t.size)/\Hid (x=mP t a j)/\Hid (uh k t (a+j) bad wr)/\Hid (Rd k w wr)) (λ_ vi _=>n-(intOf vi).toNat)
 case atStart=>exact⟨0,0,rfl,rfl,by omega,.inl rfl,rfl,HI,Rd.refl _ _⟩
 case round=>
  obtain⟨j,x,rfl,rfl,hj,hja,HX,HC,HD⟩:=hrel;by_cases Xg:j<n
  .have hc:decide ((j:Int)<(n:Int))=true:=by simp;omega
   have c0:wr.cell? ⟨k,0,U⟩=AI (I t):=fi HC.out 0;have c1:wr.cell? ⟨k,1,U⟩=AI (O J ((a+j:Nat):Int)):=fi HC.out 1;have c2:wr.cell? ⟨k,2,U⟩=AI (Ic bad):=fi HC.out 2;have z1:wr.frozen? ⟨k,1,U⟩=false:=frozenAt HC.out 1;have z2:wr.frozen? ⟨k,2,U⟩=false:=frozenAt HC.out 2;by_cases mS:a+j<t.size
   .have hg:decide ((t.size:Int)<=((a+j:Nat):Int))=false:=by simp;omega
    generalize hb:a+j=b at *;have qg:(0:Int)<=(b:Int):=by omega
    have XC:(b:Int)<(t.size:Int):=by omega
    have GM:((b:Int)).toNat=b:=by omega
    have hxl:x<16777216:=by
     have h:=wu t a j;have h3:(256:Nat)^j<=256^3:=Nat.pow_le_pow_right (by omega) (by omega);rw[<- HX.out] at h;omega
    have RF:IntKind.i64.wrap (256*(x:Int))=256*(x:Int):=by rw[IW];omega
    go_wp2_with fail;go_quiet (fail)
    go_wp2_with fail;go_quiet (fail)
    go_wp2_with fail;have nE:=t[b].toNat_lt;refine⟨⟨j+1,x*256+t[b].toNat,?_,by simp,by omega,.inr (by omega),?_,?_,?_⟩,by simp[intOf];omega⟩
    .exact congrArg (Value.int J) (Vw x _ hxl nE)
    .show _=_
     have h2:t.data[b]?=AI t[b]:=by
      have h3:b<t.data.size:=mS;rw[Array.getElem?_eq_getElem h3];rfl
     simp only[mP,hb,h2,Option.getD_some,HX.out]
    .show uh _ _ _ _ _
     rw[show a+(j+1)=b+1 by omega];exact(HC.out.drewN _).at (b+1)
    .exact(HD.out.trans (vM k wr _)).here 1 _
   .have hg:decide ((t.size:Int)<=((a+j:Nat):Int))=true:=by simp;omega
    generalize hb:a+j=b at *;go_wp2_with fail;go_quiet (fail)
    go_wp2_with fail;go_ret;exact⟨(HD.out.trans (vM k wr _)).here 2 _,.inr ⟨by omega,rfl,b,by omega,by omega,(HC.out.drewN _).Cg true⟩⟩
  .have hc:decide ((j:Int)<(n:Int))=false:=by simp;omega
   have aiy:j=n:=by omega
   subst aiy;go_wp2_with fail;go_ret;exact⟨HD.out,.inl ⟨by omega,by rw[HX.out];rfl,HC.out⟩⟩
theorem WX:∀(xs:List (List UInt8)) (y:List UInt8),xs≠[]->jn (xs++[y])=jn xs++46::y
 |[],_,h=>absurd rfl h
 |[x],y,_=>by simp[jn]
 |x::z::r,y,_=>by
  have ih:=WX (z::r) y (by simp);simp only[List.cons_append,jn] at ih ⊢;rw[ih];simp
theorem aiz(ls:List ByteArray)(j:Nat)(h:j<ls.length):mk (jn ((ls.take (j+1)).map L1))=if j=0 then ls.getD j Ie else mk (jn ((ls.take j).map L1))++⟨#[46]⟩++ls.getD j Ie:=by
 have hg:ls.getD j Ie=ls[j]:=by simp[Ip,Ih h]
 rw[hg,Iz h,OI];by_cases h0:j=0
 .subst h0
  simp[jn,mk]
 .rw[if_neg h0,List.map_singleton,WX _ _ (by intro e;have h5:=congrArg List.length e;rw[List.length_map,IA,List.length_nil] at h5;omega)]
  apply pW;simp[mk]
theorem Vx(w:World):Calls AT 82 #[sh U 0 0] w λe w'=>e=Ia (I ⟨#[]⟩)/\w'=w:=by
 go_enter func82,ntmps82;go_wp2_with fail;go_loopw [3,4] (λvs vi wr=>vs=I ⟨#[]⟩/\vi=O J 0/\wr=w) (λ_ _ _=>0)
 case atStart=>exact⟨rfl,rfl,rfl⟩
 case round=>
  obtain⟨rfl,rfl,rfl⟩:=hrel;go_wp2_with fail;go_ret;exact⟨rfl,rfl⟩
theorem Ra(g c:Nat)(ls:List ByteArray)(w:World)(nG:∀j,j<ls.length->w.cell? ⟨g,j,U⟩=AI (I (ls.getD j Ie)))(hn:ls.length<=9)(hz:∀l∈ls,l.size<=30) :
 Calls AT 82 #[sh (AI ⟨g,0,U⟩) ls.length c] w λe w'=>e=Ia (I (mk (jn (ls.map L1))))/\w'=w:=by
 have HT:Hid (∀j,j<ls.length->mk (jn ((ls.take (j+1)).map L1))=if j=0 then ls.getD j Ie else mk (jn ((ls.take j).map L1))++⟨#[46]⟩++ls.getD j Ie):=λj h=>aiz ls j h;have HE:Hid (mk (jn ((ls.take ls.length).map L1))=mk (jn (ls.map L1))):=(show _=_ by rw[JU]);have HC:Hid (∀j,j<ls.length->w.cell? ⟨g,j,U⟩=AI (I (ls.getD j Ie))):=nG;clear nG;generalize mk (jn (ls.map L1))=RR at *;have HZ:Hid (mk (jn ((ls.take 0).map L1))=⟨#[]⟩):=rfl;obtain⟨P,hP⟩:∃P:Nat->ByteArray,∀j,P j=mk (jn ((ls.take j).map L1)):=⟨_,λ_=>rfl⟩;have RY:Hid (∀j,j<ls.length->P (j+1)=if j=0 then ls.getD j Ie else P j++⟨#[46]⟩++ls.getD j Ie):=λj h=>by rw[hP,hP];exact HT.out j h
 have wm:Hid (P ls.length=RR):=(hP _).trans HE.out;have o6:Hid (P 0=⟨#[]⟩):=(hP _).trans HZ.out;have HS:Hid (∀j,j<=ls.length->(P j).size<=1000):=λj hj=>by
  rw[hP,sJ];have h1:=Gu (ls.take j) (λl hl=>hz l (Jr hl));rw[IA] at h1;omega
 have HL:Hid (∀j,j<ls.length->(ls.getD j Ie).size<=30):=λj hj=>by
  rw[show ls.getD j Ie=ls[j] by simp[Ip,Ih hj]];exact hz _ (List.getElem_mem hj)
 clear hP HT HE HZ hz;go_enter func82,ntmps82;go_wp2_with fail;go_loopw [3,4] (λvs vi wr=>∃j x,vs=I x/\vi=O J (j:Nat)/\j<=ls.length/\Hid (x=P j)/\wr=w) (λ_ vi _=>ls.length-(intOf vi).toNat)
 case atStart=>exact⟨0,_,rfl,rfl,by omega,o6.out.symm,rfl⟩
 case round=>
  obtain⟨j,x,rfl,rfl,hj,HX,hwr⟩:=hrel;subst hwr;by_cases Xg:j<ls.length
  .have hd:decide ((j:Int)<(ls.length:Int))=true:=by simp;omega
   have Aq:=HC.out j Xg;have HT3:=RY.out j Xg;have HT4:Hid (P (j+1)=if j=0 then ls.getD j Ie else P j++⟨#[46]⟩++ls.getD j Ie):=HT3;clear HT3;have hls:=HL.out j Xg;have hxs:=HS.out j hj;rw[<- HX.out] at hxs;generalize ls.getD j Ie=l at *;have k1:¬ 9223372036854775807<x.size+l.size:=by omega
   have k2:¬ 9223372036854775807<x.size+1:=by omega
   have k3:¬ 9223372036854775807<x.size+1+l.size:=by omega
   have qg:(0:Int)<=(j:Int):=by omega
   have XC:(j:Int)<(ls.length:Int):=by omega
   have GM:((j:Int)).toNat=j:=by omega
   by_cases h0:j=0
   .subst h0
    have Dw:Hid (x=⟨#[]⟩):=HX.out.trans o6.out;go_wp2_with fail;refine⟨⟨1,_,rfl,rfl,by omega,?_,trivial⟩,by simp[intOf];omega⟩;show _=_;rw[Dw.out,HT4.out,if_pos rfl];apply pW;simp
   .have hp:decide ((0:Int)<(j:Int))=true:=by simp;omega
    go_wp2_with fail;refine⟨⟨j+1,_,rfl,by simp,by omega,?_,trivial⟩,by simp[intOf];omega⟩;show _=_;rw[HT4.out,if_neg h0,HX.out]
  .have hd:decide ((j:Int)<(ls.length:Int))=false:=by simp;omega
   have aiy:j=ls.length:=by omega
   have HX2:Hid (x=RR):=(show _=_ by rw[HX.out,aiy];exact wm.out);clear aiy;go_wp2_with fail;go_ret;exact⟨by rw[<- HX2.out];rfl,rfl⟩
theorem Gz(base:Nat)(ls:List ByteArray)(v:Value)(w:World)(ho:nD base w v ls)(hn:ls.length<=9)(hz:∀l∈ls,l.size<=30) :
 Calls AT 82 #[v] w λe w'=>e=Ia (I (mk (jn (ls.map L1))))/\w'=w:=by
 rcases ho.form with⟨rfl,rfl⟩|⟨g,c,rfl,_,_,_,nG⟩
 .exact Vx w
 .exact Ra g c ls w nG hn hz
theorem abz(k a:Nat)(t:ByteArray)(w:World)(h:uh k t a true w) :
 Calls AT 42 #[Ik (AI ⟨k,0,U⟩)] w λe w'=>e=Ia (I ⟨#[]⟩)/\Hid (Rd k w w')/\Hid (uh k t a true w'):=by
 have c1:w.cell? ⟨k,1,U⟩=AI (O J a):=fi h 1;have HI:Hid (uh k t a true w):=h;clear h;go_enter func42,ntmps42;go_wp2_with fail;go_loopw [3,4,5] (λ_ _ _ wr=>Hid (uh k t a true wr)/\Hid (Rd k w wr)) (λ_ _ _ _=>0)
 case atStart=>first|exact⟨HI,Rd.refl _ _⟩|exact⟨HI.out.drewN _,vM _ _ _⟩
 case round=>
  obtain⟨HC,HD⟩:=hrel;have c2:wr.cell? ⟨k,2,U⟩=AI (Ic true):=fi HC.out 2;go_wp2_with fail;go_ret;exact⟨rfl,HD,HC⟩
theorem aeQ(t:ByteArray)(w:World)(hl:¬ t.size<=512) :
 Calls AT 20 #[I t] w λe w'=>e=Ia (Ir #[Iu oG,O J 2])/\Below w.heap.size w w':=by
 have ah5:decide (512<(t.size:Int))=true:=by simp;omega
 clear hl;go_enter func20,ntmps20;go_wp2_with fail;refine IE (v:=Ir #[Iu oG,O J 2]) ?_ rfl ⟨rfl,?_⟩
 .simp[results,results20,go_sem]
 .first|exact If _ _|exact(If _ _).alloc (By _) _|exact((If _ _).alloc (By _) _).alloc (by simp) _
def Lb(k b f:Nat)(t:ByteArray)(i:Nat)(x:ByteArray)(W:World):Prop:=x.size=i/\((b+1+i<=t.size/\x=Ej (t.extract (b+1) (b+1+i))/\uh k t (b+1+i) false W)\/(¬ b+1+f<=t.size/\∃q,q<=20000/\uh k t q true W))
theorem Lb.ext{k b f i:Nat}{t x:ByteArray}{W W':World}(h:Lb k b f t i x W)(hx:W.Extends W'):Lb k b f t i x W':=by
 obtain⟨h1,⟨h2,h3,h4⟩|⟨h2,q,h3,h4⟩⟩:=h
 .exact⟨h1,.inl ⟨h2,h3,(hx.block k h4.lt).trans h4⟩⟩
 .exact⟨h1,.inr ⟨h2,q,h3,(hx.block k h4.lt).trans h4⟩⟩
theorem zT(x:ByteArray)(c:UInt8):(x++⟨#[c]⟩:ByteArray).size=x.size+1:=by rw[Om];rfl
theorem afM(t:ByteArray)(b i:Nat)(h:b+1+i+1<=t.size):Ej (t.extract (b+1) (b+1+(i+1)))=Ej (t.extract (b+1) (b+1+i))++⟨#[Mz (t.data[b+1+i]?.getD 0)]⟩:=by
 apply pW;have hl:b+1+i<t.data.toList.length:=by simp;omega
 have hd:t.data[b+1+i]?=AI (t.data.toList[b+1+i]):=by
  have:t.data[b+1+i]?=t.data.toList[b+1+i]?:=by simp
  rw[this,Ih hl]
 have e:∀m,(t.extract (b+1) (b+1+m)).data.toList=(t.data.toList.drop (b+1)).take m:=λm=>by simp
 have hlen:i<(t.data.toList.drop (b+1)).length:=by rw[List.length_drop];omega
 unfold Ej;rw[BD,e,Iz hlen,OI,List.getElem_drop,hd];simp[mk]
theorem aiA(k b f i:Nat)(t x:ByteArray)(W:World)(h:Lb k b f t i x W)(hs:t.size<=1000)(hi:i<f) :
 Calls AT 41 #[Ik (AI ⟨k,0,U⟩),O J 1] W λe w'=>Hid (Rd k W w')/\∃v:UInt8,e=Ia (O J (v.toNat:Nat))/\Hid (Lb k b f t (i+1) (x++⟨#[Mz v]⟩) w'):=by
 have hr:∀a,mP t a 1=(t.data[a]?.getD 0).toNat:=λa=>by simp[mP]
 obtain⟨h1,⟨h2,h3,h4⟩|⟨h2,q,h3,h4⟩⟩:=h
 .refine(Gy k (b+1+i) 1 t false W h4 hs (by omega) (by omega) (by omega)).mono ?_
  rintro e w' ⟨hd,⟨hle,he,hc⟩|⟨tY,he,q,_,hq,hc⟩⟩
  .refine⟨hd,t.data[b+1+i]?.getD 0,by rw[he,hr],(show Lb _ _ _ _ _ _ _ from⟨by rw[zT,h1],.inl ⟨by omega,?_,hc.out⟩⟩)⟩
   rw[afM t b i (by omega),h3]
  .exact⟨hd,0,he,(show Lb _ _ _ _ _ _ _ from⟨by rw[zT,h1],.inr ⟨by omega,q,hq,hc.out⟩⟩)⟩
 .refine(Gy k q 1 t true W h4 hs (by omega) (by omega) h3).mono ?_
  rintro e w' ⟨hd,⟨hle,he,hc⟩|⟨tY,he,q2,_,hq2,hc⟩⟩
  .exact⟨hd,t.data[q]?.getD 0,by rw[he,hr],(show Lb _ _ _ _ _ _ _ from⟨by rw[zT,h1],.inr ⟨h2,q+1,by omega,hc.out⟩⟩)⟩
  .exact⟨hd,0,he,(show Lb _ _ _ _ _ _ _ from⟨by rw[zT,h1],.inr ⟨h2,q2,hq2,hc.out⟩⟩)⟩
def aft:Option Nat->Int
 |none => -1
 |some q=>q
def Vy(W:World)(k:Nat):Nat:=match W.cell? ⟨k,2,U⟩ with
 |some (Ic false)=>1
 |_=>0
theorem xV{W:World}{k a:Nat}{t:ByteArray}{bad:Bool}(h:uh k t a bad W):Vy W k=if bad then 0 else 1:=by
 have c2:=fi h 2;unfold Vy;rw[c2];cases bad<;>rfl
structure Cn(k:Nat)(t:ByteArray)(w:World)(MA:Option (List ByteArray×Nat))(lv:Value)(bg:Nat)(p:Option Nat)(bad:Bool)(W:World):Prop where
 rd:Rd k w W
 st:∃D b,nD w.heap.size W lv D/\uh k t b bad W/\b<=20000/\(bad=true->MA=U)/\(bad=false->b<=t.size/\bg<=t.size/\D.length<=8/\(∀l∈D,l.size<=30)/\DP t b bg D p=MA/\∀q,p=AI q->q<=t.size)
theorem Vz{P:Prop}(h:P:=by
 go_wp2_with fail;exact⟨⟨i+1,_,rfl,by simp,by omega,HL4.out _,axF.out.trans (Rd.ext ((I1 _).alloc _))⟩,by simp[intOf];omega⟩):P:=h
theorem aiC(k a:Nat)(t:ByteArray)(w:World)(h:uh k t a false w)(hs:t.size<=1000)(ha:a<=t.size) :
 Calls AT 42 #[Ik (AI ⟨k,0,U⟩)] w λe w'=>Hid (Rd k w w')/\((∃ls q,DP t a a [] U=AI (ls,q)/\(ls.length<=8/\∀l∈ls,l.size<=30)/\q<=t.size/\e=Ia (I (mk (jn (ls.map L1))))/\Hid (uh k t q false w'))\/(DP t a a [] U=U/\e=Ia (I ⟨#[]⟩)/\∃b,b<=20000/\Hid (uh k t b true w'))):=by
 obtain⟨i0,qg,oS,so,sf⟩:=Jc Tryz.AU;have c1:=fi h 1;have HI:Hid (uh _ _ _ _ _):=h;have Pv:=h.lt;clear h;obtain⟨MA,Vk⟩:∃R,R=DP t a a [] U:=⟨_,rfl⟩;rw[<- Vk];have Hc:Hid _:=Vk.symm;clear Vk;go_enter func42,ntmps42;go_wp2_with fail;go_loopw [3,4,5] (λlv bv av wr=>∃bg p bad,bv=O J (bg:Nat)/\av=O J (aft p)/\Hid (Cn k t w MA lv bg p bad wr)) (λlv bv _ wr=>Vy wr k*(1+(intOf bv).toNat*9+(8-lenOf lv)))
 case atStart=>exact⟨a,U,false,rfl,rfl,(⟨Rd.refl _ _,[],a,tW _ _,HI.out,by omega,(λe=>by cases e),λ_=>⟨ha,ha,by simp,(λl hl=>by cases hl),Hc.out,λq e=>by cases e⟩⟩:Cn k t w MA _ a U false w)⟩
 case round=>
  obtain⟨bg,p,bad,rfl,rfl,HC⟩:=hrel;obtain⟨D,b,ho,hc,mZ,VU,Ai⟩:=HC.out.st;have HO:Hid (nD _ _ _ _):=ho;have HCC:Hid (uh k t b bad wr):=hc;have HD:Hid _:=HC.out.rd;clear ho hc HC;have c2:=fi HCC.out 2;cases bad with
  |true=>
   have HN:Hid _:=VU rfl;clear VU Ai;go_wp2_with fail;go_ret;exact⟨HD,.inr ⟨HN.out,rfl,b,mZ,HCC⟩⟩
  |false=>
   obtain⟨hb,qa,hD8,Ho,sg,hpq⟩:=Ai rfl;have Pf:Hid _:=Ho;have LG:Hid _:=sg;have HPQ:Hid _:=hpq;have Kz:Hid _:=xV HCC.out;clear Ho sg hpq VU Ai;go_wp2_with fail;refine(Gy k b 1 t false wr HCC.out hs (by omega) (by omega) (by omega)).mono ?_;rintro e w1 ⟨uC,⟨hle,rfl,yb⟩|⟨tY,rfl,b1,_,mO,yb⟩⟩;rotate_left
   .have HN:Hid _:=LG.out.symm.trans (Vj (by omega))
    have d2:=fi yb.out 2;have K7:Hid _:=HD.out.trans uC.out;clear LG;go_wp2_with fail;go_ret;exact⟨K7,.inr ⟨HN.out,rfl,b1,mO,yb⟩⟩
   have K7:Hid _:=HD.out.trans uC.out;have uH:Hid (nD _ _ _ _):=uC.out.own HO.out Pv;have d1:=fi yb.out 1;have d2:=fi yb.out 2;have z1:=frozenAt yb.out 1;have z2:=frozenAt yb.out 2;clear uC HD HO HCC c2;by_cases h0:mP t b 1=0
   .have sr:Hid _:=LG.out.symm.trans (Mi (by omega) h0)
    rw[h0];clear h0 LG;cases p with
    |none=>
     have ha1:aft U = -1:=rfl;go_wp2_with fail;refine(Gz w.heap.size D _ w1 uH.out (by omega) Pf.out).mono ?_;rintro e w2 ⟨rfl,xN⟩;subst xN;go_wp2_with fail;go_ret;exact⟨K7,.inl ⟨D,b+1,sr.out,⟨hD8,Pf.out⟩,hle,rfl,yb⟩⟩
    |some q=>
     have ha1:aft (AI q)=(q:Int):=rfl;have ha2:decide ((0:Int)<=(q:Int))=true:=by simp
     have hq:=HPQ.out q rfl;have sI:Hid (nD w.heap.size (w1.setCell ⟨k,1,U⟩ (O J (q:Int))) _ D):=((Rd.refl k w1).here 1 _).own uH.out Pv;go_wp2_with fail;refine(Gz w.heap.size D _ _ sI.out (by omega) Pf.out).mono ?_;rintro e w2 ⟨rfl,xN⟩;subst xN;go_wp2_with fail;go_ret;exact⟨K7.out.here 1 _,.inl ⟨D,q,sr.out,⟨hD8,Pf.out⟩,hq,rfl,yb.out.at q⟩⟩
   .by_cases h192:192<=mP t b 1
    .have sr:Hid (MA=if b+2<=t.size/\mP t b 2-49152<bg then DP t (mP t b 2-49152) (mP t b 2-49152) D (AI (p.getD (b+2))) else U):=LG.out.symm.trans (Gt (by omega) h192)
     have hf2:mP t b 2=mP t b 1*256+mP t (b+1) 1:=by
      simp only[mP,Nat.zero_mul,I6,Nat.add_zero]
     have uU:=wu t b 1;have Ak:=wu t (b+1) 1;have hm0:((mP t b 1:Int)==0)=false:=beq_eq_false_iff_ne.2 (by omega);have XG:decide ((192:Int)<=(mP t b 1:Int))=true:=by simp;omega
     generalize mP t b 1=f at *;generalize mP t b 2=f2 at *;have RF:IntKind.i64.wrap ((f:Int)-192)=(f:Int)-192:=by rw[IW];omega
     have xN:IntKind.i64.wrap (((f:Int)-192)*256)=((f:Int)-192)*256:=by rw[IW];omega
     clear LG;go_wp2_with fail;refine(Gy k (b+1) 1 t false w1 yb.out hs (by omega) (by omega) (by omega)).mono ?_;rintro e w2 ⟨xK,⟨abw,rfl,zN⟩|⟨axH,rfl,b3,_,nC,zN⟩⟩
     .generalize mP t (b+1) 1=y at *
      obtain⟨r,hr⟩:∃r,r=f2-49152:=⟨_,rfl⟩;rw[<- hr] at sr;have Bk:r<=20000:=by omega
      have Rq:IntKind.i64.wrap (((f:Int)-192)*256+(y:Int))=(r:Int):=by rw[IW];omega
      have sI:Hid (nD w.heap.size w2 _ D):=xK.out.own uH.out Pv;have HDE:Hid (Rd k w w2):=K7.out.trans xK.out;have e1:w2.cell? ⟨k,1,U⟩=AI (O J ((b+1+1:Nat):Int)):=fi zN.out 1;have e2:w2.cell? ⟨k,2,U⟩=AI (Ic false):=fi zN.out 2;have y1:w2.frozen? ⟨k,1,U⟩=false:=frozenAt zN.out 1;have y2:w2.frozen? ⟨k,2,U⟩=false:=frozenAt zN.out 2;have HIC:Hid (uh k t r (decide (bg<=r)) ((w2.setCell ⟨k,2,U⟩ (Ic (decide (bg<=r)))).setCell ⟨k,1,U⟩ (O J (r:Int)))):=(zN.out.Cg (decide (bg<=r))).at r;have hpd:p.getD (b+2)<=t.size:=by
       cases p with
       |none=>exact abw
       |some q=>exact HPQ.out q rfl
      have GN:Hid (Cn k t w MA _ r (AI (p.getD (b+2))) (decide (bg<=r)) ((w2.setCell ⟨k,2,U⟩ (Ic (decide (bg<=r)))).setCell ⟨k,1,U⟩ (O J (r:Int)))):=(⟨(HDE.out.here 2 _).here 1 _,D,r,(((Rd.refl k w2).here 2 _).here 1 _).own sI.out Pv,HIC.out,Bk,λe=>sr.out.trans (if_neg (λh=>by have:=of_decide_eq_true e;omega)),λe=>by
       have hrb:r<bg:=by have:=of_decide_eq_false e;omega
       refine⟨by omega,by omega,hD8,Pf.out,(sr.out.trans (if_pos ⟨abw,hrb⟩)).symm,λq e2=>?_⟩;rw[<- Jq e2];exact hpd⟩:Cn _ _ _ _ _ _ _ _ _)
      have Rs:Hid (Vy ((w2.setCell ⟨k,2,U⟩ (Ic (decide (bg<=r)))).setCell ⟨k,1,U⟩ (O J (r:Int))) k*(1+r*9+(8-D.length))<Vy wr k*(1+bg*9+(8-D.length))):=(show _<_ by
       rw[xV HIC.out,Kz.out];by_cases hrb:bg<=r
       .rw[decide_eq_true hrb];simp;omega
       .rw[decide_eq_false hrb];simp;omega)
      clear hr hf2 uU Ak xK yb uH K7 d1 d2 z1 z2 hpd HIC sr Kz;cases p with
      |none=>
       have ha1:aft U = -1:=rfl;go_wp2_with fail;refine⟨⟨r,_,_,rfl,?_,GN⟩,?_⟩
       .simp[aft];omega
       .rw[L3 sI.out];exact Rs.out
      |some q=>
       have ha1:aft (AI q)=(q:Int):=rfl;have ha2:decide ((q:Int)<0)=false:=by simp
       go_wp2_with fail;refine⟨⟨r,_,_,rfl,?_,GN⟩,?_⟩
       .simp[aft]
       .rw[L3 sI.out];exact Rs.out
     .have HN:Hid (MA=U):=sr.out.trans (if_neg (λh=>axH h.1))
      obtain⟨r,hr⟩:∃r,r=(f-192)*256:=⟨_,rfl⟩;have Bk:r<=20000:=by omega
      have Rq:IntKind.i64.wrap (((f:Int)-192)*256)=(r:Int):=by rw[IW];omega
      have WB:((f:Int)-192)*256=(r:Int):=by omega
      have sI:Hid (nD w.heap.size w2 _ D):=xK.out.own uH.out Pv;have HDE:Hid (Rd k w w2):=K7.out.trans xK.out;have e1:w2.cell? ⟨k,1,U⟩=AI (O J (b3:Int)):=fi zN.out 1;have e2:w2.cell? ⟨k,2,U⟩=AI (Ic true):=fi zN.out 2;have y1:w2.frozen? ⟨k,1,U⟩=false:=frozenAt zN.out 1;have y2:w2.frozen? ⟨k,2,U⟩=false:=frozenAt zN.out 2;have HIC:Hid (uh k t r true ((w2.setCell ⟨k,2,U⟩ (Ic true)).setCell ⟨k,1,U⟩ (O J (r:Int)))):=(zN.out.Cg true).at r;have GN:Hid (∀p',Cn k t w MA _ r p' true ((w2.setCell ⟨k,2,U⟩ (Ic true)).setCell ⟨k,1,U⟩ (O J (r:Int)))):=λp'=>(⟨(HDE.out.here 2 _).here 1 _,D,r,(((Rd.refl k w2).here 2 _).here 1 _).own sI.out Pv,HIC.out,Bk,λ_=>HN.out,λe=>by cases e⟩:Cn _ _ _ _ _ _ _ _ _);have Rs:Hid (∀x y z:Nat,Vy ((w2.setCell ⟨k,2,U⟩ (Ic true)).setCell ⟨k,1,U⟩ (O J (r:Int))) k*x<Vy wr k*(1+y+z)):=(show ∀_ _ _,_ from λx y z=>by
       rw[xV HIC.out,Kz.out];simp;omega)
      clear hr hf2 uU Ak xK yb uH K7 d1 d2 z1 z2 HIC sr Kz;cases p with
      |none=>
       have ha1:aft U = -1:=rfl;go_wp2_with fail;exact⟨⟨r,AI b3,true,rfl,rfl,GN.out _⟩,Rs.out _ _ _⟩
      |some q=>
       have ha1:aft (AI q)=(q:Int):=rfl;have ha2:decide ((q:Int)<0)=false:=by simp
       go_wp2_with fail;exact⟨⟨r,AI q,true,rfl,rfl,GN.out _⟩,Rs.out _ _ _⟩
    .have sr:Hid (MA=if b+1+mP t b 1<=t.size/\mT (Ej (t.extract (b+1) (b+1+mP t b 1)))=true/\D.length<8 then DP t (b+1+mP t b 1) bg (D++[Ej (t.extract (b+1) (b+1+mP t b 1))]) p else U):=LG.out.symm.trans (Db (by omega) h0 h192)
     have hm0:((mP t b 1:Int)==0)=false:=beq_eq_false_iff_ne.2 (by omega);have XG:decide ((192:Int)<=(mP t b 1:Int))=false:=by simp;omega
     generalize mP t b 1=f at *;clear LG;go_wp2_with fail;have amV:Hid (Lb k b f t 0 ⟨#[]⟩ w1):=(show Lb _ _ _ _ _ _ _ from⟨rfl,.inl ⟨hle,(by apply pW;simp[Ej,mk]),yb.out⟩⟩);have HLS:Hid (∀i x W,Lb k b f t i x W->i<f->Calls AT 41 #[Ik (AI ⟨k,0,U⟩),O J 1] W λe w'=>Hid (Rd k W w')/\∃v:UInt8,e=Ia (O J (v.toNat:Nat))/\Hid (Lb k b f t (i+1) (x++⟨#[Mz v]⟩) w')):=λi x W hx hi=>aiA k b f i t x W hx hs hi;have aBr:f<=191:=by omega
     clear d1 d2 z1 z2;go_loopw [8,9] (λvs vi wi=>∃i x,vs=I x/\vi=O J (i:Nat)/\i<=f/\Hid (Lb k b f t i x wi)/\Hid (Rd k w1 wi)) (λ_ vi _=>f-(intOf vi).toNat)
     case atStart=>exact⟨0,_,rfl,rfl,by omega,amV,Rd.refl _ _⟩
     case round=>
      obtain⟨i,x,rfl,rfl,hif,HLB,HDI⟩:=hrel;have hxs:x.size=i:=HLB.out.1;by_cases hi:i<f
      .have hd:decide ((i:Int)<(f:Int))=true:=by simp;omega
       have hss:¬ 9223372036854775807<x.size+1:=by omega
       go_wp2_with fail;refine(HLS.out i x _ HLB.out hi).mono ?_;rintro e w3 ⟨Wn,v,rfl,HL3⟩;have hv:=v.toNat_lt;have axF:Hid (Rd k w1 w3):=HDI.out.trans Wn.out;have HL4:Hid (∀o,Hid (Lb k b f t (i+1) (x++⟨#[Mz v]⟩) (w3.alloc o))):=λo=>HL3.out.ext ((I1 _).alloc o);by_cases hc:65<=v.toNat/\v.toNat<=90
       .have hl:(Mz v).toNat=v.toNat+32:=by
         unfold Mz;rw[if_pos hc];show(v.toNat+32)%256=_;omega
        have h1:decide ((65:Int)<=(v.toNat:Int))=true:=by simp;omega
        have h2:decide ((v.toNat:Int)<=90)=true:=by simp;omega
        have hw:Sem.run AT (convert 139 9 (sh (AI ⟨w3.heap.size,0,U⟩) 1 1)) (w3.alloc (Ib #[O .u8 ((v.toNat:Int)+32)] 5))=.ok (I ⟨#[Mz v]⟩) (w3.alloc (Ib #[O .u8 ((v.toNat:Int)+32)] 5)):=by
         have e:((v.toNat:Int)+32)=((Mz v).toNat:Int):=by rw[hl];simp
         rw[e];exact F9 w3 _
        generalize Mz v=lc at *;generalize v.toNat=vn at *;exact Vz
       .have hl:(Mz v).toNat=v.toNat:=by unfold Mz;rw[if_neg hc]
        have hw:Sem.run AT (convert 139 9 (sh (AI ⟨w3.heap.size,0,U⟩) 1 1)) (w3.alloc (Ib #[O .u8 (v.toNat:Int)] 5))=.ok (I ⟨#[Mz v]⟩) (w3.alloc (Ib #[O .u8 (v.toNat:Int)] 5)):=by
         have e:(v.toNat:Int)=((Mz v).toNat:Int):=by rw[hl]
         rw[e];exact F9 w3 _
        generalize Mz v=lc at *;generalize v.toNat=vn at *;by_cases h65:65<=vn
        .have h1:decide ((65:Int)<=(vn:Int))=true:=by simp;omega
         have h2:decide ((vn:Int)<=90)=false:=by simp;omega
         exact Vz
        .have h1:decide ((65:Int)<=(vn:Int))=false:=by simp;omega
         exact Vz
      .have hd:decide ((i:Int)<(f:Int))=false:=by simp;omega
       have GM:i=f:=by omega
       subst GM;have HOI:Hid (nD _ _ _ _):=HDI.out.own uH.out Pv;have HDX:Hid _:=K7.out.trans HDI.out;obtain⟨pp,c,hv⟩:=zO HOI.out;subst hv;have hls:x.size<=Il:=by unfold Il;omega
       obtain⟨_,⟨g2,g3,g4⟩|⟨g2,q,g3,g4⟩⟩:=HLB.out
       .have HIX:Hid (uh _ _ _ _ _):=g4
        have e2:=fi g4 2;have y2:=frozenAt g4 2;have HXE:Hid _:=g3;have HRX:Hid (MA=if b+1+i<=t.size/\mT x=true/\D.length<8 then DP t (b+1+i) bg (D++[x]) p else U):=(show _=_ by rw[HXE.out];exact sr.out);have amM:mT x=true->x.size<=30:=λh=>(Ps h).2;have od:=HDX.out.size;clear g3 g4 HLB amV HLS sr;go_wp2_with fail;refine(mV x wr hls).mono ?_;rintro e w5 ⟨rfl,DV⟩;subst DV;have HOJ:Hid (nD w.heap.size (w5.setCell ⟨k,2,U⟩ (Ic (!mT x))) (sh pp D.length c) D):=((Rd.refl k w5).here 2 _).own HOI.out Pv;generalize mT x=lb at *;go_wp2_with (at_builtin;refine O7 _ rfl _ _ 107 rfl w.heap.size 9 i0 _ 1 16 IS qg oS so sf rfl (by omega) _ D.length (D.map I) rfl ?hown ⟨w5.heap.size,0,U⟩ 1 1 [I x] rfl rfl ?hnews (qj [_]) ?h63 ?hbytes ?hbase ?_)
        case hown=>exact HOJ.out.below ((If _ _).alloc (By _) _)
        case hnews=>(intro j u hj;have h:=cell_one_new (w5.setCell ⟨k,2,U⟩ (Ic (!lb))) (I x) 9 j u hj;simpa using h)
        case h63=>(unfold Il;omega)
        case hbytes=>omega
        case hbase=>(simp;omega)
        intro v' w6 r1 r2 r3 r4;have Bl:Hid (nD _ _ _ _):=rO (l:=D) r1;have hk5:=HIX.out.lt;have nK:∀j,j<w.heap.size->AI j≠(sh pp D.length c).ownBlock:=λj hj e=>by have:=(HOI.out.lt _ e.symm).1;omega
        have tq:Hid (∀j,j<w.heap.size->w6.heap[j]?=(w5.setCell ⟨k,2,U⟩ (Ic (!lb))).heap[j]?):=λj hj=>(r2.block j (by simp;omega) (nK j hj)).trans (Jj _ _ _ (by simp;omega));have Px:Hid (uh _ _ _ _ _):=(tq.out k Pv).trans (HIX.out.Cg (!lb));have HD6:Hid (Rd k w w6):=(⟨r2.os.trans HDX.out.os,r2.tape.trans HDX.out.tape,r2.output.trans HDX.out.output,by have:=r2.size;simp at this;omega,λj hj K4=>(tq.out j hj).trans ((IC w5 _ _ j (by simpa using K4)).trans (HDX.out.block j hj K4))⟩:Rd k w w6);obtain⟨p6,c6,hv6⟩:=zO Bl.out;subst hv6;rw[Iq,Jk] at *;have f2:=fi Px.out 2;have z6:=frozenAt Px.out 2;clear r1 r2 r3 r4 tq nK HOJ e2 y2;by_cases hD:D.length<8
        .have hd9:decide ((8:Int)<((D.length+1:Nat):Int))=false:=by simp;omega
         have GN:Hid (Cn k t w MA (sh p6 (D.length+1) c6) bg p (!lb) w6):=(⟨HD6.out,D++[x],b+1+i,Bl.out,Px.out,by omega,λe=>HRX.out.trans (if_neg (λh=>by rw[h.2.1] at e;cases e)),λe=>by
          have MR:lb=true:=by cases lb<;>simp_all
          refine⟨g2,qa,by rw[Iq,Jk];omega,λl hl=>?_,(HRX.out.trans (if_pos ⟨g2,MR,hD⟩)).symm,HPQ.out⟩;rcases JI.1 hl with h|h
          .exact Pf.out l h
          .rw[JR.1 h];exact amM MR⟩:Cn _ _ _ _ _ _ _ _ _)
         go_wp2_with fail;refine⟨⟨bg,p,!lb,rfl,rfl,GN⟩,?_⟩;rw[xV Px.out,Kz.out];cases lb<;>simp[intOf,lenOf]<;>omega
        .have hd9:decide ((8:Int)<((D.length+1:Nat):Int))=true:=by simp;omega
         have HI7:Hid (uh _ _ _ _ _):=Px.out.Cg true;have HO7:Hid (nD w.heap.size (w6.setCell ⟨k,2,U⟩ (Ic true)) (sh p6 (D.length+1) c6) (D++[x])):=((Rd.refl k w6).here 2 _).own Bl.out Pv;have GN:Hid (Cn k t w MA (sh p6 (D.length+1) c6) bg p true (w6.setCell ⟨k,2,U⟩ (Ic true))):=(⟨HD6.out.here 2 _,D++[x],b+1+i,HO7.out,HI7.out,by omega,λ_=>HRX.out.trans (if_neg (λh=>hD h.2.2)),λe=>by cases e⟩:Cn _ _ _ _ _ _ _ _ _);go_wp2_with fail;refine⟨⟨bg,p,true,rfl,rfl,GN⟩,?_⟩;rw[xV HI7.out,Kz.out];simp;omega
       .have HIX:Hid (uh _ _ _ _ _):=g4
        have e2:=fi g4 2;have y2:=frozenAt g4 2;have HRX:Hid (MA=U):=(show _=_ from sr.out.trans (if_neg (λh=>g2 h.1)));have od:=HDX.out.size;have HOJ:Hid (nD w.heap.size (wr.setCell ⟨k,2,U⟩ (Ic true)) (sh pp D.length c) D):=((Rd.refl k wr).here 2 _).own HOI.out Pv;clear g4 HLB amV HLS sr;go_wp2_with (at_builtin;refine O7 _ rfl _ _ 107 rfl w.heap.size 9 i0 _ 1 16 IS qg oS so sf rfl (by omega) _ D.length (D.map I) rfl ?hown ⟨wr.heap.size,0,U⟩ 1 1 [I x] rfl rfl ?hnews (qj [_]) ?h63 ?hbytes ?hbase ?_)
        case hown=>exact HOJ.out.below ((If _ _).alloc (By _) _)
        case hnews=>(intro j u hj;have h:=cell_one_new (wr.setCell ⟨k,2,U⟩ (Ic true)) (I x) 9 j u hj;simpa using h)
        case h63=>(unfold Il;omega)
        case hbytes=>omega
        case hbase=>(simp;omega)
        intro v' w6 r1 r2 r3 r4;have Bl:Hid (nD _ _ _ _):=rO (l:=D) r1;have hk5:=HIX.out.lt;have nK:∀j,j<w.heap.size->AI j≠(sh pp D.length c).ownBlock:=λj hj e=>by have:=(HOI.out.lt _ e.symm).1;omega
        have tq:Hid (∀j,j<w.heap.size->w6.heap[j]?=(wr.setCell ⟨k,2,U⟩ (Ic true)).heap[j]?):=λj hj=>(r2.block j (by simp;omega) (nK j hj)).trans (Jj _ _ _ (by simp;omega));have Px:Hid (uh _ _ _ _ _):=(tq.out k Pv).trans (HIX.out.Cg true);have HD6:Hid (Rd k w w6):=(⟨r2.os.trans HDX.out.os,r2.tape.trans HDX.out.tape,r2.output.trans HDX.out.output,by have:=r2.size;simp at this;omega,λj hj K4=>(tq.out j hj).trans ((IC wr _ _ j (by simpa using K4)).trans (HDX.out.block j hj K4))⟩:Rd k w w6);obtain⟨p6,c6,hv6⟩:=zO Bl.out;subst hv6;rw[Iq,Jk] at *;have f2:=fi Px.out 2;have z6:=frozenAt Px.out 2;clear r1 r2 r3 r4 tq nK HOJ e2 y2;by_cases hD:D.length<8
        .have hd9:decide ((8:Int)<((D.length+1:Nat):Int))=false:=by simp;omega
         have GN:Hid (Cn k t w MA (sh p6 (D.length+1) c6) bg p true w6):=(⟨HD6.out,D++[x],q,Bl.out,Px.out,g3,λ_=>HRX.out,λe=>by cases e⟩:Cn _ _ _ _ _ _ _ _ _);go_wp2_with fail;refine⟨⟨bg,p,true,rfl,rfl,GN⟩,?_⟩;rw[xV Px.out,Kz.out];simp;omega
        .have hd9:decide ((8:Int)<((D.length+1:Nat):Int))=true:=by simp;omega
         have HI7:Hid (uh _ _ _ _ _):=Px.out.Cg true;have HO7:Hid (nD w.heap.size (w6.setCell ⟨k,2,U⟩ (Ic true)) (sh p6 (D.length+1) c6) (D++[x])):=((Rd.refl k w6).here 2 _).own Bl.out Pv;have GN:Hid (Cn k t w MA (sh p6 (D.length+1) c6) bg p true (w6.setCell ⟨k,2,U⟩ (Ic true))):=(⟨HD6.out.here 2 _,D++[x],q,HO7.out,HI7.out,g3,λ_=>HRX.out,λe=>by cases e⟩:Cn _ _ _ _ _ _ _ _ _);go_wp2_with fail;refine⟨⟨bg,p,true,rfl,rfl,GN⟩,?_⟩;rw[xV HI7.out,Kz.out];simp;omega
def wP(t:ByteArray)(a n:Nat)(bad:Bool)(v b:Nat)(Af:Bool):Prop:=
 (Af=false->bad=false/\a+n<=t.size/\v=mP t a n/\b=a+n)/\(Af=true->bad=true\/(¬ a+n<=t.size/\v=0/\t.size<=b))
def Mm(t:ByteArray)(a:Nat)(bad:Bool)(s:ByteArray)(b:Nat)(Af:Bool):Prop:=
 (Af=false->bad=false/\Gc t a=AI (s,b)/\b<=t.size)/\(Af=true->bad=true\/Gc t a=U)
theorem rC(k a n:Nat)(t:ByteArray)(bad:Bool)(w:World)(h:uh k t a bad w)(hs:t.size<=1000)(hn:n<=4)(hn0:0<n)(ha:a<=20000) :
 Calls AT 41 #[Ik (AI ⟨k,0,U⟩),O J n] w λe w'=>∃(v b:Nat) (Af:Bool),e=Ia (O J v)/\b<=20000/\v<256^n/\Hid (Rd k w w')/\Hid (uh k t b Af w')/\Hid (wP t a n bad v b Af):=by
 refine(Gy k a n t bad w h hs hn hn0 ha).mono ?_;rintro e w' ⟨h1,⟨h2,h3,h4⟩|⟨h2,h3,b,h6,h4,h5⟩⟩
 .refine⟨mP t a n,a+n,bad,h3,by omega,wu t a n,h1,h4,(show wP _ _ _ _ _ _ _ from⟨λe=>⟨e,h2,rfl,rfl⟩,λe=>.inl e⟩)⟩
 .exact⟨0,b,true,h3,h4,Nat.pow_pos (by omega),h1,h5,(show wP _ _ _ _ _ _ _ from⟨(λe=>by cases e),λ_=>.inr ⟨h2,rfl,h6⟩⟩)⟩
theorem LR(k a:Nat)(t:ByteArray)(bad:Bool)(w:World)(h:uh k t a bad w)(hs:t.size<=1000)(ha:a<=20000)(hb:bad=false->a<=t.size) :
 Calls AT 42 #[Ik (AI ⟨k,0,U⟩)] w λe w'=>∃(s:ByteArray) (b:Nat) (Af:Bool),e=Ia (I s)/\b<=20000/\s.size<=1000/\Hid (Rd k w w')/\Hid (uh k t b Af w')/\Hid (Mm t a bad s b Af):=by
 cases bad with
 |true=>
  refine(abz k a t w h).mono ?_;rintro e w' ⟨h1,h2,h3⟩;exact⟨⟨#[]⟩,a,true,h1,ha,by exact Iw _,h2,h3,(show Mm _ _ _ _ _ _ from⟨(λe=>by cases e),λ_=>.inl rfl⟩)⟩
 |false=>
  refine(aiC k a t w h hs (hb rfl)).mono ?_;rintro e w' ⟨h1,⟨ls,q,h2,⟨g1,g2⟩,h3,h4,h5⟩|⟨h2,h3,b,h4,h5⟩⟩
  .refine⟨_,q,false,h4,by omega,?_,h1,h5,(show Mm _ _ _ _ _ _ from⟨λ_=>⟨rfl,by unfold Gc;rw[h2];rfl,h3⟩,λe=>by cases e⟩)⟩
   rw[sJ];have:=Gu ls g2;omega
  .exact⟨_,b,true,h3,h4,by exact Iw _,h1,h5,(show Mm _ _ _ _ _ _ from⟨(λe=>by cases e),λ_=>.inr (by unfold Gc;rw[h2];rfl)⟩)⟩
structure Sc(w:World)(t:ByteArray)(mb a:Nat)(bad:Bool)(mc:Array Value)(W:World):Prop where
 sc:uh (w.heap.size+1) t a bad W
 bl:Below w.heap.size w W
 qx:W.heap[w.heap.size]?=AI (Ib oG 63 (0,0))
 bx:W.heap[mb]?=AI (Ib mc 63 (0,0))
 lt:w.heap.size+1<mb
variable {w W W':World} {t:ByteArray} {mb a b:Nat} {bad Af:Bool} {mc:Array Value}
theorem Sc.lm(h:Sc w t mb a bad mc W):mb<W.heap.size:=(Ig.1 h.bx).1
theorem Sc.call(h:Sc w t mb a bad mc W)(h1:Hid (uh (w.heap.size+1) t b Af W'))(h2:Hid (Rd (w.heap.size+1) W W')):Sc w t mb b Af mc W':=by
 have hl:=h.lt;have hm:=h.lm;exact⟨h1.out,⟨h2.out.os.trans h.bl.os,h2.out.tape.trans h.bl.tape,h2.out.output.trans h.bl.output,IB h.bl.size h2.out.size,λj hj=>(h2.out.block j (by omega) (by omega)).trans (h.bl.block j hj)⟩,(h2.out.block _ (by omega) (by omega)).trans h.qx,(h2.out.block _ hm (by omega)).trans h.bx,hl⟩
theorem Sc.keep(h:Sc w t mb a bad mc W)(hx:W.Extends W'):Sc w t mb a bad mc W':=
 h.call ((hx.block _ h.sc.lt).trans h.sc:uh _ _ _ _ _) (Rd.ext hx:Rd _ W W')
theorem Sc.below(h:Sc w t mb a bad mc W)(hb:Below W.heap.size W W'):Sc w t mb a bad mc W':=
 h.call ((hb.block _ h.sc.lt).trans h.sc:uh _ _ _ _ _) (Rd.uD hb (By _):Rd _ W W')
theorem Sc.grown{row:Option Nat}(h:Sc w t mb a bad mc W)(hg:W.grownBy W' row)(nK:∀q,q<mb+1->AI q≠row):Sc w t mb a bad mc W':=by
 have hl:=h.lt;have hm:=h.lm;have hblk:∀q,q<mb+1->W'.heap[q]?=W.heap[q]?:=λq hq=>hg.block q (by omega) (nK q hq);exact⟨(hblk _ (by omega)).trans h.sc,⟨hg.os.trans h.bl.os,hg.tape.trans h.bl.tape,hg.output.trans h.bl.output,IB h.bl.size hg.size,λj hj=>(hblk j (by omega)).trans (h.bl.block j hj)⟩,(hblk _ (by omega)).trans h.qx,(hblk _ (by omega)).trans h.bx,hl⟩
theorem Sc.store(h:Sc w t mb a bad mc W)(i:Nat)(v:Value):Sc w t mb a bad (mc.setIfInBounds i v) (W.setCell ⟨mb,i,U⟩ v):=by
 have hl:=h.lt;have e:∀j,j≠mb->(W.setCell ⟨mb,i,U⟩ v).heap[j]?=W.heap[j]?:=λj hj=>IC W _ _ j (by simpa using hj);exact⟨(e _ (by omega)).trans h.sc,⟨h.bl.os,h.bl.tape,h.bl.output,by simpa using h.bl.size,λj hj=>(e j (by omega)).trans (h.bl.block j hj)⟩,(e _ (by omega)).trans h.qx,It (i:=i) h.bx v,hl⟩
theorem Sc.mark(h:Sc w t mb a bad mc W)(b:Bool):Sc w t mb a b mc (W.setCell ⟨w.heap.size+1,2,U⟩ (Ic b)):=
 h.call (h.sc.Cg b:uh _ _ _ _ _) ((Rd.refl _ W).here 2 _:Rd _ _ _)
theorem Sc.cell(h:Sc w t mb a bad mc W)(i:Nat):W.cell? ⟨mb,i,U⟩=mc[i]?:=fi h.bx i
theorem Sc.free(h:Sc w t mb a bad mc W)(i:Nat):W.frozen? ⟨mb,i,U⟩=false:=frozenAt h.bx i
theorem Sc.ox(h:Sc w t mb a bad mc W)(i:Nat):W.cell? ⟨w.heap.size,i,U⟩=oG[i]?:=fi h.qx i
theorem Sc.oy(h:Sc w t mb a bad mc W)(i:Nat):W.frozen? ⟨w.heap.size,i,U⟩=false:=frozenAt h.qx i
theorem Sc.sat(h:Sc w t mb a bad mc W):W.cell? ⟨w.heap.size+1,1,U⟩=AI (O J a):=fi h.sc 1
theorem Sc.B1(h:Sc w t mb a bad mc W):W.cell? ⟨w.heap.size+1,2,U⟩=AI (Ic bad):=fi h.sc 2
theorem Sc.DF(h:Sc w t mb a bad mc W)(i:Nat):W.frozen? ⟨w.heap.size+1,i,U⟩=false:=frozenAt h.sc i
theorem qv{v:Value}{B k:Nat}(i:Nat)(h:Below B w W)(hk:B<=k):Below B w (W.setCell ⟨k,i,U⟩ v):=
 ⟨h.os,h.tape,h.output,by simpa using h.size,λj hj=>(IC W _ _ j (by simp;omega)).trans (h.block j hj)⟩
structure Sr(k rb:Nat)(t:ByteArray)(wr:World)(a:Nat)(bad:Bool)(rc:Array Value)(W:World):Prop where
 rd:Rd k wr W
 sc:uh k t a bad W
 rx:W.heap[rb]?=AI (Ib rc 104 (0,0))
 lr:wr.heap.size<=rb
 lk:k<wr.heap.size
variable {k rb:Nat} {wr:World} {rc:Array Value}
theorem Sr.call(h:Sr k rb t wr a bad rc W)(h1:Hid (uh k t b Af W'))(h2:Hid (Rd k W W')):Sr k rb t wr b Af rc W':=
 ⟨h.rd.trans h2.out,h1.out,(h2.out.block rb (Ig.1 h.rx).1 (by have:=h.lr;have:=h.lk;omega)).trans h.rx,h.lr,h.lk⟩
theorem Sr.store(h:Sr k rb t wr a bad rc W)(i:Nat)(v:Value):Sr k rb t wr a bad (rc.setIfInBounds i v) (W.setCell ⟨rb,i,U⟩ v):=
 ⟨h.rd.put i v h.lr,(IC W _ _ k (by have:=h.lr;have:=h.lk;simp;omega)).trans h.sc,It (i:=i) h.rx v,h.lr,h.lk⟩
theorem Sr.mark(h:Sr k rb t wr a bad rc W)(b:Bool):Sr k rb t wr a b rc (W.setCell ⟨k,2,U⟩ (Ic b)):=
 h.call (h.sc.Cg b:uh _ _ _ _ _) ((Rd.refl _ W).here 2 _:Rd _ _ _)
theorem Sr.at(h:Sr k rb t wr a bad rc W)(b:Nat):Sr k rb t wr b bad rc (W.setCell ⟨k,1,U⟩ (O J b)):=
 h.call (h.sc.at b:uh _ _ _ _ _) ((Rd.refl _ W).here 1 _:Rd _ _ _)
theorem Sr.ext(h:Sr k rb t wr a bad rc W)(hx:W.Extends W'):Sr k rb t wr a bad rc W':=
 h.call ((hx.block _ h.sc.lt).trans h.sc:uh _ _ _ _ _) (Rd.ext hx:Rd _ W W')
theorem Sr.cell(h:Sr k rb t wr a bad rc W)(i:Nat):W.cell? ⟨rb,i,U⟩=rc[i]?:=fi h.rx i
theorem Sr.free(h:Sr k rb t wr a bad rc W)(i:Nat):W.frozen? ⟨rb,i,U⟩=false:=frozenAt h.rx i
theorem Sr.sat(h:Sr k rb t wr a bad rc W):W.cell? ⟨k,1,U⟩=AI (O J a):=fi h.sc 1
theorem Sr.B1(h:Sr k rb t wr a bad rc W):W.cell? ⟨k,2,U⟩=AI (Ic bad):=fi h.sc 2
theorem Sr.DF(h:Sr k rb t wr a bad rc W)(i:Nat):W.frozen? ⟨k,i,U⟩=false:=frozenAt h.sc i
theorem De(t:ByteArray)(a:Nat):mP t a 4=mP t a 2*65536+mP t (a+2) 2:=by
 have e:a+2+1=a+3:=rfl;simp only[mP,Nat.zero_mul,I6,Nat.add_zero,e];omega
theorem VA{t:ByteArray}(h:¬ 12<=t.size):pI t=U:=by
 unfold pI Vr;by_cases h1:0+2<=t.size
 .rw[if_pos h1]
  by_cases h2:2+1<=t.size
  .rw[if_pos h2]
   repeat' split
   all_goals first|rfl|(exfalso;omega)
  .rw[if_neg h2]
 .rw[if_neg h1]
theorem amW(a b:Bool):CF a b=0\/CF a b=2\/CF a b=128\/CF a b=130:=by
 cases a<;>cases b<;>simp[CF]
def TO(f:Nat):Prop:=f=0\/f=2\/f=128\/f=130
theorem KK{t:ByteArray}(h:12<=t.size)(hf:TO (mP t 2 1))(h4:mP t 4 2=1)(h8:mP t 8 4=0) :
 pI t=Hd t (mP t 0 2) (decide (128<=mP t 2 1)) (decide (2<=mP t 2 1%4)) (mP t 3 1) (mP t 6 2) (Gc t 12):=by
 have h82:mP t 8 4=mP t 8 2*65536+mP t 10 2:=De t 8;unfold pI;rw[if_pos (by omega),if_pos (by omega)];have h1:(bits .and J (mP t 2 1:Int) 128 !=0)=decide (128<=mP t 2 1):=by
  rcases hf with e|e|e|e<;>rw[e]<;>decide
 have h2:(bits .and J (mP t 2 1:Int) 2 !=0)=decide (2<=mP t 2 1%4):=by
  rcases hf with e|e|e|e<;>rw[e]<;>decide
 have h3:(mP t 2 1:Int)=CF (decide (128<=mP t 2 1)) (decide (2<=mP t 2 1%4)):=by
  rcases hf with e|e|e|e<;>rw[e]<;>decide
 rw[h1,h2];unfold Vr;rw[if_pos h3,if_pos (by omega),if_pos ⟨by omega,by omega⟩,if_pos (by omega),if_pos ⟨by omega,by omega⟩,if_pos ⟨by omega,by omega⟩]
theorem Pz{t:ByteArray}(h:¬ TO (mP t 2 1)\/mP t 4 2≠1\/mP t 8 4≠0):pI t=U:=by
 have h82:mP t 8 4=mP t 8 2*65536+mP t 10 2:=De t 8;unfold pI;by_cases h1:0+2<=t.size
 .rw[if_pos h1]
  by_cases h2:2+1<=t.size
  .rw[if_pos h2]
   unfold Vr;generalize(bits .and J (mP t 2 1:Int) 128 !=0)=x;generalize(bits .and J (mP t 2 1:Int) 2 !=0)=y;by_cases h3:(mP t 2 1:Int)=CF x y
   .rw[if_pos h3]
    have h4:TO (mP t 2 1):=by
     have:=amW x y;unfold TO;omega
    repeat' split
    all_goals first|rfl|(exfalso;rcases h with h|h|h;exact h h4;omega;omega)
   .rw[if_neg h3]
  .rw[if_neg h2]
 .rw[if_neg h1]
theorem KV{t:ByteArray}:∀(n a:Nat) (D:List Rc.Rec) (rs:List Rc.Rec) (q:Nat),qX t n a D=AI (rs,q)->rs.length=D.length+n
 |0,a,D,rs,q,h=>by
  simp only[qX,Jd,Prod.mk.injEq] at h;rw[<- h.1];rfl
 |n+1,a,D,rs,q,h=>by
  simp only[qX] at h;cases hr:rT t a with
  |none=>rw[hr] at h;cases h
  |some x=>
   rw[hr] at h;have:=KV n _ _ rs q h;rw[Iq,Jk] at this;omega
theorem aiD{t:ByteArray}{id:Int}{mX cut:Bool}{code:Int}{n:Nat}{o:Option (ByteArray×Nat)}{M:Ms}(h:Hd t id mX cut code n o=AI M):M.code=code/\M.rs.length=n:=by
 unfold Hd at h;cases o with
 |none=>cases h
 |some x=>
  obtain⟨R,p⟩:=x;simp only at h;split at h
  .split at h
   .unfold Ef at h
    generalize hr:qX t n (p+2+2) []=rr at h;cases rr with
    |none=>cases h
    |some y=>
     obtain⟨rs,q⟩:=y;simp only at h;split at h
     .have hl:=KV _ _ _ _ _ hr
      rw[<- Jq h];exact⟨rfl,by simpa using hl⟩
     .cases h
   .cases h
  .cases h
theorem sE{t:ByteArray}(h:pI t=U):vQ t≠0:=by unfold vQ;rw[h];decide
theorem Py{t:ByteArray}{M:Ms}(h:pI t=AI M)(h2:nx M.id M.code M.mQ M.R M.rs≠0):vQ t≠0:=by unfold vQ;rw[h];exact h2
theorem aaL{t:ByteArray}{id:Int}{mX cut:Bool}{code:Int}{n:Nat}{o:Option (ByteArray×Nat)}(h:pI t=Hd t id mX cut code n o)(h2:15<code\/20<n):vQ t≠0:=by
 cases hM:pI t with
 |none=>exact sE hM
 |some M=>
  have h3:=aiD (h.symm.trans hM);refine Py hM ?_;unfold nx;split
  .decide
  .next hw=>
   rcases h2 with h2|h2
   .exfalso
    apply hw;rw[h3.1]
    have:within code 0 15=false:=by simp[within];omega
    rw[this,Bool.and_false]
   .rw[if_pos (by omega)];decide
structure arW(t:ByteArray)(v1 v2 v3 v4 v5 v6 b6:Nat)(arX:Bool):Prop where
 ah6:arX=false->12<=t.size/\v1=mP t 0 2/\v2=mP t 2 1/\v3=mP t 3 1/\v4=mP t 4 2/\v5=mP t 6 2/\v6=mP t 8 4/\b6=12
 bad:arX=true->pI t=U
theorem aqn{t:ByteArray}{v1 v2 v3 v4 v5 v6 b1 b2 b3 b4 b5 b6:Nat}{d1 d2 d3 d4 d5 d6:Bool}(n1:wP t 0 2 false v1 b1 d1)(n2:wP t b1 1 d1 v2 b2 d2)(n3:wP t b2 1 d2 v3 b3 d3)(n4:wP t b3 2 d3 v4 b4 d4)(n5:wP t b4 2 d4 v5 b5 d5)(n6:wP t b5 4 d5 v6 b6 d6):arW t v1 v2 v3 v4 v5 v6 b6 d6 where
 ah6:=λh=>by
  obtain⟨h5,k6,e6,r6⟩:=n6.1 h;obtain⟨h4,k5,e5,r5⟩:=n5.1 h5;obtain⟨h3,k4,e4,r4⟩:=n4.1 h4;obtain⟨h2,k3,e3,r3⟩:=n3.1 h3;obtain⟨h1,k2,e2,r2⟩:=n2.1 h2;obtain⟨_,k1,e1,r1⟩:=n1.1 h1;simp only[r1,r2,r3,r4,r5,I6,Nat.reduceAdd] at *;exact⟨by omega,e1,e2,e3,e4,e5,e6,by omega⟩
 bad:=λh=>by
  apply VA;intro h12;cases d1 with
  |true=>rcases n1.2 rfl with e|e;cases e;omega
  |false=>
  have r1:=(n1.1 rfl).2.2.2;cases d2 with
  |true=>rcases n2.2 rfl with e|e;cases e;omega
  |false=>
  have r2:=(n2.1 rfl).2.2.2;cases d3 with
  |true=>rcases n3.2 rfl with e|e;cases e;omega
  |false=>
  have r3:=(n3.1 rfl).2.2.2;cases d4 with
  |true=>rcases n4.2 rfl with e|e;cases e;omega
  |false=>
  have r4:=(n4.1 rfl).2.2.2;cases d5 with
  |true=>rcases n5.2 rfl with e|e;cases e;omega
  |false=>
  have r5:=(n5.1 rfl).2.2.2;cases d6 with
  |true=>rcases n6.2 rfl with e|e;cases e;omega
  |false=>cases h
theorem VB(t:ByteArray):∀(m b bg:Nat) (D:List ByteArray) (p:Option Nat),bg*9+(8-D.length)<m->(∀x,p=AI x->x<=t.size)->∀ls q,DP t b bg D p=AI (ls,q)->q<=t.size
 |0,_,_,_,_,hm,_,_,_,_=>by omega
 |m+1,b,bg,D,p,hm,hp,ls,q,h=>by
  by_cases h1:b<t.size
  .by_cases h0:mP t b 1=0
   .rw[Mi h1 h0] at h
    have e:p.getD (b+1)=q:=(Prod.mk.inj (Jq h)).2;cases p with
    |none=>simp at e;omega
    |some x=>simp at e;have:=hp x rfl;omega
   .by_cases h2:192<=mP t b 1
    .rw[Gt h1 h2] at h
     by_cases hc:b+2<=t.size/\mP t b 2-49152<bg
     .rw[if_pos hc] at h
      refine VB t m _ _ _ _ (by omega) (λx e=>?_) ls q h;cases p with
      |none=>simp at e;omega
      |some y=>simp at e;have:=hp y rfl;omega
     .rw[if_neg hc] at h;cases h
    .rw[Db h1 h0 h2] at h
     by_cases hc:b+1+mP t b 1<=t.size/\mT (Ej (t.extract (b+1) (b+1+mP t b 1)))=true/\D.length<8
     .rw[if_pos hc] at h
      exact VB t m _ _ _ _ (by rw[Iq,Jk];omega) hp ls q h
     .rw[if_neg hc] at h;cases h
  .rw[Vj h1] at h;cases h
theorem amX{t s:ByteArray}{a q:Nat}(h:Gc t a=AI (s,q)):q<=t.size:=by
 unfold Gc at h;generalize hn:DP t a a [] U=x at h;cases x with
 |none=>cases h
 |some y=>
  have e:y.2=q:=(Prod.mk.inj (Jq h)).2;rw[<- e];exact VB t _ a a [] U (Nat.lt_succ_self _) (λx e=>by cases e) y.1 y.2 hn
variable {t s s1 s8:ByteArray} {a b b1 b2 b3 b4 b5 b6 b7 b8 v2 v3 v4 v5 v6 v7:Nat} {d1 d2 d3 d4 d5 d6 d7 d8:Bool} {la:Int}
theorem ahJ(n1:Mm t b false s1 b1 d1)(n2:wP t b1 2 d1 v2 b2 true):rT t b=U:=by
 unfold rT;cases d1 with
 |true=>
  rcases n1.2 rfl with e|e
  .cases e
  .rw[e]
 |false=>
  rw[(n1.1 rfl).2.1];show P8 t s1 b1=U;rcases n2.2 rfl with e|e
  .cases e
  .unfold P8;rw[if_neg e.1]
theorem aed(n1:Mm t b false s1 b1 d1)(n2:wP t b1 2 d1 v2 b2 false)(n3:wP t b2 2 false v3 b3 d3)(n4:wP t b3 4 ((v3:Int)!=1) v4 b4 d4)(n5:wP t b4 2 d4 v5 b5 d5) : (d5=true->rT t b=U)/\(d5=false->b5<=t.size/\b5=b1+2+2+4+2/\v5=mP t (b1+2+2+4) 2/\rT t b=Ee t b1 (pA t b5 s1 v2 v4)):=by
 obtain⟨e1,k2,e2,r2⟩:=n2.1 rfl;subst e1;obtain⟨_,g1,g2⟩:=n1.1 rfl;have hr:rT t b=P8 t s1 b1:=by unfold rT;rw[g1]
 subst r2;refine⟨λh=>?_,λh=>?_⟩
 .rw[hr]
  unfold P8;rw[if_pos k2];by_cases c2:b1+2+2<=t.size/\(mP t (b1+2) 2:Int)=1
  .rw[if_pos c2]
   by_cases c3:b1+2+2+4<=t.size
   .rw[if_pos c3]
    by_cases c4:b1+2+2+4+2<=t.size
    .exfalso
     cases d3 with
     |true=>rcases n3.2 rfl with e|e;cases e;exact e.1 c2.1
     |false=>
     obtain⟨_,_,e3,r3⟩:=n3.1 rfl;have hb:((v3:Int)!=1)=false:=by rw[e3];simp[c2.2]
     rw[hb] at n4;cases d4 with
     |true=>rcases n4.2 rfl with e|e;cases e;exact e.1 (by omega)
     |false=>
     obtain⟨_,_,e4,r4⟩:=n4.1 rfl;subst h;rcases n5.2 rfl with e|e;cases e;exact e.1 (by omega)
    .rw[if_neg c4]
   .rw[if_neg c3]
  .rw[if_neg c2]
 .obtain⟨e4,k5,e5,r5⟩:=n5.1 h
  obtain⟨e3,k4,e6,r4⟩:=n4.1 e4;have SZ:v3=1:=by simp at e3;omega
  cases d3 with
  |true=>rcases n3.2 rfl with e|e;cases e;omega
  |false=>
  obtain⟨_,k3,e7,r3⟩:=n3.1 rfl;subst r3;subst r4;refine⟨by omega,r5,e5,?_⟩;rw[hr];unfold P8;rw[if_pos k2,if_pos ⟨k3,by omega⟩,if_pos (by omega),if_pos (by omega),r5,e2,e6]
theorem ad9{nm:ByteArray}{ty:Int}{r:Rc.Rec}{q:Nat}(h:pA t a nm ty la=AI (r,q))(ha:a<=t.size):q<=t.size:=by
 unfold pA at h;split at h
 .split at h
  .have:=(Prod.mk.inj (Jq h)).2;omega
  .cases h
 .split at h
  .split at h
   .have:=(Prod.mk.inj (Jq h)).2;omega
   .cases h
  .split at h
   .split at h
    .split at h
     .split at h
      .cases hx:Gc t (a+2+2+2) with
       |none=>rw[hx] at h;cases h
       |some y=>
        rw[hx] at h;have e:y.2=q:=(Prod.mk.inj (Jq h)).2;rw[<- e];exact amX hx
      .cases h
     .cases h
    .cases h
   .have:=(Prod.mk.inj (Jq h)).2;omega
theorem ahG(n6:wP t a 4 false v6 b6 d6):(d6=true->pA t a s 1 la=U)/\(d6=false->pA t a s 1 la=AI (⟨s,1,la,v6,⟨#[]⟩,0,⟨#[]⟩⟩,b6)):=by
 refine⟨λh=>?_,λh=>?_⟩
 .rcases n6.2 h with e|e
  .cases e
  .unfold pA;rw[if_pos rfl,if_neg e.1]
 .obtain⟨_,k,e,r⟩:=n6.1 h
  unfold pA;rw[if_pos rfl,if_pos k,e,r]
theorem ad7(n6:wP t a 1 false v6 b6 d6):(d6=true->pA t a s 16 la=U)/\(d6=false->(¬ b6+v6<=t.size->pA t a s 16 la=U)/\(b6+v6<=t.size->pA t a s 16 la=AI (⟨s,16,la,0,t.extract b6 (b6+v6),0,⟨#[]⟩⟩,b6+v6))):=by
 have h0:pA t a s 16 la=if a+1+mP t a 1<=t.size then AI (⟨s,16,la,0,t.extract (a+1) (a+1+mP t a 1),0,⟨#[]⟩⟩,a+1+mP t a 1) else U:=rfl;refine⟨λh=>?_,λh=>?_⟩
 .rcases n6.2 h with e|e
  .cases e
  .rw[h0,if_neg (by omega)]
 .obtain⟨_,k,e,r⟩:=n6.1 h
  subst r;subst e;exact⟨λh=>by rw[h0,if_neg h],λh=>by rw[h0,if_pos h]⟩
theorem aaz(n6:wP t a 4 false v6 b6 d6)(n7:wP t b6 2 ((v6:Int)!=0) v7 b7 d7)(n8:Mm t b7 d7 s8 b8 d8):(d8=true->pA t a s 33 la=U)/\(d8=false->pA t a s 33 la=AI (⟨s,33,la,0,⟨#[]⟩,v7,s8⟩,b8)):=by
 have h0:pA t a s 33 la=if a+2<=t.size/\(mP t a 2:Int)=0 then
  if a+2+2<=t.size/\(mP t (a+2) 2:Int)=0 then
   if a+2+2+2<=t.size then(Gc t (a+2+2+2)).map λx=>(⟨s,33,la,0,⟨#[]⟩,mP t (a+2+2) 2,x.1⟩,x.2) else U
  else U
  else U:=rfl
 have h4:=De t a;refine⟨λh=>?_,λh=>?_⟩
 .rw[h0]
  by_cases c1:a+2<=t.size/\(mP t a 2:Int)=0
  .rw[if_pos c1]
   by_cases c2:a+2+2<=t.size/\(mP t (a+2) 2:Int)=0
   .rw[if_pos c2]
    by_cases c3:a+2+2+2<=t.size
    .rw[if_pos c3]
     cases d6 with
     |true=>rcases n6.2 rfl with e|e;cases e;exact absurd (by omega) e.1
     |false=>
     obtain⟨_,_,e6,r6⟩:=n6.1 rfl;have hb:((v6:Int)!=0)=false:=by simp;omega
     rw[hb] at n7;cases d7 with
     |true=>rcases n7.2 rfl with e|e;cases e;exact absurd (by omega) e.1
     |false=>
     obtain⟨_,_,e7,r7⟩:=n7.1 rfl;rcases n8.2 h with e|e
     .cases e
     .have Bj:b7=a+2+2+2:=by omega
      rw[Bj] at e;rw[e];rfl
    .rw[if_neg c3]
   .rw[if_neg c2]
  .rw[if_neg c1]
 .obtain⟨e7,g7,_⟩:=n8.1 h
  obtain⟨e6,k7,f7,r7⟩:=n7.1 e7;have hv6:v6=0:=by simp at e6;omega
  cases d6 with
  |true=>rcases n6.2 rfl with e|e;cases e;omega
  |false=>
  obtain⟨_,k6,f6,r6⟩:=n6.1 rfl;have Bj:b7=a+2+2+2:=by omega
  rw[Bj] at g7;rw[h0,if_pos ⟨by omega,by omega⟩,if_pos ⟨by omega,by omega⟩,if_pos (by omega),g7,f7,r6];rfl
theorem ad8{ty:Int}(h1:ty≠1)(h2:ty≠16)(h3:ty≠33):pA t a s ty la=AI (⟨s,ty,la,0,⟨#[]⟩,0,⟨#[]⟩⟩,a):=by
 unfold pA;rw[if_neg h1,if_neg h2,if_neg h3]
theorem ahK{ty:Int}(hb:b5=b1+2+2+4+2)(hv:v5=mP t (b1+2+2+4) 2)(h:rT t b=Ee t b1 (pA t b5 s1 ty la))(hle:b5<=t.size)(aFl:¬ b5+v5<=t.size):rT t b=U:=by
 rw[h];cases hd:pA t b5 s1 ty la with
 |none=>rfl
 |some y=>
  obtain⟨r,q⟩:=y;have hq:=ad9 hd hle;show(if(q:Int)-((b1+2+2+4+2:Nat):Int)=(mP t (b1+2+2+4) 2:Int) then _ else _)=_;rw[if_neg (by omega)]
theorem FR{ty:Int}(h:rT t b=Ee t b1 (pA t b5 s1 ty la))(hd:pA t b5 s1 ty la=U):rT t b=U:=by rw[h,hd];rfl
theorem alI{ty:Int}{r:Rc.Rec}{q:Nat}(hb:b5=b1+2+2+4+2)(hv:v5=mP t (b1+2+2+4) 2)(h:rT t b=Ee t b1 (pA t b5 s1 ty la))(hd:pA t b5 s1 ty la=AI (r,q)):(((q:Int)!=(b5:Int)+(v5:Int))=true->rT t b=U)/\(((q:Int)!=(b5:Int)+(v5:Int))=false->rT t b=AI (r,q)):=by
 have e:rT t b=if(q:Int)-((b1+2+2+4+2:Nat):Int)=(mP t (b1+2+2+4) 2:Int) then AI (r,q) else U:=by rw[h,hd];rfl
 refine⟨λhq=>?_,λhq=>?_⟩
 .rw[e,if_neg]
  simp at hq;omega
 .rw[e,if_pos]
  simp at hq;omega
theorem Ez{r:Rc.Rec}(h1:r.name.size<=1000)(h2:r.text.size<=1000)(h3:r.target.size<=1000):r.ok/\r.name.size<=1000/\r.target.size<=1000:=⟨by unfold Rc.Rec.ok Il;omega,h1,h3⟩
variable {id code:Int} {mX cut:Bool} {n v8 v9 b9:Nat} {R:ByteArray} {d9:Bool}
theorem aqo(h:pI t=Hd t id mX cut code n (Gc t 12))(n7:Mm t 12 false R b7 d7)(n8:wP t b7 2 d7 v8 b8 true):pI t=U:=by
 rw[h];cases d7 with
 |true=>
  rcases n7.2 rfl with e|e
  .cases e
  .rw[e];rfl
 |false=>
  rw[(n7.1 rfl).2.1];rcases n8.2 rfl with e|e
  .cases e
  .show(if b7+2<=t.size then _ else _)=_
   rw[if_neg e.1]
theorem aqp(h:pI t=Hd t id mX cut code n (Gc t 12))(n7:Mm t 12 false R b7 d7)(n8:wP t b7 2 d7 v8 b8 false)(n9:wP t b8 2 false v9 b9 d9) : (((v9:Int)!=1)=true->pI t=U)/\(((v9:Int)!=1)=false->b9<=t.size/\pI t=Ef t id mX cut code R v8 (qX t n b9 [])):=by
 obtain⟨e8,k8,f8,r8⟩:=n8.1 rfl;subst e8;obtain⟨_,g7,_⟩:=n7.1 rfl;have hm:pI t=if b7+2<=t.size then if b7+2+2<=t.size/\(mP t (b7+2) 2:Int)=1 then Ef t id mX cut code R (mP t b7 2) (qX t n (b7+2+2) []) else U else U:=by rw[h,g7];rfl
 rw[if_pos k8] at hm;subst r8;refine⟨λe=>?_,λe=>?_⟩
 .rw[hm,if_neg]
  intro hc;cases d9 with
  |true=>rcases n9.2 rfl with e|e;cases e;exact e.1 hc.1
  |false=>
   obtain⟨_,_,f9,_⟩:=n9.1 rfl;rw[f9] at e;simp at e;omega
 .have hv:v9=1:=by simp at e;omega
  cases d9 with
  |true=>rcases n9.2 rfl with e|e;cases e;omega
  |false=>
   obtain⟨_,k9,f9,r9⟩:=n9.1 rfl;refine⟨by omega,?_⟩;rw[hm,if_pos ⟨k9,by omega⟩,f8,r9]
theorem zU{P:Prop}(h:P:=by
 go_wp2_with fail;refine hN _ _ _ _ _ _ _ _ _ _ _ _ _ _ _ _ _ _ _ _ _ _ _ _ _ _ _ _ _ _ _ _ _ _ _ _ true ?_ ?_
 .exact(λ_=>HF.out)
 .exact(λe=>by cases e)):P:=h
theorem Mn{P:Prop}(h:P:=by
 conv=>arg 2;whnf
 by_cases h15:15<v3
 .have f0:decide ((15:Int)<(v3:Int))=true:=by simp;omega
  have HF:Hid _:=HE.out (λh=>by omega);clear h15 HE;exact zU
 have f0:decide ((15:Int)<(v3:Int))=false:=by simp;omega
 by_cases h1:v4≠1
 .have f1:((v4:Int)!=1)=true:=by simp;omega
  have HF:Hid _:=HE.out (λh=>by omega);clear h1 HE;exact zU
 have f1:((v4:Int)!=1)=false:=by simp;omega
 by_cases h20:20<v5
 .have f2:decide ((20:Int)<(v5:Int))=true:=by simp;omega
  have HF:Hid _:=HE.out (λh=>by omega);clear h20 HE;exact zU
 have f2:decide ((20:Int)<(v5:Int))=false:=by simp;omega
 by_cases h0:v6≠0
 .have f3:((v6:Int)!=0)=true:=by simp;omega
  have HF:Hid _:=HE.out (λh=>by omega);clear h0 HE;exact zU
 have f3:((v6:Int)!=0)=false:=by simp;omega
 have HG:Hid (TO v2/\v3<=15/\v4=1/\v5<=20/\v6=0):=⟨Rj.out,by omega,by omega,by omega,by omega⟩;clear h15 h1 h20 h0 HE;go_wp2_with fail;refine hN _ _ _ _ _ _ _ _ _ _ _ _ _ _ _ _ _ _ _ _ _ _ _ _ _ _ _ _ _ _ _ _ _ _ _ _ false ?_ ?_
 .exact(λe=>by cases e)
 .exact(λ_=>⟨HG.out.1,HG.out.2.1,HG.out.2.2.1,HG.out.2.2.2.1,HG.out.2.2.2.2,by simp⟩)):P:=h
theorem p12{u0 u1 u2 u3 ac jG af ai aj ap au ay az aA aB aC aD aE aF aI aJ aK aL aM aN aO aP aQ aR aT aU aV aW aX aY aZ ba bc be bf bi bj bp bq bu bw bz bA bB bC bD bE bF bJ bK bL bM bN bO bP bQ bT bU bV bW bX bY bZ cd cj cx cy cz cA cB cC cD cE cF cG cH cI cJ cK cM cO cP cQ cR cS cT cU cV cW cX cY cZ da dd de df dg dh di dj dl dn dt du dv dw dx dA dB dC dD dE dF dG dH dI dJ dK dL dM dO dP dQ dR dS dU dW dX dY dZ ea eb ed ee ei ej el eo ep eu ew ex ey jH ez eA eC eD eE eF eG eH eI eJ eK eL eM eN eO eP eQ eR eS eT eU eV eW eX eY eZ e9 fb fc fe ff fh fj fm fp fq fs fu fw fx fy fA fB fC fD fE fF fG fH fI fJ fK fL fM fN fO fP fQ fS fT fU fV fW fX fY fZ ga gc gd gh gi gj gk gl gn gr gu gv gx gy gA gB gC gD gE gF gG gH gI gJ gK gL gM gN gO gP gQ gR gS gT gU gV gW gX gY gZ hJ:Value}(w w7:World)(t:ByteArray)(mb v2 v3 v4 v5 v6:Nat){d6:Bool}(k2:w7.cell? ⟨w.heap.size+1,2,U⟩=AI (Ic d6))(c3:w7.cell? ⟨mb,3,U⟩=AI (O J v3))(Q:Exit->Act->World->Prop)(HB:Hid (d6=true->vQ t≠0))(HE:Hid (d6=false->¬ (TO v2/\v3<=15/\v4=1/\v5<=20/\v6=0)->vQ t≠0))(hN:∀(lT lU lV lW lX lY lZ ma md mf mg mh mi mj ml mm mp mq mr mt mu mw mx my mz mA mB mC mD mF mG mH mI mJ mK mL:Value) (x:Bool),Hid (x=true->vQ t≠0)->Hid (x=false->TO v2/\v3<=15/\v4=1/\v5<=20/\v6=0/\d6=false)->Q .normal ⟨#[u0,u1,u2,u3,Ik (AI ⟨w.heap.size+1,0,U⟩),Ik (AI ⟨mb,0,U⟩),O J v2,O J v4,O J v5,O J v6,ac,jG,af,ai,aj,ap,au,ay,az,aA,aB,aC,aD,aE,aF,aI,aJ,aK,aL,aM,aN,aO,aP,aQ,aR,aT,aU,aV,aW,aX,aY,aZ,ba,lT,lU,lV,lW,lX,lY,lZ,ma,md,mf,mg,mh,mi,mj,ml,mm,mp,mq,mr,mt,mu,mw,mx,my,mz,mA,mB,mC,mD,mF,mG,mH,mI,mJ,mK,mL,Ic x,cB,cC,cD,cE,cF,cG,cH,cI,cJ,cK,cM,cO,cP,cQ,cR,cS,cT,cU,cV,cW,cX,cY,cZ,da,dd,de,df,dg,dh,di,dj,dl,dn,dt,du,dv,dw,dx,dA,dB,dC,dD,dE,dF,dG,dH,dI,dJ,dK,dL,dM,dO,dP,dQ,dR,dS,dU,dW,dX,dY,dZ,ea,eb,ed,ee,ei,ej,el,eo,ep,eu,ew,ex,ey,jH,ez,eA,eC,eD,eE,eF,eG,eH,eI,eJ,eK,eL,eM,eN,eO,eP,eQ,eR,eS,eT,eU,eV,eW,eX,eY,eZ,e9,fb,fc,fe,ff,fh,fj,fm,fp,fq,fs,fu,fw,fx,fy,fA,fB,fC,fD,fE,fF,fG,fH,fI,fJ,fK,fL,fM,fN,fO,fP,fQ,fS,fT,fU,fV,fW,fX,fY,fZ,ga,gc,gd,gh,gi,gj,gk,gl,gn,gr,gu,gv,gx,gy,gA,gB,gC,gD,gE,gF,gG,gH,gI,gJ,gK,gL,gM,gN,gO,gP,gQ,gR,gS,gT,gU,gV,gW,gX,gY,gZ,hJ],[]⟩ w7) :
 Code.wp AT ((Tryz.f20.body.bind (B2 12)).getD .skip) Q ⟨#[u0,u1,u2,u3,Ik (AI ⟨w.heap.size+1,0,U⟩),Ik (AI ⟨mb,0,U⟩),O J v2,O J v4,O J v5,O J v6,ac,jG,af,ai,aj,ap,au,ay,az,aA,aB,aC,aD,aE,aF,aI,aJ,aK,aL,aM,aN,aO,aP,aQ,aR,aT,aU,aV,aW,aX,aY,aZ,ba,bc,be,bf,bi,bj,bp,bq,bu,bw,bz,bA,bB,bC,bD,bE,bF,bJ,bK,bL,bM,bN,bO,bP,bQ,bT,bU,bV,bW,bX,bY,bZ,cd,cj,cx,cy,cz,cA,cB,cC,cD,cE,cF,cG,cH,cI,cJ,cK,cM,cO,cP,cQ,cR,cS,cT,cU,cV,cW,cX,cY,cZ,da,dd,de,df,dg,dh,di,dj,dl,dn,dt,du,dv,dw,dx,dA,dB,dC,dD,dE,dF,dG,dH,dI,dJ,dK,dL,dM,dO,dP,dQ,dR,dS,dU,dW,dX,dY,dZ,ea,eb,ed,ee,ei,ej,el,eo,ep,eu,ew,ex,ey,jH,ez,eA,eC,eD,eE,eF,eG,eH,eI,eJ,eK,eL,eM,eN,eO,eP,eQ,eR,eS,eT,eU,eV,eW,eX,eY,eZ,e9,fb,fc,fe,ff,fh,fj,fm,fp,fq,fs,fu,fw,fx,fy,fA,fB,fC,fD,fE,fF,fG,fH,fI,fJ,fK,fL,fM,fN,fO,fP,fQ,fS,fT,fU,fV,fW,fX,fY,fZ,ga,gc,gd,gh,gi,gj,gk,gl,gn,gr,gu,gv,gx,gy,gA,gB,gC,gD,gE,gF,gG,gH,gI,gJ,gK,gL,gM,gN,gO,gP,gQ,gR,gS,gT,gU,gV,gW,gX,gY,gZ,hJ],[]⟩ w7:=by
 cases d6 with
 |true=>
  have HF:Hid _:=HB.out rfl
  conv=>arg 2;whnf
  exact zU
 |false=>
  have HE:Hid _:=HE.out rfl;by_cases h0:v2=0
  .have Rj:Hid (TO v2):=.inl h0
   have g0:((v2:Int)!=0)=false:=by simp;omega
   clear h0;exact Mn
  have g0:((v2:Int)!=0)=true:=by simp;omega
  by_cases h2:v2=2
  .have Rj:Hid (TO v2):=.inr (.inl h2)
   have g1:((v2:Int)!=2)=false:=by simp;omega
   clear h0 h2;exact Mn
  have g1:((v2:Int)!=2)=true:=by simp;omega
  by_cases h128:v2=128
  .have Rj:Hid (TO v2):=.inr (.inr (.inl h128))
   have g2:((v2:Int)!=128)=false:=by simp;omega
   clear h0 h2 h128;exact Mn
  have g2:((v2:Int)!=128)=true:=by simp;omega
  by_cases h130:v2=130
  .have Rj:Hid (TO v2):=.inr (.inr (.inr h130))
   have g3:((v2:Int)!=130)=false:=by simp;omega
   clear h0 h2 h128 h130;exact Mn
  have g3:((v2:Int)!=130)=true:=by simp;omega
  have HF:Hid _:=HE.out (λh=>by have:=h.1;unfold TO at this;omega);clear h0 h2 h128 h130 HE
  conv=>arg 2;whnf
  exact zU
def Ba(id code mQ:Int)(mX cut:Bool)(name:ByteArray)(rs:List Rc.Rec)(n:Nat):List UInt8:=yW id code mQ mX (cut||decide (n<rs.length)) name (rs.take n)
def CZ(f:Nat->List UInt8)(size:Int):Nat->Option (List UInt8)
 |0=>if((f 0).length:Int)<=size then AI (f 0) else U
 |k+1=>if((f (k+1)).length:Int)<=size then AI (f (k+1)) else CZ f size k
def vV(id code mQ:Int)(mX cut:Bool)(name:ByteArray)(rs:List Rc.Rec)(size:Int):Int:=
 if within size 12 512=false then 3
 else if nx id code mQ name rs=0 then(if(CZ (Ba id code mQ mX cut name rs) size rs.length).isSome then 0 else 2)
 else nx id code mQ name rs
def vL(id code mQ:Int)(mX cut:Bool)(name:ByteArray)(rs:List Rc.Rec)(size:Int):ByteArray:=
 if within size 12 512=false then⟨#[]⟩
 else if nx id code mQ name rs=0 then⟨((CZ (Ba id code mQ mX cut name rs) size rs.length).getD []).toArray⟩
 else⟨#[]⟩
theorem Ge{f:Nat->List UInt8}{size:Int}:∀{n j:Nat},j<=n->(∀i,j<i->i<=n->size<((f i).length:Int))->((f j).length:Int)<=size->CZ f size n=AI (f j)
 |0,j,hj,_,h=>by
  obtain rfl:j=0:=by omega
  simp only[CZ,if_pos h]
 |n+1,j,hj,hi,h=>by
  rcases Nat.lt_or_ge n j with h1|h1
  .obtain rfl:j=n+1:=by omega
   simp only[CZ,if_pos h]
  .have h2:=hi (n+1) (by omega) (by omega)
   simp only[CZ];rw[if_neg (by omega)];exact Ge h1 (λi h3 h4=>hi i h3 (by omega)) h
theorem L7{f:Nat->List UInt8}{size:Int}:∀{n:Nat},(∀i,i<=n->size<((f i).length:Int))->CZ f size n=U
 |0,hi=>by
  have h:=hi 0 (by omega);simp only[CZ];rw[if_neg (by omega)]
 |n+1,hi=>by
  have h:=hi (n+1) (by omega);simp only[CZ];rw[if_neg (by omega)];exact L7 (λi h3=>hi i (by omega))
theorem Rb:∀{rs:List Rc.Rec},(∀r∈rs,nT r=0)->sG rs=0
 |[],_=>rfl
 |x::t,h=>by
  simp only[sG];rw[if_pos (h x Jg)];exact Rb (λr hr=>h r (Jv _ hr))
theorem PD{id code mQ:Int}{name:ByteArray}{rs:List Rc.Rec}(h:nx id code mQ name rs=0)(n:Nat):nx id code mQ name (rs.take n)=0:=by
 have hf:=oM h;unfold nx at h ⊢;split at h
 .omega
 rename_i h1;split at h
 .omega
 split at h
 .omega
 rename_i h3;split at h
 .omega
 rename_i h4;rw[if_neg h1,if_neg (by rw[IA];omega),if_neg h3,if_neg h4];exact Rb (λr hr=>hf.2.2 r (Jr hr))
theorem PB{w:World}{b off:Nat}{rs:List Rc.Rec}(h:Rc.Row w b off rs)(n:Nat):Rc.Row w b off (rs.take n):=λj hj=>by
 have h1:j<rs.length:=by rw[IA] at hj;omega
 have h2:(rs.take n).getD j Rc.dm=rs.getD j Rc.dm:=by
  have h3:j<n:=by rw[IA] at hj;omega
  simp[Ip,h3]
 rw[h2];exact h j h1
end Go.Proofs.YtipbebleapjcjaaGreatDoor
