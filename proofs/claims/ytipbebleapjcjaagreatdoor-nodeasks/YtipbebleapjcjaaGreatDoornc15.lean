import Derived.Test.YtipbebleapjcjaaGreatDoornc14
set_option maxHeartbeats 6400000
set_option maxRecDepth 1000000
open Array renaming getElem?_eq_some_iff->Ig
open Go renaming bodyPost_ret->IE,cell_regrown->Im,heap_alloc_new->Ii,info_parts->Jc,maxLen->Il,redrawn->IG,wp_region_quiet_below->IX
open Go.Addr.mk renaming injEq->JV
open Go.Ending renaming returned->Ia
open Go.IntKind renaming i64->J
open Go.Lib renaming toList_data->IZ
open Go.Obj renaming cells->Ib
open Go.Proofs.Tryz renaming prog->AT,underlying23->OC
open Go.RowKit.Below renaming heap_alloc->Iv,refl->If
open Go.Sort renaming grow->Is
open Go.Value renaming agg->Iu,bool->Ic,func->JD,int->O,pointer->Ik,slice->sh,string->I,tuple->Ir
open Go.Value.slice renaming injEq->IM
open Go.World renaming block_lt_of_cell?->II,frozen?->Ij
open Go.World.ownsRow renaming cellAt->ON,frozenAt->JE,stored->M2
open List renaming getD->Ip,getElem?_eq_getElem->Ih,getElem?_eq_none->IK,getElem?_eq_some_iff->I7,getElem?_take_of_lt->IQ,length_cons->Je,length_drop->I9,length_set->Jm,length_take->IA
open Nat renaming le_refl->By,lt_succ_iff_lt_or_eq->IL,not_lt_zero->IV,zero_le->Iw
open Option renaming none->U,some->AI
open Option.some renaming injEq->Jd
open Go.Proofs.Tryz
namespace Go.Proofs.YtipbebleapjcjaaGreatDoor
open Go.RowKit
theorem Tryz.ao2:(Tryz.prog.info? 3).map (λi=>(i.zero,i.size,i.bytes))=AI (AI (O J 0),1,8):=by kernel_rfl
theorem BS{base g c n:Nat}{w:World}{rs:List nQ}(h:w.ownsRow base 57 6 (sh (AI ⟨g,0,U⟩) n c) rs.length (ru rs)):vU w g 0 rs:=by
 rcases h.2 with⟨hv,_⟩|⟨g',c',cur,hv,qa,hg,rF,qw,oH,nA⟩
 .cases hv
 .simp only[IM,Jd,JV,and_true] at hv
  obtain⟨rfl,_,_⟩:=hv;intro j hj;have hc:∀t,t<6->w.cell? ⟨g,0+j*6+t,U⟩=(rs.getD j dr).cs[t]?:=λt ht=>by
   rw[fi hg,<- xP rs j hj t ht,<- nA,IQ (by omega)];simp
  exact⟨hc 0 (by omega),hc 1 (by omega),hc 2 (by omega),hc 3 (by omega),hc 4 (by omega),hc 5 (by omega)⟩
def wrs:List Value->Nat->List Value->List Value
 |xs,_,[]=>xs
 |xs,o,v::r=>wrs (xs.set o v) (o+1) r
theorem zI:∀(vs xs:List Value) (o:Nat),(wrs xs o vs).length=xs.length
 |[],_,_=>rfl
 |v::r,xs,o=>by rw[wrs,zI r,Jm]
theorem zJ:∀(vs xs:List Value) (o k:Nat),k<o\/o+vs.length<=k->(wrs xs o vs)[k]?=xs[k]?
 |[],_,_,_,_=>rfl
 |v::r,xs,o,k,h=>by
  simp only[Je] at h;rw[wrs,zJ r _ _ k (by omega),List.getElem?_set_ne (by omega)]
theorem Tk:∀(vs xs:List Value) (o j:Nat),j<vs.length->o+vs.length<=xs.length->(wrs xs o vs)[o+j]?=vs[j]?
 |[],_,_,_,h,_=>by simp at h
 |v::r,xs,o,0,_,h2=>by
  simp only[Je] at h2;rw[wrs,zJ r _ _ _ (by omega)];simp[List.getElem?_set_self (show o<xs.length by omega)]
 |v::r,xs,o,j+1,h,h2=>by
  simp only[Je] at h h2;rw[wrs,show o+(j+1)=(o+1)+j by omega,Tk r _ _ j (by omega) (by rw[Jm];omega)];simp
theorem vG{base g n cap:Nat}{e:TypeId}{size:Nat}:∀(vs xs:List Value) (o:Nat) (w:World),w.ownsRow base e size (sh (AI ⟨g,0,U⟩) n cap) n xs->(w.setCells g o vs).ownsRow base e size (sh (AI ⟨g,0,U⟩) n cap) n (wrs xs o vs)
 |[],_,_,_,h=>h
 |v::r,_,o,_,h=>vG r _ _ _ (M2 h o v).1
theorem rS{base g:Nat}(hg:base<=g):∀(vs:List Value) (o:Nat) (w0 w:World),Below base w0 w->Below base w0 (w.setCells g o vs)
 |[],_,_,_,h=>h
 |v::r,o,w0,_,h=>rS hg r _ w0 _ (h.setCell (p:=⟨g,o,U⟩) hg v)
theorem Dz{w:World}{base g n m cap:Nat}{e:TypeId}{size:Nat}{xs:List Value}(h:w.ownsRow base e size (sh (AI ⟨g,0,U⟩) n cap) n xs)(hm:m<=n):w.ownsRow base e size (sh (AI ⟨g,0,U⟩) m cap) m (xs.take (m*size)):=by
 obtain⟨h1,h2⟩:=h;have hle:m*size<=n*size:=Nat.mul_le_mul_right _ hm;refine⟨by rw[IA,h1];omega,?_⟩;rcases h2 with⟨hv,_⟩|⟨g',c',cur,hv,qa,hg,rF,qw,oH,nA⟩
 .cases hv
 .simp only[IM,Jd,JV,and_true,true_and] at hv
  obtain⟨rfl,rfl⟩:=hv;refine .inr ⟨g,cap,cur,rfl,qa,hg,by omega,qw,oH,?_⟩;rw[<- nA,List.take_take,Nat.min_eq_left hle]
def zR:List Value:=[I ⟨#[]⟩,O J 0,O J 0,O J 0,Ic false,O J 0]
theorem FC{xs ys:List Value}{k:Nat}(hl:k<=xs.length)(hy:ys.length=k)(h:∀j,j<k->xs[j]?=ys[j]?):xs.take k=ys:=by
 apply List.ext_getElem?;intro j;by_cases hj:j<k
 .rw[IQ hj,h j hj]
 .rw[IK (by rw[IA];omega),IK (by omega)]
theorem NG{rs:List nQ}{p n:Nat}(hn:rs.length=n)(hp:p<n):(wrs (wrs (ru rs) (p*6) (ru (rs.drop (p+1)))) ((n-1)*6) zR).take ((n-1)*6)=ru (rs.eraseIdx p):=by
 have hl:(ru rs).length=n*6:=by rw[pZ,hn]
 have hd:(ru (rs.drop (p+1))).length=(n-(p+1))*6:=by rw[pZ,I9,hn]
 refine FC (by rw[zI,zI,hl];omega) (by rw[pZ,List.length_eraseIdx,if_pos (by omega),hn]) (λj hj=>?_);rw[zJ _ _ _ _ (by omega),List.eraseIdx_eq_take_drop_succ,Fv];have ht:(ru (rs.take p)).length=p*6:=by rw[pZ,IA,hn];omega
 by_cases hjp:j<p*6
 .rw[zJ _ _ _ _ (by omega),List.getElem?_append_left (by omega),<- Fw,IQ hjp]
 .rw[List.getElem?_append_right (by omega),ht]
  have:=Tk (ru (rs.drop (p+1))) (ru rs) (p*6) (j-p*6) (by rw[hd];omega) (by rw[hd,hl];omega);rw[show p*6+(j-p*6)=j by omega] at this;exact this
theorem GS(w:World)(ty:TypeId)(b o c:Nat)(hc:∀j,j<6->(w.cell? ⟨b,o+j,U⟩).isSome=true)(hf:∀j,j<6->w.frozen? ⟨b,o+j,U⟩=false) : (Builtin.clear_ #[23] ty #[sh (AI ⟨b,o,U⟩) 1 c]).run AT w=.ok (Ir #[]) (w.setCells b o zR):=by
 have hzc:(Builtin.zeroCells (Value.agg #[I ⟨#[]⟩,O J 0,O J 0,O J 0,Ic false,O J 0]).cells 1).toList=zR:=by kernel_rfl
 have GB:=run_storeCells_cells (P:=AT) b o zR 0 w (λj hj=>by simpa using hc j (by simpa[zR] using hj)) (λj hj=>by simpa using hf j (by simpa[zR] using hj)) (by intro v hv;simp[zR] at hv;rcases hv with rfl|rfl|rfl|rfl<;>rfl);simp only[Nat.add_zero] at GB;simp[Builtin.clear_,run_underlying OC,hzc,GB]
theorem Tl(rs:List nQ)(n p g c base:Nat)(w:World)(hn:rs.length=n)(ho:oE base w (sh (AI ⟨g,0,U⟩) n c) rs)(hp:p<n)(Ho:n<=1000) :
 Calls AT 235 #[sh (AI ⟨g,0,U⟩) n c,O J p,O J (p+1)] w λe w'=>e=Ia (sh (AI ⟨g,0,U⟩) (n-1) c)/\oE base w' (sh (AI ⟨g,0,U⟩) (n-1) c) (rs.eraseIdx p)/\Below base w w':=by
 obtain⟨i0,qg,oS,pC,xC⟩:=Jc Tryz.Kl;have HO:Hid (w.ownsRow base 57 6 (sh (AI ⟨g,0,U⟩) n c) n (ru rs)):=by rw[<- hn];rw[<- hn] at ho;exact ho
 obtain⟨Ak,rF,qw⟩:base<=g/\n<=c/\c<=Il:=by
  rcases HO.out.2 with⟨hv,_⟩|⟨g',c',cur,hv,qa,hg,rF,qw,oH,nA⟩
  .cases hv
  .simp only[IM,Jd,JV,and_true,true_and] at hv
   obtain⟨rfl,rfl⟩:=hv;exact⟨qa,rF,qw⟩
 unfold Il at qw;have hp0:(0:Int)<=(p:Int)+1:=by omega
 have tr:(p:Int)+1<=(n:Int):=by omega
 have SR:((p:Int)+1).toNat=p+1:=by omega
 have hic:p<=c:=by omega
 have nG:∀k,k<n*6->w.cell? ⟨g,k,U⟩=(ru rs)[k]?:=λk hk=>by
  rcases HO.out.2 with⟨hv,_⟩|⟨g',c',cur,hv,qa,hg,_,_,oH,nA⟩
  .cases hv
  .simp only[IM,Jd,JV,and_true,true_and] at hv
   obtain⟨rfl,rfl⟩:=hv;rw[fi hg,<- nA,IQ hk,Array.getElem?_toList]
 have uU:(ru rs).length=n*6:=by rw[pZ,hn]
 have S1:Hid ((ru (rs.drop (p+1))).length=(n-(p+1))*6):=(show(ru (rs.drop (p+1))).length=_ by rw[pZ,I9,hn]);obtain⟨A,hA,hnews⟩:∃A:Addr,(if c=p+1 then AI (⟨g,0,U⟩:Addr) else AI ⟨g,(p+1)*6,U⟩)=AI A/\Hid (∀j u,(ru (rs.drop (p+1)))[j]?=AI u->w.drew.cell? (A.add j)=AI u):=by
  by_cases h:c=p+1
  .refine⟨_,if_pos h,λj u hj=>?_⟩
   have:j<(ru (rs.drop (p+1))).length:=(I7.1 hj).1
   rw[S1.out] at this;omega
  .refine⟨_,if_neg h,λj u hj=>?_⟩
   have hj1:=(I7.1 hj).1;rw[S1.out] at hj1;rw[Addr.add_lit];show w.cell? _=_;rw[nG _ (by omega),<- hj,<- Nr,List.getElem?_drop]
 have S2:Hid (∀u∈ru (rs.drop (p+1)),u.oneCell'=true):=V8 _;have S3:Hid (∀j,j<(ru (rs.drop (p+1))).length->(w.drew.cell? ⟨g,0+p*6+j,U⟩).isSome=true/\w.drew.frozen? ⟨g,0+p*6+j,U⟩=false):=λj hj=>by
  rw[S1.out] at hj;refine⟨?_,JE HO.out _⟩;show(w.cell? _).isSome=true;rw[nG _ (by omega),Ih (by omega)];rfl
 have HD:Hid ((w.drew.setCells g (p*6) (ru (rs.drop (p+1)))).ownsRow base 57 6 (sh (AI ⟨g,0,U⟩) n c) n (wrs (ru rs) (p*6) (ru (rs.drop (p+1))))):=vG _ _ _ _ (show w.drew.ownsRow base 57 6 (sh (AI ⟨g,0,U⟩) n c) n (ru rs) from HO.out);have alc:∀ty,(Builtin.clear_ #[23] ty #[sh (AI ⟨g,(p+(n-(p+1)))*6,U⟩) (n-(p+(n-(p+1)))) (c-(p+(n-(p+1))))]).run AT (w.drew.setCells g (p*6) (ru (rs.drop (p+1))))=.ok (Ir #[]) ((w.drew.setCells g (p*6) (ru (rs.drop (p+1)))).setCells g ((n-1)*6) zR):=λty=>by
  rw[show p+(n-(p+1))=n-1 by omega,show n-(n-1)=1 by omega];exact GS _ ty g _ _ (λj hj=>by rw[ON HD.out _ (by omega),Ih (by rw[zI,uU];omega)];rfl) (λj _=>JE HD.out _)
 have HF:Hid (((w.drew.setCells g (p*6) (ru (rs.drop (p+1)))).setCells g ((n-1)*6) zR).ownsRow base 57 6 (sh (AI ⟨g,0,U⟩) (n-1) c) (n-1) (ru (rs.eraseIdx p))):=by
  have h:=Dz (m:=n-1) (vG zR _ ((n-1)*6) _ HD.out) (by omega);rw[NG hn hp] at h;exact h
 have HL:Hid ((rs.eraseIdx p).length=n-1):=(show(rs.eraseIdx p).length=n-1 by rw[List.length_eraseIdx,if_pos (by omega),hn]);have HBL:Hid (Below base w ((w.drew.setCells g (p*6) (ru (rs.drop (p+1)))).setCells g ((n-1)*6) zR)):=rS Ak _ _ _ _ (rS Ak _ _ _ _ (If _ _).drew);have HPN:Hid (p+(n-(p+1))=n-1):=(show p+(n-(p+1))=n-1 by omega);clear ho nG;go_enter func235,ntmps235;go_wp2_with fail;go_region_law (refine step_append_room rfl (.tmp 22) (.tmp 25) 23 rfl 57 i0 6 OC qg pC g 0 p c (by simp[Act.eval,Act.put]) A (n-(p+1)) (c-(p+1)) (ru (rs.drop (p+1))) (by simp[Act.eval,Act.put]) S1.out hnews.out S2.out (by omega) S3.out ?_)
 go_wp2_with fail;go_ret;refine⟨?_,?_,HBL.out⟩
 .have NH:=HPN.out
  simp only[NH];rfl
 .show World.ownsRow _ _ _ _ _ (rs.eraseIdx p).length _
  rw[HL.out];exact HF.out
def tO(a b:Mem):Int:=if nW [a] [b]=0 then(if a.name=b.name then 0 else 1) else nW [a] [b]
theorem yM(a b:ByteArray):(a.toList !=b.toList)=true↔a≠b:=by
 rw[bne_iff_ne,IZ,IZ];exact⟨λh e=>h (by rw[e]),λh e=>h (pW e)⟩
theorem vH(a b:Mem)(w:World)(ha:a.name.size<=Il)(hb:b.name.size<=Il) :
 ni 169 #[sh (AI ⟨w.heap.size+1+1+1+1+1+1,0,U⟩) 2 2]
  ((((((((w.alloc (Ib #[I a.name,O J a.state,O J a.nJ,O J a.addr,Ic a.server] 55)).alloc (Ib #[I b.name,O J b.state,O J b.nJ,O J b.addr,Ic b.server] 55)).alloc
    (Ib #[I a.name,O J a.state,O J a.nJ,O J a.addr,Ic a.server] 55)).alloc (Ib #[I a.name,O J a.state,O J a.nJ,O J a.addr,Ic a.server] 55)).alloc
    (Ib #[I b.name,O J b.state,O J b.nJ,O J b.addr,Ic b.server] 55)).alloc (Ib #[I b.name,O J b.state,O J b.nJ,O J b.addr,Ic b.server] 55)).alloc
    (Ib #[sh (AI ⟨w.heap.size+1+1+1,0,U⟩) 1 1,sh (AI ⟨w.heap.size+1+1+1+1+1,0,U⟩) 1 1] 22)).drew)
  λe w'=>e=Ia (O J (nW [a] [b]))/\Below (w.heap.size+1+1) ((w.alloc (Ib #[I a.name,O J a.state,O J a.nJ,O J a.addr,Ic a.server] 55)).alloc (Ib #[I b.name,O J b.state,O J b.nJ,O J b.addr,Ic b.server] 55)) w':=by
 obtain⟨A,hA⟩:∃A:Obj,A=Ib #[I a.name,O J a.state,O J a.nJ,O J a.addr,Ic a.server] 55:=⟨_,rfl⟩;obtain⟨B,hB⟩:∃B:Obj,B=Ib #[I b.name,O J b.state,O J b.nJ,O J b.addr,Ic b.server] 55:=⟨_,rfl⟩;obtain⟨Pq,hP⟩:∃P:Obj,P=Ib #[sh (AI ⟨w.heap.size+1+1+1,0,U⟩) 1 1,sh (AI ⟨w.heap.size+1+1+1+1+1,0,U⟩) 1 1] 22:=⟨_,rfl⟩;rw[<- hA,<- hB,<- hP];have rj:Below (w.heap.size+1+1) ((w.alloc A).alloc B) ((((((((w.alloc A).alloc B).alloc A).alloc A).alloc B).alloc B).alloc Pq).drew):=
  ((((((If _ _).alloc (by simp) A).alloc (by simp<;>omega) A).alloc (by simp<;>omega) B).alloc (by simp<;>omega) B).alloc (by simp<;>omega) Pq).drew
 have yu:((((((((w.alloc A).alloc B).alloc A).alloc A).alloc B).alloc B).alloc Pq).drew).heap[w.heap.size+1+1+1+1+1+1]?=AI Pq:=by
  have h:=Ii ((((((w.alloc A).alloc B).alloc A).alloc A).alloc B).alloc B) Pq;rw[show((((((w.alloc A).alloc B).alloc A).alloc A).alloc B).alloc B).heap.size=w.heap.size+1+1+1+1+1+1 by simp] at h;exact h
 have wY:((((((((w.alloc A).alloc B).alloc A).alloc A).alloc B).alloc B).alloc Pq).drew).heap[w.heap.size+1+1+1]?=AI A:=by
  have h1:=Ii (((w.alloc A).alloc B).alloc A) A;rw[show(((w.alloc A).alloc B).alloc A).heap.size=w.heap.size+1+1+1 by simp] at h1;have h2:=Iv ((((w.alloc A).alloc B).alloc A).alloc A) B (w.heap.size+1+1+1) (by simp);have h3:=Iv (((((w.alloc A).alloc B).alloc A).alloc A).alloc B) B (w.heap.size+1+1+1) (by simp<;>omega);have h4:=Iv ((((((w.alloc A).alloc B).alloc A).alloc A).alloc B).alloc B) Pq (w.heap.size+1+1+1) (by simp<;>omega);exact h4.trans (h3.trans (h2.trans h1))
 have Xm:((((((((w.alloc A).alloc B).alloc A).alloc A).alloc B).alloc B).alloc Pq).drew).heap[w.heap.size+1+1+1+1+1]?=AI B:=by
  have h1:=Ii (((((w.alloc A).alloc B).alloc A).alloc A).alloc B) B;rw[show(((((w.alloc A).alloc B).alloc A).alloc A).alloc B).heap.size=w.heap.size+1+1+1+1+1 by simp] at h1;have h4:=Iv ((((((w.alloc A).alloc B).alloc A).alloc A).alloc B).alloc B) Pq (w.heap.size+1+1+1+1+1) (by simp);exact h4.trans h1
 have od:((((((((w.alloc A).alloc B).alloc A).alloc A).alloc B).alloc B).alloc Pq).drew).heap.size=w.heap.size+1+1+1+1+1+1+1:=by simp
 generalize((((((((w.alloc A).alloc B).alloc A).alloc A).alloc B).alloc B).alloc Pq).drew)=W at *;have ao3:=yu.trans (congrArg AI hP);refine(qY [a] [b] _ _ _ 2 W (RO W _ 1 a ha (wY.trans (congrArg AI hA))) (RO W _ 1 b hb (Xm.trans (congrArg AI hB))) (by omega) (fi ao3 0) (fi ao3 1)).mono ?_;rintro e w' ⟨rfl,h⟩;exact⟨rfl,rj.trans (h.mono (by omega))⟩
theorem Tm(a b:Mem)(w:World)(ha:a.name.size<=Il)(hb:b.name.size<=Il)(aaj:nW [a] [b]≠0) :
 ni 122 #[Iu #[I a.name,O J a.state,O J a.nJ,O J a.addr,Ic a.server],Iu #[I b.name,O J b.state,O J b.nJ,O J b.addr,Ic b.server]] w
  λe w'=>e=Ia (Ir #[Ic (tO a b==0&&wJ a b),O J (tO a b)])/\Below w.heap.size w w':=by
 have nK:(nW [a] [b]!=0)=true:=by simpa using aaj
 have HE:Hid (tO a b=nW [a] [b]):=if_neg aaj;have HN:Hid (nW [a] [b]≠0):=aaj;clear aaj;go_enter func122,ntmps122;go_wp2_with fail;go_region_with (first|(go_at_call 170;refine(zC _ _ _ _ _ _).mono ?_;rintro e w' ⟨rfl,rfl⟩)|(go_at_call 169;refine(vH a b w ha hb).mono ?_;rintro e w1 ⟨rfl,mO⟩))
 all_goals
  go_wp2_with fail;go_ret2;refine⟨?_,?_⟩
  .rw[HE.out,show(nW [a] [b]==0)=false by simpa using HN.out];rfl
  .exact(((If _ _).alloc (By _) _).alloc (by simp) _).trans (mO.mono (by omega))
theorem NI(a b:Mem)(w:World)(ha:a.name.size<=Il)(hb:b.name.size<=Il)(h0:nW [a] [b]=0)(sg:a.name≠b.name) :
 ni 122 #[Iu #[I a.name,O J a.state,O J a.nJ,O J a.addr,Ic a.server],Iu #[I b.name,O J b.state,O J b.nJ,O J b.addr,Ic b.server]] w
  λe w'=>e=Ia (Ir #[Ic (tO a b==0&&wJ a b),O J (tO a b)])/\Below w.heap.size w w':=by
 have hz:(nW [a] [b]!=0)=false:=by simpa using h0
 have hn:(a.name.toList==b.name.toList)=false:=by have h:=(yM a.name b.name).2 sg;simpa using h
 have hn3:¬ a.name.toList=b.name.toList:=by simpa using hn
 have HE:Hid (tO a b=1):=(show tO a b=1 by rw[tO,if_pos h0,if_neg sg]);clear sg h0;go_enter func122,ntmps122;go_wp2_with fail;go_region_with (first|(go_at_call 170;refine(zC _ _ _ _ _ _).mono ?_;rintro e w' ⟨rfl,rfl⟩)|(go_at_call 169;refine(vH a b w ha hb).mono ?_;rintro e w1 ⟨rfl,mO⟩))
 all_goals
  have od:=mO.size;have rM:∀k o,k<w.heap.size+1+1->w1.cell? ⟨k,o,U⟩=((w.alloc (Ib #[I a.name,O J a.state,O J a.nJ,O J a.addr,Ic a.server] 55)).alloc (Ib #[I b.name,O J b.state,O J b.nJ,O J b.addr,Ic b.server] 55)).cell? ⟨k,o,U⟩:=λk o h=>mO.cell (p:=⟨k,o,U⟩) h;have hwl:w.heap.size<w.heap.size+1+1:=by omega
  have auN:w.heap.size+1<w.heap.size+1+1:=by omega
  go_wp2_with fail;go_ret2;refine⟨?_,?_⟩
  .rw[HE.out];rfl
  .exact(((If _ _).alloc (By _) _).alloc (by simp) _).trans (mO.mono (by omega))
theorem NJ(na:ByteArray)(sa la aa:Int)(va:Bool)(sb lb ab:Int)(vb:Bool)(w:World)(ha:na.size<=Il)(h0:nW [⟨na,sa,la,aa,va⟩] [⟨na,sb,lb,ab,vb⟩]=0) :
 ni 122 #[Iu #[I na,O J sa,O J la,O J aa,Ic va],Iu #[I na,O J sb,O J lb,O J ab,Ic vb]] w
  λe w'=>e=Ia (Ir #[Ic (CL sa la aa va sb lb ab vb),O J 0])/\Below w.heap.size w w':=by
 have hz:(nW [⟨na,sa,la,aa,va⟩] [⟨na,sb,lb,ab,vb⟩]!=0)=false:=by simpa using h0
 clear h0;go_enter func122,ntmps122;go_wp2_with fail;go_region_with (first|(go_at_call 170;refine(zC _ _ _ _ _ _).mono ?_;rintro e w' ⟨rfl,rfl⟩)|(go_at_call 169;refine(vH ⟨na,sa,la,aa,va⟩ ⟨na,sb,lb,ab,vb⟩ w ha ha).mono ?_;rintro e w1 ⟨rfl,mO⟩))
 all_goals
  have od:=mO.size;have rM:∀k o,k<w.heap.size+1+1->w1.cell? ⟨k,o,U⟩=((w.alloc (Ib #[I na,O J sa,O J la,O J aa,Ic va] 55)).alloc (Ib #[I na,O J sb,O J lb,O J ab,Ic vb] 55)).cell? ⟨k,o,U⟩:=λk o h=>mO.cell (p:=⟨k,o,U⟩) h;have hwl:w.heap.size<w.heap.size+1+1:=by omega
  have auN:w.heap.size+1<w.heap.size+1+1:=by omega
  go_wp2_with (go_at_call 171;refine(Kf _ _ _ _ _ _ _ _ _ _ _).mono ?_;rintro e w' ⟨rfl,rfl⟩);go_ret2;refine⟨rfl,?_⟩;have h0:=(((If w.heap.size w).alloc (By _) (Ib #[I na,O J sa,O J la,O J aa,Ic va] 55)).alloc (by simp) (Ib #[I na,O J sb,O J lb,O J ab,Ic vb] 55)).trans (mO.mono (by omega));exact(h0.alloc h0.size _).alloc (by have:=h0.size;simp;omega) _
theorem A0(a b:Mem)(w:World)(ha:a.name.size<=Il)(hb:b.name.size<=Il) :
 ni 122 #[Iu #[I a.name,O J a.state,O J a.nJ,O J a.addr,Ic a.server],Iu #[I b.name,O J b.state,O J b.nJ,O J b.addr,Ic b.server]] w
  λe w'=>e=Ia (Ir #[Ic (tO a b==0&&wJ a b),O J (tO a b)])/\Below w.heap.size w w':=by
 by_cases h0:nW [a] [b]=0
 .by_cases sg:a.name=b.name
  .have hE:tO a b=0:=by rw[tO,if_pos h0,if_pos sg]
   rw[hE];obtain⟨na,sa,la,aa,va⟩:=a;obtain⟨nb,sb,lb,ab,vb⟩:=b;simp only at sg;subst sg;exact NJ na sa la aa va sb lb ab vb w ha h0
  .exact NI a b w ha hb h0 sg
 .exact Tm a b w ha hb h0
end Go.Proofs.YtipbebleapjcjaaGreatDoor
namespace Go.Proofs.YtipbebleapjcjaaGreatDoor
open Go.RowKit Go.WideMaps Go.Maps
theorem ue{rs:List nQ}(h:o5 rs=0):rs.length<=20/\(∀j,j<rs.length->(rs.getD j dr).m.e=0)/\sL rs/\qG rs:=by
 unfold o5 at h;by_cases h1:20<rs.length
 .rw[if_pos h1] at h;omega
 rw[if_neg h1] at h;by_cases h2:nt (Ay rs)=0
 .rw[if_pos h2] at h
  by_cases h3:sL rs
  .rw[if_pos h3] at h
   by_cases h4:qG rs
   .refine⟨by omega,λj hj=>?_,h3,h4⟩
    have:=Fs h2 j (by rw[CO];exact hj)
    rwa [xh] at this
   .rw[if_neg h4] at h;omega
  .rw[if_neg h3] at h;omega
 .rw[if_neg h2] at h;exact absurd h h2
theorem Kw{a b:Mem}(ha:a.e=0)(hb:b.e=0)(hn:a.name=b.name):tO a b=0:=by
 have h:nW [a] [b]=0:=by rw[nW,vC,vC];simp[ha,hb]
 rw[tO,if_pos h,if_pos hn]
theorem adK(rs:List nQ)(v:Value)(m:Mem)(w:World)(hv:yd w v rs)(hm:m.name.size<=Il)(h0:o5 rs=0)(he:m.e=0)(tY:V9 rs m.name)(hl:rs.length=20) :
 Calls AT 195 #[v,Iu #[I m.name,O J m.state,O J m.nJ,O J m.addr,Ic m.server]] w λe w'=>e=Ia (Ir #[sh U 0 0,O J 2])/\Below w.heap.size w w':=by
 obtain⟨i0,qg,oS,so,sf⟩:=Jc Tryz.Kl;have HV:Hid (yd w v rs):=hv;have vE:=λ(w:World) (h:yd w v rs)=>sP rs v w h;rw[h0] at vE;have qw:=λw=>rq m w hm;rw[he] at qw;have HH:Hid _:=Wa tY;clear h0 he hv;obtain⟨nm,st,lf,ad,sv⟩:=m;simp only at *;have zZ:Below w.heap.size w (w.alloc (Ib #[I nm,O J st,O J lf,O J ad,Ic sv] 55)):=(If _ _).alloc (By _) _;go_enter func195,ntmps195;go_wp2_with fail;refine(vE _ (HV.out.below zZ)).mono ?_;rintro e w1 ⟨rfl,mO⟩;have c1:∀o,w1.cell? ⟨w.heap.size,o,U⟩=#[I nm,O J st,O J lf,O J ad,Ic sv][o]?:=λo=>by
  rw[mO.cell (p:=⟨w.heap.size,o,U⟩) (by simp)];exact oP rfl
 have mY:Hid _:=zZ.trans (mO.mono (by simp));have pC:w.heap.size<w1.heap.size:=by have:=mO.size;simp at this;omega
 clear mO zZ vE;go_wp2_with fail;refine(qw _).mono ?_;rintro e w2 ⟨rfl,mZ⟩;have c2:∀o,w2.cell? ⟨w.heap.size,o,U⟩=#[I nm,O J st,O J lf,O J ad,Ic sv][o]?:=λo=>by
  rw[mZ.cell (p:=⟨w.heap.size,o,U⟩) (by simp only;omega)];exact c1 o
 have nR:Hid _:=mY.out.trans (mZ.mono mY.out.size);have xC:w.heap.size<w2.heap.size:=by have:=mZ.size;omega
 clear mZ c1 pC mY qw;go_wp2_with fail;refine(sQ rs v _ (HV.out.below nR.out) (by omega)).mono ?_;rintro e w3 ⟨v3,rfl,AR,nC⟩;have tQ:Hid (oE _ _ _ _):=AR;have c3:w3.cell? ⟨w.heap.size,0,U⟩=AI (I nm):=by
  rw[nC.cell (p:=⟨w.heap.size,0,U⟩) (by simp only;omega)];exact c2 0
 have C3:Hid (∀o,w3.cell? ⟨w.heap.size,o,U⟩=#[I nm,O J st,O J lf,O J ad,Ic sv][o]?):=λo=>by
  rw[nC.cell (p:=⟨w.heap.size,o,U⟩) (by simp only;omega)];exact c2 o
 have oT:Hid _:=nR.out.trans (nC.mono nR.out.size);have zV:w.heap.size<w3.heap.size:=by have:=nC.size;omega
 have ak5:=nC.size;clear nC AR c2;go_wp2_with fail;go_region_held3 (λw'=>w'.cell? ⟨w.heap.size,0,U⟩=AI (I nm)) (first|assumption|go_keep) (first|(go_at_call 109;refine(BL rs v _ ((HV.out.below oT.out).below (If _ _).drew) (by omega)).mono ?_;rintro e w4 ⟨rfl,hown,qA⟩;obtain⟨cq,tP,qi⟩:=BN hown hm;rw[HH.out] at tP;have Bk:(Instr.lookup 164 (.map (AI w3.heap.size)) (I nm) true).run AT w4=.ok (Ir #[O J cq,Ic false]) w4:=tP;clear tP qi hown;have qP:Hid (Below w3.heap.size w3 w4):=(If w3.heap.size w3).drew.trans qA;have hS:w4.cell? ⟨w.heap.size,0,U⟩=AI (I nm):=((qA.cell (p:=⟨w.heap.size,0,U⟩) zV).trans c3);clear qA))
 obtain⟨a3,XX,SZ⟩:=tQ.out.slice;subst SZ;have qB:Hid _:=oT.out.trans (qP.out.mono oT.out.size);clear tQ C3 qP oT c3 Bk;rw[hl];go_wp2_with fail;go_ret2;exact⟨rfl,qB.out⟩
theorem ahj(rs:List nQ)(v:Value)(m:Mem)(w:World)(hv:yd w v rs)(hm:m.name.size<=Il)(h0:o5 rs=0)(he:m.e=0)(p:Nat)(hp:p<rs.length)(NH:(rs.getD p dr).m.name=m.name)(ald:wJ m (rs.getD p dr).m=false) :
 Calls AT 195 #[v,Iu #[I m.name,O J m.state,O J m.nJ,O J m.addr,Ic m.server]] w λe w'=>∃v',e=Ia (Ir #[v',O J 0])/\oE w.heap.size w' v' rs/\Below w.heap.size w w':=by
 obtain⟨i0,qg,oS,so,sf⟩:=Jc Tryz.Kl;have HV:Hid (yd w v rs):=hv;have vE:=λ(w:World) (h:yd w v rs)=>sP rs v w h;rw[h0] at vE;have qw:=λw=>rq m w hm;rw[he] at qw;have HH:Hid (Maps.has (Dm (rB rs) rs.length) (kS m.name)=true):=(Cs _ _ _).2 ⟨p,hp,by rw[pF];exact NH⟩;have vu:Hid ((Dm (rB rs) rs.length).atKey (kS m.name) (.lit (.int J 0))=.lit (.int J p)):=acm _ _ _ _ p hp (by rw[pF];exact NH) (λi hi hk=>by rw[pF,<- NH];exact λe=>(ue h0).2.2.2 p i hi hk e.symm);have zY:=(ue h0).1;have HEP:Hid _:=(ue h0).2.1 p hp;have hnp:(rs.getD p dr).m.name.size<=Il:=by obtain⟨_,_,_,h,_⟩:=hv;exact h p
 have HN0:Hid _:=Kw he HEP.out NH.symm;clear h0 he hv HEP;obtain⟨nm,st,lf,ad,sv⟩:=m;simp only at *;have zZ:Below w.heap.size w (w.alloc (Ib #[I nm,O J st,O J lf,O J ad,Ic sv] 55)):=(If _ _).alloc (By _) _;go_enter func195,ntmps195;go_wp2_with fail;refine(vE _ (HV.out.below zZ)).mono ?_;rintro e w1 ⟨rfl,mO⟩;have c1:∀o,w1.cell? ⟨w.heap.size,o,U⟩=#[I nm,O J st,O J lf,O J ad,Ic sv][o]?:=λo=>by
  rw[mO.cell (p:=⟨w.heap.size,o,U⟩) (by simp)];exact oP rfl
 have mY:Hid _:=zZ.trans (mO.mono (by simp));have pC:w.heap.size<w1.heap.size:=by have:=mO.size;simp at this;omega
 clear mO zZ vE;go_wp2_with fail;refine(qw _).mono ?_;rintro e w2 ⟨rfl,mZ⟩;have c2:∀o,w2.cell? ⟨w.heap.size,o,U⟩=#[I nm,O J st,O J lf,O J ad,Ic sv][o]?:=λo=>by
  rw[mZ.cell (p:=⟨w.heap.size,o,U⟩) (by simp only;omega)];exact c1 o
 have nR:Hid _:=mY.out.trans (mZ.mono mY.out.size);have xC:w.heap.size<w2.heap.size:=by have:=mZ.size;omega
 clear mZ c1 pC mY qw;go_wp2_with fail;refine(sQ rs v _ (HV.out.below nR.out) (by omega)).mono ?_;rintro e w3 ⟨v3,rfl,AR,nC⟩;have tQ:Hid (oE _ _ _ _):=AR;have c3:w3.cell? ⟨w.heap.size,0,U⟩=AI (I nm):=by
  rw[nC.cell (p:=⟨w.heap.size,0,U⟩) (by simp only;omega)];exact c2 0
 have C3:Hid (∀o,w3.cell? ⟨w.heap.size,o,U⟩=#[I nm,O J st,O J lf,O J ad,Ic sv][o]?):=λo=>by
  rw[nC.cell (p:=⟨w.heap.size,o,U⟩) (by simp only;omega)];exact c2 o
 have oT:Hid _:=nR.out.trans (nC.mono nR.out.size);have zV:w.heap.size<w3.heap.size:=by have:=nC.size;omega
 have ak5:=nC.size;clear nC AR c2;go_wp2_with fail;go_region_held3 (λw'=>w'.cell? ⟨w.heap.size,0,U⟩=AI (I nm)) (first|assumption|go_keep) (first|(go_at_call 109;refine(BL rs v _ ((HV.out.below oT.out).below (If _ _).drew) (by omega)).mono ?_;rintro e w4 ⟨rfl,hown,qA⟩;obtain⟨cq,tP,qi⟩:=BN hown hm;rw[HH.out] at tP;rw[vu.out] at qi;have hcq:cq=p:=(by simp at qi;exact qi.symm);subst hcq;have Bk:(Instr.lookup 164 (.map (AI w3.heap.size)) (I nm) true).run AT w4=.ok (Ir #[O J p,Ic true]) w4:=tP;clear tP qi hown;have qP:Hid (Below w3.heap.size w3 w4):=(If w3.heap.size w3).drew.trans qA;have hS:w4.cell? ⟨w.heap.size,0,U⟩=AI (I nm):=((qA.cell (p:=⟨w.heap.size,0,U⟩) zV).trans c3);clear qA))
 obtain⟨a3,XX,SZ⟩:=tQ.out.slice;subst SZ;have C4:∀o,w4.cell? ⟨w.heap.size,o,U⟩=#[I nm,O J st,O J lf,O J ad,Ic sv][o]?:=λo=>by
  rw[qP.out.cell (p:=⟨w.heap.size,o,U⟩) zV];exact C3.out o
 have Cm:Hid (oE _ _ _ _):=tQ.out.below qP.out;have qB:Hid _:=oT.out.trans (qP.out.mono oT.out.size);have uJ:w2.heap.size<=w4.heap.size:=by have:=qP.out.size;omega
 have HV4:Hid (yd w4 v rs):=HV.out.below qB.out;clear tQ C3 qP oT c3 Bk HV;obtain⟨pa,ca,yq,_,pO⟩:=HV4.out;subst yq;obtain⟨b,off,Tn,MR,hr⟩:∃b off,pa=AI ⟨b,off,U⟩/\b<w4.heap.size/\vU w4 b off rs:=by
  rcases pO with h|h
  .rw[h] at hp;simp at hp
  .exact h
 subst Tn;obtain⟨e0,e1,e2,e3,e4,e5⟩:=hr p hp;have hN:=λw=>A0 ⟨nm,st,lf,ad,sv⟩ (rs.getD p dr).m w hm hnp;rw[HN0.out,ald] at hN;simp only[beq_self_eq_true,Bool.true_and] at hN;clear pO hr HV4;generalize(rs.getD p dr)=rp at *;obtain⟨⟨yn,ys,yl,ya,yv⟩,ytd⟩:=rp;simp only at e0 e1 e2 e3 e4 e5 hN NH;have ale:=NH.symm;clear NH;subst ale;generalize hN':rs.length=n at *;have HN:Hid _:=hN';clear hN';go_wp2_with fail;have E0:=Im (C4 0);have E1:=Im (C4 1);have E2:=Im (C4 2);have E3:=Im (C4 3);have E4:=Im (C4 4);have F0:=Im e0;have F1:=Im e1;have F2:=Im e2;have F3:=Im e3;have F4:=Im e4;have cN:∀d os,Calls AT 122 #[Iu #[I nm,O J st,O J lf,O J ad,Ic sv],Iu #[I nm,O J ys,O J yl,O J ya,Ic yv]] (Is (IG w4 d) os) λe DQ=>e=Ia (Ir #[Ic false,O J 0])/\∃p:Regrown,DQ=Is (IG w4 p.d) p.os:=λd os=>
  Calls.regrown_of ((hN _).mono (by rintro e w' ⟨rfl,hb⟩;exact⟨rfl,hb⟩))
 clear e0 e1 e2 e3 e4 e5 hN;refine IX (by kernel_rfl) (by kernel_rfl) ?_;repeat(quiet_step (exact cN _ _))
 refine oK λdq yx tB=>?_;clear cN E0 E1 E2 E3 E4 F0 F1 F2 F3 F4;have Bl:Hid (oE w.heap.size (Is (IG w4 dq) yx) (sh a3 n XX) rs):=(Cm.out.below tB.out).base (by omega);have tq:Hid _:=qB.out.trans (tB.out.mono qB.out.size);clear Cm tB;go_wp2_with fail;go_ret2;exact⟨_,rfl,Bl.out,tq.out⟩
theorem aak(rs:List nQ)(v:Value)(m:Mem)(w:World)(hv:yd w v rs)(hm:m.name.size<=Il)(h0:o5 rs=0)(he:m.e=0)(p:Nat)(hp:p<rs.length)(NH:(rs.getD p dr).m.name=m.name)(ald:wJ m (rs.getD p dr).m=true) :
 Calls AT 195 #[v,Iu #[I m.name,O J m.state,O J m.nJ,O J m.addr,Ic m.server]] w λe w'=>∃v',e=Ia (Ir #[v',O J 0])/\oE w.heap.size w' v' (rs.eraseIdx p++[⟨m,0⟩])/\Below w.heap.size w w':=by
 obtain⟨i0,qg,oS,so,sf⟩:=Jc Tryz.Kl;have HV:Hid (yd w v rs):=hv;have vE:=λ(w:World) (h:yd w v rs)=>sP rs v w h;rw[h0] at vE;have qw:=λw=>rq m w hm;rw[he] at qw;have HH:Hid (Maps.has (Dm (rB rs) rs.length) (kS m.name)=true):=(Cs _ _ _).2 ⟨p,hp,by rw[pF];exact NH⟩;have vu:Hid ((Dm (rB rs) rs.length).atKey (kS m.name) (.lit (.int J 0))=.lit (.int J p)):=acm _ _ _ _ p hp (by rw[pF];exact NH) (λi hi hk=>by rw[pF,<- NH];exact λe=>(ue h0).2.2.2 p i hi hk e.symm);have zY:=(ue h0).1;have HEP:Hid _:=(ue h0).2.1 p hp;have hnp:(rs.getD p dr).m.name.size<=Il:=by obtain⟨_,_,_,h,_⟩:=hv;exact h p
 have HN0:Hid _:=Kw he HEP.out NH.symm;clear h0 he hv HEP;obtain⟨nm,st,lf,ad,sv⟩:=m;simp only at *;have zZ:Below w.heap.size w (w.alloc (Ib #[I nm,O J st,O J lf,O J ad,Ic sv] 55)):=(If _ _).alloc (By _) _;go_enter func195,ntmps195;go_wp2_with fail;refine(vE _ (HV.out.below zZ)).mono ?_;rintro e w1 ⟨rfl,mO⟩;have c1:∀o,w1.cell? ⟨w.heap.size,o,U⟩=#[I nm,O J st,O J lf,O J ad,Ic sv][o]?:=λo=>by
  rw[mO.cell (p:=⟨w.heap.size,o,U⟩) (by simp)];exact oP rfl
 have mY:Hid _:=zZ.trans (mO.mono (by simp));have pC:w.heap.size<w1.heap.size:=by have:=mO.size;simp at this;omega
 clear mO zZ vE;go_wp2_with fail;refine(qw _).mono ?_;rintro e w2 ⟨rfl,mZ⟩;have c2:∀o,w2.cell? ⟨w.heap.size,o,U⟩=#[I nm,O J st,O J lf,O J ad,Ic sv][o]?:=λo=>by
  rw[mZ.cell (p:=⟨w.heap.size,o,U⟩) (by simp only;omega)];exact c1 o
 have nR:Hid _:=mY.out.trans (mZ.mono mY.out.size);have xC:w.heap.size<w2.heap.size:=by have:=mZ.size;omega
 clear mZ c1 pC mY qw;go_wp2_with fail;refine(sQ rs v _ (HV.out.below nR.out) (by omega)).mono ?_;rintro e w3 ⟨v3,rfl,AR,nC⟩;have tQ:Hid (oE _ _ _ _):=AR;have c3:w3.cell? ⟨w.heap.size,0,U⟩=AI (I nm):=by
  rw[nC.cell (p:=⟨w.heap.size,0,U⟩) (by simp only;omega)];exact c2 0
 have C3:Hid (∀o,w3.cell? ⟨w.heap.size,o,U⟩=#[I nm,O J st,O J lf,O J ad,Ic sv][o]?):=λo=>by
  rw[nC.cell (p:=⟨w.heap.size,o,U⟩) (by simp only;omega)];exact c2 o
 have oT:Hid _:=nR.out.trans (nC.mono nR.out.size);have zV:w.heap.size<w3.heap.size:=by have:=nC.size;omega
 have ak5:=nC.size;clear nC AR c2;go_wp2_with fail;go_region_held3 (λw'=>w'.cell? ⟨w.heap.size,0,U⟩=AI (I nm)) (first|assumption|go_keep) (first|(go_at_call 109;refine(BL rs v _ ((HV.out.below oT.out).below (If _ _).drew) (by omega)).mono ?_;rintro e w4 ⟨rfl,hown,qA⟩;obtain⟨cq,tP,qi⟩:=BN hown hm;rw[HH.out] at tP;rw[vu.out] at qi;have hcq:cq=p:=(by simp at qi;exact qi.symm);subst hcq;have Bk:(Instr.lookup 164 (.map (AI w3.heap.size)) (I nm) true).run AT w4=.ok (Ir #[O J p,Ic true]) w4:=tP;clear tP qi hown;have qP:Hid (Below w3.heap.size w3 w4):=(If w3.heap.size w3).drew.trans qA;have hS:w4.cell? ⟨w.heap.size,0,U⟩=AI (I nm):=((qA.cell (p:=⟨w.heap.size,0,U⟩) zV).trans c3);clear qA))
 obtain⟨a3,XX,SZ⟩:=tQ.out.slice;subst SZ;have C4:∀o,w4.cell? ⟨w.heap.size,o,U⟩=#[I nm,O J st,O J lf,O J ad,Ic sv][o]?:=λo=>by
  rw[qP.out.cell (p:=⟨w.heap.size,o,U⟩) zV];exact C3.out o
 have Cm:Hid (oE _ _ _ _):=tQ.out.below qP.out;have qB:Hid _:=oT.out.trans (qP.out.mono oT.out.size);have uJ:w2.heap.size<=w4.heap.size:=by have:=qP.out.size;omega
 have HV4:Hid (yd w4 v rs):=HV.out.below qB.out;clear tQ C3 qP oT c3 Bk HV;obtain⟨pa,ca,yq,_,pO⟩:=HV4.out;subst yq;obtain⟨b,off,Tn,MR,hr⟩:∃b off,pa=AI ⟨b,off,U⟩/\b<w4.heap.size/\vU w4 b off rs:=by
  rcases pO with h|h
  .rw[h] at hp;simp at hp
  .exact h
 subst Tn;obtain⟨e0,e1,e2,e3,e4,e5⟩:=hr p hp;have hN:=λw=>A0 ⟨nm,st,lf,ad,sv⟩ (rs.getD p dr).m w hm hnp;rw[HN0.out,ald] at hN;simp only[beq_self_eq_true,Bool.true_and] at hN;clear pO hr HV4;generalize(rs.getD p dr)=rp at *;obtain⟨⟨yn,ys,yl,ya,yv⟩,ytd⟩:=rp;simp only at e0 e1 e2 e3 e4 e5 hN NH;have ale:=NH.symm;clear NH;subst ale;generalize hN':rs.length=n at *;have HN:Hid _:=hN';clear hN';go_wp2_with fail;have E0:=Im (C4 0);have E1:=Im (C4 1);have E2:=Im (C4 2);have E3:=Im (C4 3);have E4:=Im (C4 4);have F0:=Im e0;have F1:=Im e1;have F2:=Im e2;have F3:=Im e3;have F4:=Im e4;have cN:∀d os,Calls AT 122 #[Iu #[I nm,O J st,O J lf,O J ad,Ic sv],Iu #[I nm,O J ys,O J yl,O J ya,Ic yv]] (Is (IG w4 d) os) λe DQ=>e=Ia (Ir #[Ic true,O J 0])/\∃p:Regrown,DQ=Is (IG w4 p.d) p.os:=λd os=>
  Calls.regrown_of ((hN _).mono (by rintro e w' ⟨rfl,hb⟩;exact⟨rfl,hb⟩))
 clear e0 e1 e2 e3 e4 e5 hN;refine IX (by kernel_rfl) (by kernel_rfl) ?_;repeat(quiet_step (exact cN _ _))
 refine oK λdq yx tB=>?_;clear cN E0 E1 E2 E3 E4 F0 F1 F2 F3 F4;obtain⟨g,c,ha3,hc3⟩:∃g c,a3=AI ⟨g,0,U⟩/\XX=c:=by
  rcases Cm.out.2 with⟨_,h0⟩|⟨g,c,cur,h,_⟩
  .have:=HN.out;omega
  .simp only[IM] at h
   exact⟨g,c,h.1,h.2.2⟩
 subst ha3;subst hc3;have Bl:Hid (oE _ _ _ _):=Cm.out.below tB.out;have tq:Hid _:=qB.out.trans (tB.out.mono qB.out.size);have C6:∀o,(Is (IG w4 dq) yx).cell? ⟨w.heap.size,o,U⟩=#[I nm,O J st,O J lf,O J ad,Ic sv][o]?:=λo=>by
  rw[tB.out.cell (p:=⟨w.heap.size,o,U⟩) (by simp only;omega)];exact C4 o
 have hz6:w2.heap.size<=(Is (IG w4 dq) yx).heap.size:=by have:=tB.out.size;omega
 clear Cm tB C4;generalize Is (IG w4 dq) yx=w6 at *;go_wp2_with fail;refine(Tl rs n p g XX w2.heap.size _ HN.out Bl.out hp (by omega)).mono ?_;rintro e w7 ⟨rfl,ho7,Bj⟩;have C7:∀o,w7.cell? ⟨w.heap.size,o,U⟩=#[I nm,O J st,O J lf,O J ad,Ic sv][o]?:=λo=>by
  rw[Bj.cell (p:=⟨w.heap.size,o,U⟩) (by simp only;omega)];exact C6 o
 have SO:Hid _:=tq.out.trans (Bj.mono (by omega));have hz7:w2.heap.size<=w7.heap.size:=by have:=Bj.size;omega
 have HLE:Hid ((rs.eraseIdx p).length=n-1):=(show(rs.eraseIdx p).length=n-1 by rw[List.length_eraseIdx,if_pos (by rw[HN.out];exact hp),HN.out]);have HO8:Hid (∀ob,(w7.alloc ob).ownsRow w2.heap.size 57 6 (sh (AI ⟨g,0,U⟩) (n-1) XX) (n-1) (ru (rs.eraseIdx p))):=λob=>by
  have h:=oE.below (ms:=rs.eraseIdx p) ho7 ((If _ _).alloc (By _) ob);have h2:(w7.alloc ob).ownsRow w2.heap.size 57 6 (sh (AI ⟨g,0,U⟩) (n-1) XX) (rs.eraseIdx p).length (ru (rs.eraseIdx p)):=h;rw[HLE.out] at h2;exact h2
 have Mq:Hid (∀k,(Value.slice (AI ⟨g,0,U⟩) (n-1) XX).ownBlock=AI k->w.heap.size<=k):=λk hk=>by have:=(oE.lt (ms:=rs.eraseIdx p) ho7 k hk).1;omega
 have HSN:Hid (∀(w':World) (v':Value),w'.ownsRow w2.heap.size 57 6 v' (n-1+1) (ru (rs.eraseIdx p)++(nQ.mk ⟨nm,st,lf,ad,sv⟩ 0).cs)->oE w.heap.size w' v' (rs.eraseIdx p++[⟨⟨nm,st,lf,ad,sv⟩,0⟩])):=λw' v' h=>(Kk (by rw[HLE.out];exact h)).base (by omega);have aCE:n-1<=19:=by omega
 clear Bj ho7 C6 tq Bl HLE;generalize hn1:n-1=n1 at *;clear hn1;go_wp2_with (at_builtin;refine wpList_append_own _ rfl _ _ 23 rfl w2.heap.size 57 i0 _ 6 56 OC qg oS so sf rfl (by omega) _ n1 (ru (rs.eraseIdx p)) rfl ?hown ⟨w7.heap.size,0,U⟩ 1 1 (nQ.mk ⟨nm,st,lf,ad,sv⟩ 0).cs rfl rfl ?hnews (Lt _) ?h63 ?hbytes ?hbase ?_)
 case hown=>exact HO8.out _
 case hnews=>(intro j u hj;rw[Addr.add_lit];exact(oP (by simp)).trans (by simpa[nQ.cs] using hj))
 case h63=>(unfold Il;omega)
 case hbytes=>omega
 case hbase=>(simp;omega)
 intro v' w8 r1 r2 r3;have R1:Hid (oE _ _ _ _):=HSN.out w8 v' r1;have R2:Hid _:=(SO.out.alloc SO.out.size _).grown r2 (by have:=SO.out.size;simp;omega) (λk hk=>Mq.out k hk);clear r1 r2 r3;go_wp2_with fail;go_ret2;exact⟨v',rfl,R1.out,R2.out⟩
theorem Lz{P:Prop}(h:P:=by
 rcases HA.out with h|h
 .have:=HN.out;rw[h] at this;simp at this;omega
 .exact h):P:=h
theorem xl(a b:ByteArray):(a.toList==b.toList)=decide (a=b):=by
 by_cases h:a=b
 .subst h;simp
 .have h2:¬ a.toList=b.toList:=λe=>h (pW (by rw[IZ,IZ] at e;exact e))
  simp[h,h2]
theorem Ea(rs:List nQ)(v:Value)(w:World)(hv:yd w v rs) :
 Calls AT 13 #[v] w λe w'=>e=Ia (O J (o5 rs))/\Below w.heap.size w w':=by
 obtain⟨pa,ca,rfl,od,ha⟩:=hv;by_cases hmany:20<rs.length
 .have HE:Hid (o5 rs=2):=Kh hmany
  go_enter func13,ntmps13;go_wp2_with fail;go_ret;exact⟨mN HE.out.symm,If _ _⟩
 have HA:Hid _:=ha;have HS:Hid (∀j,(rs.getD j dr).m.name.size<=Il):=od;clear ha od;generalize hN:rs.length=n at *;have HN:Hid (rs.length=n):=hN;clear hN;have zY:n<=20:=by omega
 go_enter func13,ntmps13;go_wp2;go_loopw [3] (λi wr=>∃k:Nat,k<=n/\i=O J k/\Hid (∀j,j<k->(rs.getD j dr).m.e=0)/\Hid (Below w.heap.size w wr))
  (λi _=>n-(intOf i).toNat)
 case atStart=>exact⟨0,Iw _,rfl,λj hj=>by omega,If _ _⟩
 case round=>
  obtain⟨k,hk,rfl,HZ,HB⟩:=hrel;by_cases mS:k<n
  .obtain⟨b,off,hp,hl,hr⟩:∃b off,pa=AI ⟨b,off,U⟩/\b<w.heap.size/\vU w b off rs:=by
    exact Lz
   subst hp;obtain⟨c0,c1,c2,c3,c4,c5⟩:=hr.below HB.out hl k (by rw[HN.out];exact mS);have sg:=HS.out k;have HX:Hid ((rs.getD k dr).m.e≠0->o5 rs=(rs.getD k dr).m.e):=λh=>Nq (by rw[HN.out];exact zY) (by rw[HN.out];exact mS) HZ.out h;have o6:Hid ((rs.getD k dr).m.e=0->∀j,j<k+1->(rs.getD j dr).m.e=0):=λh j hj=>by
    by_cases e:j=k
    .subst e;exact h
    .exact HZ.out j (by omega)
   generalize(rs.getD k dr)=rk at *;obtain⟨⟨nm,st,lf,ad,sv⟩,td⟩:=rk;simp only at c0 c1 c2 c3 c4 c5 sg HX o6;simp only[Mem.e] at HX o6;clear hr HZ;go_wp2_with fail;refine(wI nm st lf ad sv _ sg).mono ?_;rintro e w1 ⟨rfl,rfl⟩;have mY:Hid (Below w.heap.size w (wr.alloc (Ib #[I nm,O J st,O J lf,O J ad,Ic sv] 55))):=HB.out.alloc HB.out.size _;clear c0 c1 c2 c3 c4 c5 HB;by_cases he:uA nm st lf ad=0
   .have Am:(uA nm st lf ad !=0)=false:=by simpa using he
    have tu:Hid (∀j,j<k+1->(rs.getD j dr).m.e=0):=o6.out he;clear HX o6 he;go_wp2_with fail;go_roundw
    case rel=>exact⟨k+1,by omega,by go_num,tu,mY⟩
    case measure=>simp[intOf];omega
   .have Am:(uA nm st lf ad !=0)=true:=by simpa using he
    have HE:Hid (o5 rs=uA nm st lf ad):=HX.out he;clear HX o6 he;go_wp2_with fail;go_ret;exact⟨mN HE.out.symm,mY.out⟩
  .have HZA:Hid (∀j,j<rs.length->(rs.getD j dr).m.e=0):=λj hj=>HZ.out j (by rw[HN.out] at hj;omega)
   clear HZ;go_wp2_with fail;go_loopw [5] (λi wr=>∃k:Nat,k<=n/\i=O J k/\Hid (∀j,j<k->within (rs.getD j dr).told 0 100=true)/\Hid (Below w.heap.size w wr))
    (λi _=>n-(intOf i).toNat)
   case atStart=>exact⟨0,Iw _,rfl,λj hj=>by omega,HB⟩
   case round=>
    clear HB mS hk;obtain⟨k2,hk,rfl,HZ,HB⟩:=hrel;by_cases mS:k2<n
    .obtain⟨b,off,hp,hl,hr⟩:∃b off,pa=AI ⟨b,off,U⟩/\b<w.heap.size/\vU w b off rs:=by
      exact Lz
     subst hp;obtain⟨c0,c1,c2,c3,c4,c5⟩:=hr.below HB.out hl k2 (by rw[HN.out];exact mS);have HX:Hid (within (rs.getD k2 dr).told 0 100=false->o5 rs=3):=λh=>Ki (by rw[HN.out];exact zY) HZA.out (by rw[HN.out];exact mS) h;have o6:Hid (within (rs.getD k2 dr).told 0 100=true->∀j,j<k2+1->within (rs.getD j dr).told 0 100=true):=λh j hj=>by
      by_cases e:j=k2
      .subst e;exact h
      .exact HZ.out j (by omega)
     generalize(rs.getD k2 dr)=rk at *;obtain⟨⟨nm,st,lf,ad,sv⟩,td⟩:=rk;simp only at c0 c1 c2 c3 c4 c5 HX o6;clear hr HZ;rcases ht:within td 0 100 with _|_
     .have HE:Hid (o5 rs=3):=HX.out ht
      clear HX o6;go_wp2_with (go_at_call 37;refine(nN _ _ _ _).mono ?_;rintro e w' ⟨rfl,rfl⟩;rw[ht]);go_ret;exact⟨mN HE.out.symm,HB.out⟩
     .have tu:Hid (∀j,j<k2+1->within (rs.getD j dr).told 0 100=true):=o6.out ht
      clear HX o6;go_wp2_with (go_at_call 37;refine(nN _ _ _ _).mono ?_;rintro e w' ⟨rfl,rfl⟩;rw[ht]);go_roundw
      case rel=>exact⟨k2+1,by omega,by go_num,tu,HB⟩
      case measure=>simp[intOf];omega
    .have HTA:Hid (sL rs):=λj hj=>HZ.out j (by rw[HN.out] at hj;omega)
     clear HZ;go_wp2_with fail;go_loopw [6] (λi wr=>∃k:Nat,k<=n/\i=O J k/\Hid (∀a b,a<b->b<k->(rs.getD a dr).m.name≠(rs.getD b dr).m.name)/\Hid (Below w.heap.size w wr))
      (λi _=>n-(intOf i).toNat)
     case atStart=>exact⟨0,Iw _,rfl,λa b _ hb=>by omega,HB⟩
     case round=>
      clear HB mS hk;obtain⟨k3,hk,rfl,HZ,HB⟩:=hrel;by_cases mS:k3<n
      .obtain⟨b,off,hp,hl,hr⟩:∃b off,pa=AI ⟨b,off,U⟩/\b<w.heap.size/\vU w b off rs:=by
        exact Lz
       subst hp;have HR:Hid (vU w b off rs):=hr;clear hr;go_wp2_with fail;go_loopw [7] (λi wr=>∃k:Nat,k<=k3/\i=O J k/\Hid (∀a,a<k->(rs.getD a dr).m.name≠(rs.getD k3 dr).m.name)/\Hid (Below w.heap.size w wr))
        (λi _=>k3-(intOf i).toNat)
       case atStart=>exact⟨0,Iw _,rfl,λa ha=>by omega,HB⟩
       case round=>
        clear HB hk;obtain⟨k4,hk4,rfl,HY,HB⟩:=hrel;by_cases ao8:k4<k3
        .obtain⟨c0,_,_,_,_,_⟩:=HR.out.below HB.out hl k4 (by rw[HN.out];omega)
         obtain⟨d0,_,_,_,_,_⟩:=HR.out.below HB.out hl k3 (by rw[HN.out];exact mS);have HX:Hid ((rs.getD k4 dr).m.name=(rs.getD k3 dr).m.name->o5 rs=6):=λh=>Ft (by rw[HN.out];exact zY) HZA.out HTA.out (λhd=>hd k4 k3 ao8 (by rw[HN.out];exact mS) h);have HY2:Hid ((rs.getD k4 dr).m.name≠(rs.getD k3 dr).m.name->∀a,a<k4+1->(rs.getD a dr).m.name≠(rs.getD k3 dr).m.name):=λh a ha=>by
          by_cases e:a=k4
          .subst e;exact h
          .exact HY.out a (by omega)
         have hbq:=xl (rs.getD k4 dr).m.name (rs.getD k3 dr).m.name;clear HY HZ;generalize(rs.getD k4 dr).m.name=x4 at *;generalize(rs.getD k3 dr).m.name=x3 at *;by_cases hx:x4=x3
         .have HE:Hid (o5 rs=6):=HX.out hx
          subst hx;clear HX HY2 hbq;go_wp2_with fail;go_quiet (fail)
          go_wp2_with fail;go_ret;exact⟨mN HE.out.symm,below_drewN HB.out _⟩
         .have HY3:Hid (∀a,a<k4+1->(rs.getD a dr).m.name≠x3):=HY2.out hx
          rw[decide_eq_false hx] at hbq;clear HX HY2 hx;go_wp2_with fail;go_quiet (fail)
          go_wp2_with fail;exact⟨⟨k4+1,by omega,by go_num,HY3,below_drewN HB.out _⟩,by simp[intOf];omega⟩
        .have tu:Hid (∀a b,a<b->b<k3+1->(rs.getD a dr).m.name≠(rs.getD b dr).m.name):=λa b VW hb=>by
          by_cases e:b=k3
          .subst e;exact HY.out a (by omega)
          .exact HZ.out a b VW (by omega)
         clear HZ HY;go_wp2_with fail;exact⟨⟨k3+1,by omega,by go_num,tu,HB⟩,by simp[intOf];omega⟩
      .have HE:Hid (o5 rs=0):=Lr (by rw[HN.out];exact zY) HZA.out HTA.out (λa b VW hb=>HZ.out a b VW (by rw[HN.out] at hb;omega))
       clear HZ;go_wp2_with fail;go_ret;exact⟨mN HE.out.symm,HB.out⟩
end Go.Proofs.YtipbebleapjcjaaGreatDoor
namespace Go.Proofs.YtipbebleapjcjaaGreatDoor
open Go.RowKit
theorem aal(m:Mem)(nb:Nat)(nm:ByteArray)(w:World)(h:w.cell? ⟨nb,0,U⟩=AI (I nm)) :
 Calls AT 119 #[Iu #[I m.name,O J m.state,O J m.nJ,O J m.addr,Ic m.server],Ik (AI ⟨nb,0,U⟩)] w λe w'=>e=Ia (Ic (decide (m.name=nm)))/\w'=w.alloc (Ib #[I m.name,O J m.state,O J m.nJ,O J m.addr,Ic m.server] 55):=by
 have hb:=II w _ h;have h2:∀ob,(w.alloc ob).cell? ⟨nb,0,U⟩=AI (I nm):=λob=>by
  rw[((If w.heap.size w).alloc (By _) ob).cell (p:=⟨nb,0,U⟩) hb];exact h
 obtain⟨mn,st,lf,ad,sv⟩:=m;go_enter func119,ntmps119;go_wp2_with fail;go_ret;exact⟨mW (xl _ _),rfl⟩
theorem To(ms:List Mem)(pa:Option Addr)(n c nb:Nat)(nm:ByteArray)(w:World)(hv:Sl w (sh pa n c) ms)(Ho:n<=1000)(ht:w.cell? ⟨nb,0,U⟩=AI (I nm)) :
 Calls AT 120 #[sh pa n c,JD (.func 119) #[] #[Ik (AI ⟨nb,0,U⟩)]] w λe w'=>
  ((e=Ia (O J (-1))/\Hid (oX ms nm=U))\/(∃i:Nat,i<n/\e=Ia (O J i)/\Hid (oX ms nm=AI (ms.getD i dm))))/\Below w.heap.size w w':=by
 obtain⟨pa',ca,he,_,ha⟩:=hv;simp only[IM] at he;obtain⟨rfl,hN,rfl⟩:=he;have HA:Hid _:=ha;have HN:Hid _:=hN.symm;have HT:Hid _:=ht;have htb:=II w _ ht;clear ha hN ht;go_enter func120,ntmps120;go_wp2_with fail;go_loopw [8] (λi wr=>∃k:Nat,k<=n/\i=O J k/\Hid (∀j,j<k->(ms.getD j dm).name≠nm)/\Hid (Below w.heap.size w wr)) (λi _=>n-(intOf i).toNat)
 case atStart=>exact⟨0,Iw _,rfl,λj hj=>by omega,If _ _⟩
 case round=>
  obtain⟨k,hk,rfl,HZ,HB⟩:=hrel;by_cases mS:k<n
  .obtain⟨b,off,tr,o8,hr⟩:∃b off,pa=AI ⟨b,off,U⟩/\b<w.heap.size/\Row w b off ms:=by
    rcases HA.out with h|h
    .have:=HN.out;rw[h] at this;simp at this;omega
    .exact h
   subst tr;obtain⟨c0,c1,c2,c3,c4⟩:=hr.later HB.out o8 k (by rw[HN.out];exact mS);clear hr;have Rk:wr.cell? ⟨nb,0,U⟩=AI (I nm):=by rw[HB.out.cell (p:=⟨nb,0,U⟩) htb];exact HT.out
   have HY:Hid ((ms.getD k dm).name=nm->oX ms nm=AI (ms.getD k dm)):=λh=>zF (by rw[HN.out];exact mS) HZ.out h;have o6:Hid ((ms.getD k dm).name≠nm->∀j,j<k+1->(ms.getD j dm).name≠nm):=λh j hj=>by
    by_cases e:j=k
    .subst e;exact h
    .exact HZ.out j (by omega)
   have hF:=λw h=>aal (ms.getD k dm) nb nm w h;by_cases vO:(ms.getD k dm).name=nm
   .have HF:Hid _:=HY.out vO
    rw[decide_eq_true vO] at hF;clear vO o6 HY;generalize hmk:ms.getD k dm=mk at *;have Mt:Hid _:=hmk;clear hmk;obtain⟨mn,st,lf,ad,sv⟩:=mk;simp only at c0 c1 c2 c3 c4 hF;go_wp2_with fail;refine(hF _ Rk).mono ?_;rintro e w1 ⟨rfl,rfl⟩;go_wp2_with fail;go_ret;exact⟨.inr ⟨k,mS,rfl,by rw[Mt.out];exact HF⟩,HB.out.alloc HB.out.size _⟩
   .have tu:Hid _:=o6.out vO
    rw[decide_eq_false vO] at hF;clear vO o6 HY HZ;generalize ms.getD k dm=mk at *;obtain⟨mn,st,lf,ad,sv⟩:=mk;simp only at c0 c1 c2 c3 c4 hF;go_wp2_with fail;refine(hF _ Rk).mono ?_;rintro e w1 ⟨rfl,rfl⟩;go_wp2_with fail;go_roundw
    case rel=>exact⟨k+1,by omega,by go_num,tu,HB.out.alloc HB.out.size _⟩
    case measure=>simp[intOf];omega
  .have tu:Hid _:=zE λj hj=>HZ.out j (by have:=HN.out;omega)
   clear HZ;go_wp2_with fail;go_ret;exact⟨.inl ⟨rfl,tu⟩,HB.out⟩
theorem xn{ms:List Mem}{t:ByteArray}{m:Mem}(h:oX ms t=AI m):qO ms t=m:=by unfold qO;rw[h];rfl
theorem FD{ms:List Mem}{t:ByteArray}(h:oX ms t=U):qO ms t=dm:=by unfold qO;rw[h];rfl
theorem Wj{P:Prop}(h:P:=by
 exact((((HB.out.setCell (p:=⟨w.heap.size+1,0,U⟩) (by simp) _).setCell (p:=⟨w.heap.size+1,1,U⟩) (by simp) _).setCell (p:=⟨w.heap.size+1,2,U⟩) (by simp) _).setCell (p:=⟨w.heap.size+1,3,U⟩) (by simp) _).setCell (p:=⟨w.heap.size+1,4,U⟩) (by simp) _):P:=h
theorem wv(b:Nat)(pm:Option Addr)(nm cm:Nat)(ms:List Mem)(t:ByteArray)(w:World)(hc:w.cell? ⟨b,2,U⟩=AI (sh pm nm cm))(hm:Sl w (sh pm nm cm) ms)(hn:nm<=1000) :
 Calls AT 66 #[Ik (AI ⟨b,0,U⟩),I t] w λe w'=>e=Ia (Ir #[Iu #[I (qO ms t).name,O J (qO ms t).state,O J (qO ms t).nJ,O J (qO ms t).addr,Ic (qO ms t).server],Ic (oX ms t).isSome])/\Below w.heap.size w w':=by
 have HM:Hid (Sl _ _ _):=hm;have hb:=II w _ hc;have HC:Hid _:=hc;clear hm;obtain⟨W,hW⟩:∃W,W=(w.alloc (Ib #[I t] 9)).alloc (Ib #[I ⟨#[]⟩,O J 0,O J 0,O J 0,Ic false] 55):=⟨_,rfl⟩;have rj:Below w.heap.size w W:=by rw[hW];exact((If _ _).alloc (By _) _).alloc (by simp) _
 have ou:W.heap[w.heap.size]?=AI (Ib #[I t] 9 (0,0)):=by
  rw[hW,Iv _ _ _ (by simp)];exact Ii w _
 have vR:W.heap[w.heap.size+1]?=AI (Ib #[I ⟨#[]⟩,O J 0,O J 0,O J 0,Ic false] 55 (0,0)):=by
  have h:=Ii (w.alloc (Ib #[I t] 9)) (Ib #[I ⟨#[]⟩,O J 0,O J 0,O J 0,Ic false] 55);rw[hW];simpa using h
 have CB:W.heap.size=w.heap.size+2:=by rw[hW];simp
 go_enter func66,ntmps66;go_wp2_with fail;rw[<- hW];clear hW;refine(To ms pm nm cm _ t W (HM.out.below rj) hn (fi ou 0)).mono ?_;rintro e w1 ⟨Er,mO⟩;have h2:=(mO.block _ (by omega)).trans vR;have HB:Hid _:=rj.trans (mO.mono (by omega));have HM1:Hid (Sl _ _ _):=HM.out.below HB.out;have d2:w1.cell? ⟨b,2,U⟩=AI (sh pm nm cm):=by rw[HB.out.cell (p:=⟨b,2,U⟩) hb];exact HC.out
 have r0:=fi h2 0;have r1:=fi h2 1;have r2:=fi h2 2;have r3:=fi h2 3;have r4:=fi h2 4;have z0:w1.frozen? ⟨w.heap.size+1,0,U⟩=false:=by simp[Ij,h2]
 have z1:w1.frozen? ⟨w.heap.size+1,1,U⟩=false:=by simp[Ij,h2]
 have z2:w1.frozen? ⟨w.heap.size+1,2,U⟩=false:=by simp[Ij,h2]
 have z3:w1.frozen? ⟨w.heap.size+1,3,U⟩=false:=by simp[Ij,h2]
 have z4:w1.frozen? ⟨w.heap.size+1,4,U⟩=false:=by simp[Ij,h2]
 have xC:=(Ig.1 h2).1;clear rj ou vR mO h2 CB hc;rcases Er with⟨rfl,HF⟩|⟨i,hi,rfl,HF⟩
 .have HO:Hid (qO ms t=dm/\(oX ms t).isSome=false):=⟨FD HF.out,by rw[HF.out];rfl⟩
  go_wp2_with fail;refine IE (v:=Ir #[Iu #[I ⟨#[]⟩,O J 0,O J 0,O J 0,Ic false],Ic false]) ?_ rfl ⟨by rw[HO.out.1,HO.out.2];rfl,?_⟩
  .simp[results,results66,go_sem,r0,r1,r2,r3,r4]
  exact Wj
 .have HO:Hid (qO ms t=ms.getD i dm/\(oX ms t).isSome=true):=⟨xn HF.out,by rw[HF.out];rfl⟩
  obtain⟨pa',ca,he,_,ha⟩:=HM1.out;simp only[IM] at he;obtain⟨rfl,hN,rfl⟩:=he;obtain⟨b2,off,tr,o8,hr⟩:∃b off,pm=AI ⟨b,off,U⟩/\b<w1.heap.size/\Row w1 b off ms:=by
   rcases ha with h|h
   .rw[h] at hN;simp at hN;omega
   .exact h
  subst tr;obtain⟨c0,c1,c2,c3,c4⟩:=hr i (by omega);clear hr hN ha HF;generalize ms.getD i dm=mk at *;obtain⟨mn,st,lf,ad,sv⟩:=mk;simp only at c0 c1 c2 c3 c4;go_wp2_with fail;refine IE (v:=Ir #[Iu #[I mn,O J st,O J lf,O J ad,Ic sv],Ic true]) ?_ rfl ⟨by rw[HO.out.1,HO.out.2],?_⟩
  .simp[results,results66,go_sem,r0,r1,r2,r3,r4]
  exact Wj
def pQ(ms:List Mem)(r:nQ):Bool:=match oX ms r.m.name with
 |none=>true
 |some k=>tO r.m k==0&&wJ r.m k
theorem NK(b:Nat)(pm:Option Addr)(nm cm:Nat)(ms:List Mem)(r:nQ)(w:World)(hc:w.cell? ⟨b,2,U⟩=AI (sh pm nm cm))(hm:Sl w (sh pm nm cm) ms)(hn:nm<=1000)(hr:r.m.name.size<=Il) :
 Calls AT 68 #[Ik (AI ⟨b,0,U⟩),Iu #[I r.m.name,O J r.m.state,O J r.m.nJ,O J r.m.addr,Ic r.m.server,O J r.told]] w λe w'=>e=Ia (Ic (pQ ms r))/\Below w.heap.size w w':=by
 have hb:=II w _ hc;have HS:Hid (∀m,oX ms r.m.name=AI m->m.name.size<=Il):=λm h=>by
  obtain⟨a,c,he,hs,_⟩:=hm;exact rA hs m (BM h).1
 have HD:Hid (pQ ms r=match oX ms r.m.name with
  |none=>true
  |some k=>tO r.m k==0&&wJ r.m k):=rfl
 generalize pQ ms r=res at *;obtain⟨W,hW,rj,-,hg⟩:=pL w #[I r.m.name,O J r.m.state,O J r.m.nJ,O J r.m.addr,Ic r.m.server,O J r.told] 57;have HCW:Hid (Calls AT 66 #[Ik (AI ⟨b,0,U⟩),I r.m.name] W λe w'=>e=Ia (Ir #[Iu #[I (qO ms r.m.name).name,O J (qO ms r.m.name).state,O J (qO ms r.m.name).nJ,O J (qO ms r.m.name).addr,Ic (qO ms r.m.name).server],Ic (oX ms r.m.name).isSome])/\Below W.heap.size W w'):=
  wv b pm nm cm ms r.m.name W (by rw[rj.cell (p:=⟨b,2,U⟩) hb];exact hc) (hm.below rj) hn
 have x0:=fi hg 0;have CB:W.heap.size=w.heap.size+1:=by rw[hW];simp
 clear hc hm;go_enter func68,ntmps68;go_wp2_with fail;rw[<- hW];clear hW;refine HCW.out.mono ?_;rintro e w1 ⟨rfl,mO⟩;have ou:=(mO.block _ (by omega)).trans hg;have y0:=fi ou 0;have y1:=fi ou 1;have y2:=fi ou 2;have y3:=fi ou 3;have y4:=fi ou 4;have sj:=(Ig.1 ou).1;have mY:Hid _:=rj.trans (mO.mono (by omega));clear mO ou hg rj HCW x0;rcases hf:oX ms r.m.name with _|k
 .have HR:Hid _:=HD.out.trans (by rw[hf])
  have Xz:=FD hf;rw[Xz];clear hf Xz;go_wp2_with fail;go_ret;exact⟨mW HR.out.symm,mY.out.alloc mY.out.size _⟩
 .have HR:Hid (res=(tO r.m k==0&&wJ r.m k)):=HD.out.trans (by rw[hf])
  have hk:=HS.out k hf;have Xz:qO ms r.m.name=k:=xn hf;rw[Xz];clear hf Xz;have HN:Hid (∀W,Calls AT 122 #[Iu #[I r.m.name,O J r.m.state,O J r.m.nJ,O J r.m.addr,Ic r.m.server],Iu #[I k.name,O J k.state,O J k.nJ,O J k.addr,Ic k.server]] W λe w'=>e=Ia (Ir #[Ic (tO r.m k==0&&wJ r.m k),O J (tO r.m k)])/\Below W.heap.size W w'):=λW=>A0 r.m k W hr hk;generalize(tO r.m k==0&&wJ r.m k)=q at *;go_wp2_with fail;refine(HN.out _).mono ?_;rintro e w2 ⟨rfl,mZ⟩;have nR:Hid (Below w.heap.size w w2):=(mY.out.alloc mY.out.size _).trans (mZ.mono (by have:=mY.out.size;simp;omega));clear mZ;go_wp2_with fail;go_ret;exact⟨mW HR.out.symm,nR.out⟩
theorem Tp(b:Nat)(pm:Option Addr)(nm cm:Nat)(ms:List Mem)(rs:List nQ)(v:Value)(w:World)(hv:yd w v rs)(hc:w.cell? ⟨b,2,U⟩=AI (sh pm nm cm))(hm:Sl w (sh pm nm cm) ms)(hn:nm<=1000)(Ho:rs.length<=1000) :
 Calls AT 121 #[v,JD (.func 68) #[Ik (AI ⟨b,0,U⟩)] #[]] w λe w'=>
  ((e=Ia (O J (-1))/\Hid (rs.any (pQ ms)=false))\/(∃i:Nat,i<rs.length/\e=Ia (O J i)/\Hid (rs.any (pQ ms)=true)))/\Below w.heap.size w w':=by
 obtain⟨pa,ca,rfl,hs,ha⟩:=hv;have hb:=II w _ hc;have HA:Hid _:=ha;have HS:Hid _:=hs;have HI:Hid (∀W,Below w.heap.size w W->∀r:nQ,r.m.name.size<=Il->Calls AT 68 #[Ik (AI ⟨b,0,U⟩),Iu #[I r.m.name,O J r.m.state,O J r.m.nJ,O J r.m.addr,Ic r.m.server,O J r.told]] W λe w'=>e=Ia (Ic (pQ ms r))/\Below W.heap.size W w'):=λW hW r hr=>
  NK b pm nm cm ms r W (by rw[hW.cell (p:=⟨b,2,U⟩) hb];exact hc) (hm.below hW) hn hr
 clear ha hs hc hm;generalize hN:rs.length=n at *;have HN:Hid _:=hN;clear hN;go_enter func121,ntmps121;go_wp2_with fail;go_loopw [8] (λi wr=>∃k:Nat,k<=n/\i=O J k/\Hid (∀j,j<k->pQ ms (rs.getD j dr)=false)/\Hid (Below w.heap.size w wr)) (λi _=>n-(intOf i).toNat)
 case atStart=>exact⟨0,Iw _,rfl,λj hj=>by omega,If _ _⟩
 case round=>
  obtain⟨k,hk,rfl,HZ,HB⟩:=hrel;by_cases mS:k<n
  .obtain⟨b2,off,tr,o8,hr⟩:∃b off,pa=AI ⟨b,off,U⟩/\b<w.heap.size/\vU w b off rs:=by
    rcases HA.out with h|h
    .have:=HN.out;rw[h] at this;simp at this;omega
    .exact h
   subst tr;obtain⟨c0,c1,c2,c3,c4,c5⟩:=hr.below HB.out o8 k (by rw[HN.out];exact mS);clear hr;have sg:=HS.out k;have HY:Hid (pQ ms (rs.getD k dr)=true->rs.any (pQ ms)=true):=λh=>by
    rw[show rs.getD k dr=rs[k]'(by rw[HN.out];exact mS) by simp[Ip,Ih (show k<rs.length by rw[HN.out];exact mS)]] at h;exact List.any_eq_true.2 ⟨_,List.getElem_mem _,h⟩
   have o6:Hid (pQ ms (rs.getD k dr)=false->∀j,j<k+1->pQ ms (rs.getD j dr)=false):=λh j hj=>by
    by_cases e:j=k
    .subst e;exact h
    .exact HZ.out j (by omega)
   have HF:Hid (∀W,Below w.heap.size w W->Calls _ _ _ _ _):=λW hW=>HI.out W hW _ sg;generalize hah:pQ ms (rs.getD k dr)=ah at *;clear hah;generalize rs.getD k dr=rk at *;obtain⟨⟨mn,st,lf,ad,sv⟩,td⟩:=rk;simp only at c0 c1 c2 c3 c4 c5 HF;clear HZ;have od:=HB.out.size;cases ah
   .have tu:Hid _:=o6.out rfl
    clear HY o6;go_wp2_with fail;refine(HF.out _ HB.out).mono ?_;rintro e w1 ⟨rfl,mO⟩;have mY:Hid _:=HB.out.trans (mO.mono od);clear mO;go_wp2_with fail;go_roundw
    case rel=>exact⟨k+1,by omega,by go_num,tu,mY⟩
    case measure=>simp[intOf];omega
   .have HR:Hid _:=HY.out rfl
    clear HY o6;go_wp2_with fail;refine(HF.out _ HB.out).mono ?_;rintro e w1 ⟨rfl,mO⟩;have mY:Hid _:=HB.out.trans (mO.mono od);clear mO;go_wp2_with fail;go_ret;exact⟨.inr ⟨k,mS,rfl,HR⟩,mY.out⟩
  .have tu:Hid (rs.any (pQ ms)=false):=by
    rcases h:rs.any (pQ ms) with _|_
    .rfl
    .obtain⟨r,hr,h2⟩:=List.any_eq_true.1 h
     obtain⟨j,hj,rfl⟩:=List.getElem_of_mem hr;have h3:=HZ.out j (by have:=HN.out;omega);rw[show rs.getD j dr=rs[j] by simp[Ip,Ih hj],h2] at h3;cases h3
   clear HZ;go_wp2_with fail;go_ret;exact⟨.inl ⟨rfl,tu⟩,HB.out⟩
theorem LB(b:Nat)(pm:Option Addr)(nm cm:Nat)(ms:List Mem)(rs:List nQ)(v:Value)(w:World)(hv:yd w v rs)(hc:w.cell? ⟨b,2,U⟩=AI (sh pm nm cm))(hm:Sl w (sh pm nm cm) ms)(hn:nm<=1000)(Ho:rs.length<=1000) :
 Calls AT 67 #[v,JD (.func 68) #[Ik (AI ⟨b,0,U⟩)] #[]] w λe w'=>e=Ia (Ic (rs.any (pQ ms)))/\Below w.heap.size w w':=by
 have HI:Hid (Calls AT 121 #[v,JD (.func 68) #[Ik (AI ⟨b,0,U⟩)] #[]] w λe w'=>
  ((e=Ia (O J (-1))/\Hid (rs.any (pQ ms)=false))\/(∃i:Nat,i<rs.length/\e=Ia (O J i)/\Hid (rs.any (pQ ms)=true)))/\Below w.heap.size w w'):=Tp b pm nm cm ms rs v w hv hc hm hn Ho
 clear hv hc hm;generalize rs.any (pQ ms)=q at *;go_enter func67,ntmps67;go_wp2_with fail;refine HI.out.mono ?_;rintro e w1 ⟨Er,mO⟩;have HB:Hid _:=mO;clear mO;rcases Er with⟨rfl,HF⟩|⟨i,hi,rfl,HF⟩
 .go_wp2_with fail
  go_ret;exact⟨mW HF.out.symm,HB.out⟩
 .go_wp2_with fail
  go_ret;exact⟨mW HF.out.symm,HB.out⟩
end Go.Proofs.YtipbebleapjcjaaGreatDoor
namespace Go.Proofs.YtipbebleapjcjaaGreatDoor
namespace Gw
open Go.RowKit
section
open Go.ChangeShapes Go.WideShapes Go.ChangeAt
variable {H:Type} {enc:TypeId × Value→H} {w:World} {base:Nat} {spare:Nat→Bool} {held:Bool}
end
end Gw
namespace Gw
open Go.RowKit
def NM(ms:List pU)(p:Nat)(f:Bool):pU:=if f=true then ms.getD p dm else dm
theorem aam(ms:List pU)(v:Value)(name:ByteArray)(w:World)(h:Sl w v ms)(hn:ms.length<=6)(hr:pj ms) :
 ni 77 #[v,I name] w λe w'=>∃(p:Nat) (f:Bool),e=Ia (Ir #[Iu #[I (NM ms p f).mM,O J (NM ms p f).addr,O J (NM ms p f).version],Ic f])/\Below w.heap.size w w'/\At ms ⟨name,0,0⟩ p f:=by
 obtain⟨W0,rm,rG,Ct,pS⟩:=pL w #[I ⟨#[]⟩,O J 0,O J 0] 72;have HV:Hid (Sl W0 v ms):=h.below rG;have HF:Hid (ni 142 #[v,Iu #[I name,O J 0,O J 0],JD (.func 115) #[] #[]] W0 λe w'=>∃(p:Nat) (f:Bool),e=Ia (Ir #[O J p,Ic f])/\Below W0.heap.size W0 w'/\At ms ⟨name,0,0⟩ p f):=
  Bu ms v ⟨name,0,0⟩ W0 HV.out (by omega) hr
 have HW0:Hid _:=rm;clear rm h hr;go_enter func77,ntmps77;go_wp2_with fail;rw[<- HW0.out];refine HF.out.mono ?_;rintro e w1 ⟨p,f,rfl,mO,qi⟩;have vu:Hid _:=qi;have HV1:Hid (Sl w1 v ms):=HV.out.below mO;have sj:=mO.size;have mY:Hid _:=rG.trans (mO.mono (by omega));have ou:=(mO.block w.heap.size (by omega)).trans pS;have t0:w1.cell? ⟨w.heap.size,0,U⟩=AI (I ⟨#[]⟩):=fi ou 0;have t1:w1.cell? ⟨w.heap.size,1,U⟩=AI (O J 0):=fi ou 1;have t2:w1.cell? ⟨w.heap.size,2,U⟩=AI (O J 0):=fi ou 2;have ux:∀o,w1.frozen? ⟨w.heap.size,o,U⟩=false:=λo=>by simp[Ij,ou]
 have mS:w.heap.size<w1.heap.size:=by omega
 clear qi HF HV pS ou rG mO HW0 Ct sj;cases f
 .go_wp2_with fail
  exact IE (v:=Ir #[Iu #[I ⟨#[]⟩,O J 0,O J 0],Ic false]) (by simp[results,results77,go_sem,t0,t1,t2]) rfl ⟨p,false,rfl,(((mY.out.setCell (p:=⟨w.heap.size,0,U⟩) (By _) _).setCell (p:=⟨w.heap.size,1,U⟩) (By _) _).setCell (p:=⟨w.heap.size,2,U⟩) (By _) _),vu.out⟩
 .have hp:=(vu.out.is.1 rfl).1
  obtain⟨a,cap,rfl,_,DA⟩:=HV1.out;obtain⟨b,off,VW,Xm,pO⟩:∃b off,a=AI ⟨b,off,U⟩/\b<w1.heap.size/\Row w1 b off ms:=by
   rcases DA with h|h
   .rw[h] at hp;simp at hp
   .exact h
  subst VW;obtain⟨c0,c1,c2⟩:=pO p hp;clear pO DA HV1;generalize hm:ms.getD p dm=m at *;have HM:Hid (NM ms p true=m):=by show NM ms p true=m;rw[NM,if_pos rfl,hm]
  clear hm;go_wp2_with fail;exact IE (v:=Ir #[Iu #[I m.mM,O J m.addr,O J m.version],Ic true]) (by simp[results,results77,go_sem,t0,t1,t2]) rfl ⟨p,true,by rw[HM.out],(((mY.out.setCell (p:=⟨w.heap.size,0,U⟩) (By _) _).setCell (p:=⟨w.heap.size,1,U⟩) (By _) _).setCell (p:=⟨w.heap.size,2,U⟩) (By _) _),vu.out⟩
end Gw
namespace Gw
open Go.RowKit
def sD(f:Bool)(here t_o:ByteArray):Int:=if(mT here&&mT t_o)=true then(if here=t_o then 6 else if f=true then 0 else 5) else 1
theorem yN(a b:ByteArray)(ha:a.size<=Il)(hb:b.size<=Il)(W:World) :
 ni 50 #[sh (AI ⟨W.heap.size,0,U⟩) 2 2] (W.alloc (Ib #[I a,I b] 9)) λe w'=>e=Ia (Ic (mT a&&mT b))/\w'=W.alloc (Ib #[I a,I b] 9):=by
 have hg:=Ii W (Ib #[I a,I b] 9);refine(AQ [a,b] W.heap.size 2 _ (λj hj=>?_) (λj=>?_) (by simp)).mono ?_
 .rw[fi hg]
  have:j=0\/j=1:=by simp at hj;omega
  rcases this with rfl|rfl<;>rfl
 .match j with
  |0=>exact ha
  |1=>exact hb
  |_+2=>simp[Ip]
 .rintro e w' ⟨rfl,rfl⟩
  exact⟨mW (by simp),rfl⟩
def yO(ms:List pU)(p:Nat)(f:Bool)(here t_o:ByteArray):Int:=if sD f here t_o=0 then(NM ms p f).addr else 0
theorem aan(ms:List pU)(v:Value)(here t_o:ByteArray)(w:World)(hv:Sl w v ms)(h0:nu ms=0)(hs:here.size<=Il)(ht:t_o.size<=Il)(p:Nat)(f:Bool)(qi:At ms ⟨t_o,0,0⟩ p f) :
 rI 33 #[v,I here,I t_o] w (Ir #[O J (yO ms p f here t_o),O J (sD f here t_o)]):=by
 have he:(nu ms !=0)=false:=by simpa using h0
 have hz:=mU h0;have HV:Hid (Sl w v ms):=hv;have HR:Hid (pj ms):=hz.2.1;have hlen:=hz.1;have vu:Hid (At ms ⟨t_o,0,0⟩ p f):=qi;clear hv h0 hz qi;rcases hl:(mT here&&mT t_o) with _|_
 .have hN:sD f here t_o=1:=by rw[sD,hl];rfl
  have HN:Hid (sD f here t_o=1/\yO ms p f here t_o=0):=⟨hN,by rw[yO,hN];rfl⟩;clear hN;go_enter func33,ntmps33;go_wp2_with (first|(go_at_call 63;refine(nU ms _ _ HV.out).mono ?_;rintro e w1 ⟨rfl,mO⟩)|(go_at_call 50;refine(yN _ _ hs ht _).mono ?_;rintro e w' ⟨rfl,rfl⟩;rw[hl]));go_ret2;exact⟨by rw[HN.out.1,HN.out.2];rfl,mO.alloc mO.size _⟩
 .by_cases hht:here=t_o
  .subst hht
   have hN:sD f here here=6:=by rw[sD,hl,if_pos rfl,if_pos rfl]
   have HN:Hid (sD f here here=6/\yO ms p f here here=0):=⟨hN,by rw[yO,hN];rfl⟩;clear hN;go_enter func33,ntmps33;go_wp2_with (first|(go_at_call 63;refine(nU ms _ _ HV.out).mono ?_;rintro e w1 ⟨rfl,mO⟩)|(go_at_call 50;refine(yN _ _ hs ht _).mono ?_;rintro e w' ⟨rfl,rfl⟩;rw[hl]));go_ret2;exact⟨by rw[HN.out.1,HN.out.2];rfl,mO.alloc mO.size _⟩
  .obtain⟨g1,g2⟩:=o0 hht
   have hN:sD f here t_o=if f=true then 0 else 5:=by rw[sD,hl,if_pos rfl,if_neg hht]
   have HN:Hid (sD f here t_o=(if f=true then 0 else 5)/\yO ms p f here t_o=if f=true then(NM ms p f).addr else 0):=⟨hN,by rw[yO,hN];cases f<;>rfl⟩;clear hN;clear hht;go_enter func33,ntmps33;go_wp2_with (first|(go_at_call 63;refine(nU ms _ _ HV.out).mono ?_;rintro e w1 ⟨rfl,mO⟩)|(go_at_call 50;refine(yN _ _ hs ht _).mono ?_;rintro e w' ⟨rfl,rfl⟩;rw[hl]));have hbx:=mO.alloc mO.size (Ib #[I here,I t_o] 9);refine(aam ms _ t_o _ (HV.out.below hbx) hlen HR.out).mono ?_;rintro e w2 ⟨p',f',rfl,mZ,SS⟩;obtain⟨rfl,rfl⟩:=vY vu.out SS;have nR:Hid (Below w.heap.size w w2):=hbx.trans (mZ.mono (by simp;have:=mO.size;omega));clear SS mO mZ hbx;generalize NM ms p f=kn at *;obtain⟨kc,ka,kv⟩:=kn;have AP:=nR.out.size;cases f
   .go_wp2_with fail
    go_ret2;exact⟨by rw[HN.out.1,HN.out.2];rfl,nR.out.alloc AP _⟩
   .go_wp2_with fail
    go_ret2;exact⟨by rw[HN.out.1,HN.out.2];rfl,nR.out.alloc AP _⟩
end Gw
namespace Gw
open Go.RowKit
end Gw
namespace Gw
open Go.RowKit
end Gw
namespace Gw
open Go.RowKit
theorem tF(ms:List pU)(b off cap:Nat)(w:World)(hr:Row w b off ms)(hb:b<w.heap.size)(hn:ms.length<=6)(hs:∀j,(ms.getD j dm).ok) :
 rI 15 #[sh (AI ⟨b,off,U⟩) ms.length cap] w (O J (nu ms)):=by
 have HR:Hid (Row w b off ms):=hr;clear hr;have HE:Hid (∀k,k<ms.length->(∀j,j<k->(ms.getD j dm).e=0)->(ms.getD k dm).e≠0->nu ms=(ms.getD k dm).e):=λk h1 h2 h3=>Bs ms k hn h1 h2 h3;have H4:Hid ((∀j,j<ms.length->(ms.getD j dm).e=0)->∀k,k+1<ms.length->less (ms.getD k dm).mM (ms.getD (k+1) dm).mM=false->nu ms=4):=λh1 k h2 h3=>EM ms k hn h1 h2 (λh=>by rw[show ord (ms.getD k dm) (ms.getD (k+1) dm)=oh (ms.getD k dm).mM (ms.getD (k+1) dm).mM from rfl,pB,h3] at h;cases h);have H0:Hid ((∀j,j<ms.length->(ms.getD j dm).e=0)->(∀j,j+1<ms.length->less (ms.getD j dm).mM (ms.getD (j+1) dm).mM=true)->nu ms=0):=λh1 h2=>EN ms hn h1 (λj hj=>(pB _ _).2 (h2 j hj));generalize hN:ms.length=n at *;have HN:Hid (ms.length=n):=hN;clear hN;have HS:Hid (∀j,(ms.getD j dm).ok):=hs;clear hs;generalize hC:nu ms=res at *;have HC:Hid (nu ms=res):=hC;clear hC;go_enter func15,ntmps15;go_wp2_with fail;go_loopw [3] (λi w'=>∃k:Nat,k<=n/\i=O J k/\Below w.heap.size w w'/\Hid (∀j,j<k->(ms.getD j dm).e=0)) (λi _=>n-(intOf i).toNat)
 case atStart=>exact⟨0,Iw _,rfl,If _ _,λj h=>absurd h (IV _)⟩
 case round=>
  obtain⟨k,hk,rfl,nE,hz⟩:=hrel;obtain⟨rM,Ai⟩:=pd nE;have od:=nE.size;by_cases mS:k<n
  .obtain⟨c0,c1,c2⟩:=HR.out k (by rw[HN.out];exact mS)
   have Ci:(ms.getD k dm).mM.size<=Il:=HS.out k;have HK:Hid ((ms.getD k dm).e≠0->res=(ms.getD k dm).e):=λh=>HE.out k mS hz.out h;have HZ:Hid ((ms.getD k dm).e=0->∀j,j<k+1->(ms.getD j dm).e=0):=λh j hj=>by
    rcases IL.1 hj with h2|rfl
    .exact hz.out j h2
    .exact h
   generalize ms.getD k dm=m at *;have HD:Hid (m.e=if mT m.mM=true then(if within m.addr 0 4294967295=true then(if within m.version 1 1000000=true then 0 else 3) else 3) else 1):=rfl;generalize m.e=me at *;rcases h1:mT m.mM with _|_
   .have xJ:Hid (res=1):=(HK.out (by rw[HD.out];simp[h1])).trans (by rw[HD.out];simp[h1])
    go_wp2_with (go_at_call 11;refine(mV _ _ Ci).mono ?_;rintro e w' ⟨rfl,rfl⟩;rw[h1]);go_ret;exact⟨mN xJ.out.symm,nE⟩
   .rcases h2:within m.addr 0 4294967295 with _|_
    .have xJ:Hid (res=3):=(HK.out (by rw[HD.out];simp[h1,h2])).trans (by rw[HD.out];simp[h1,h2])
     go_wp2_with (first|(go_at_call 11;refine(mV _ _ Ci).mono ?_;rintro e w' ⟨rfl,rfl⟩;rw[h1])|(go_at_call 40;refine(ot _ _).mono ?_;rintro e w' ⟨rfl,rfl⟩;rw[h2]));go_ret;exact⟨mN xJ.out.symm,nE⟩
    .rcases h3:within m.version 1 1000000 with _|_
     .have xJ:Hid (res=3):=(HK.out (by rw[HD.out];simp[h1,h2,h3])).trans (by rw[HD.out];simp[h1,h2,h3])
      go_wp2_with (first|(go_at_call 11;refine(mV _ _ Ci).mono ?_;rintro e w' ⟨rfl,rfl⟩;rw[h1])|(go_at_call 40;refine(ot _ _).mono ?_;rintro e w' ⟨rfl,rfl⟩;rw[h2])|(go_at_call 37;refine(nN _ _ _ _).mono ?_;rintro e w' ⟨rfl,rfl⟩;rw[h3]));go_ret;exact⟨mN xJ.out.symm,nE⟩
     .have Rh:Hid (me=0):=(show me=0 by rw[HD.out];simp[h1,h2,h3])
      go_wp2_with (first|(go_at_call 11;refine(mV _ _ Ci).mono ?_;rintro e w' ⟨rfl,rfl⟩;rw[h1])|(go_at_call 40;refine(ot _ _).mono ?_;rintro e w' ⟨rfl,rfl⟩;rw[h2])|(go_at_call 37;refine(nN _ _ _ _).mono ?_;rintro e w' ⟨rfl,rfl⟩;rw[h3]));go_roundw
      case rel=>exact⟨k+1,by omega,by go_num,nE,HZ.out Rh.out⟩
      case measure=>simp[intOf];omega
  .have qe:Hid (∀j,j<n->(ms.getD j dm).e=0):=λj hj=>hz.out j (by omega)
   clear hz;go_wp2_with fail;go_loopw [4] (λi w'=>∃k:Nat,(k+1<=n\/k=0)/\i=O J (k+1)/\Below w.heap.size w w'/\Hid (∀j,j<k->less (ms.getD j dm).mM (ms.getD (j+1) dm).mM=true)) (λi _=>n-(intOf i).toNat)
   case atStart=>exact⟨0,.inr rfl,rfl,nE,λj h=>absurd h (IV _)⟩
   case round=>
    clear rM Ai od nE;obtain⟨q,hq,rfl,nE,hz⟩:=hrel;obtain⟨rM,Ai⟩:=pd nE;have od:=nE.size;by_cases mS:q+1<n
    .obtain⟨c0,_,_⟩:=HR.out q (by rw[HN.out];omega)
     obtain⟨d0,_,_⟩:=HR.out (q+1) (by rw[HN.out];exact mS);have HK:Hid (less (ms.getD q dm).mM (ms.getD (q+1) dm).mM=false->res=4):=λh=>H4.out qe.out q mS h;have HZ:Hid (less (ms.getD q dm).mM (ms.getD (q+1) dm).mM=true->∀j,j<q+1->less (ms.getD j dm).mM (ms.getD (j+1) dm).mM=true):=λh j hj=>by
      rcases IL.1 hj with h2|rfl
      .exact hz.out j h2
      .exact h
     generalize ms.getD q dm=m1 at *;generalize ms.getD (q+1) dm=m2 at *;rcases hl:Op.bytesLess m1.mM.toList m2.mM.toList with _|_
     .have h4:Hid (res=4):=HK.out hl
      have oR:=uu m1.mM.toList m2.mM.toList;rw[hl] at oR;have sy:=oR.symm;clear oR hl;go_wp2_with fail;go_quiet (fail)
      go_wp2_with fail;go_ret;exact⟨mN h4.out.symm,below_drewN nE _⟩
     .have oR:=uu m1.mM.toList m2.mM.toList
      rw[hl] at oR;have sy:=oR.symm;clear oR;have HL:Hid _:=hl;clear hl;go_wp2_with fail;go_quiet (fail)
      go_wp2_with fail;go_roundw
      case rel=>exact⟨q+1,.inl (by omega),by go_num,below_drewN nE _,HZ.out HL.out⟩
      case measure=>simp[intOf];omega
    .have h0:Hid (res=0):=H0.out qe.out λj hj=>hz.out j (by omega)
     go_wp2_with fail;go_ret;exact⟨mN h0.out.symm,nE⟩
theorem sB(a:Option Addr)(n cap:Nat)(w:World)(hn:6<n) :
 ni 15 #[sh a n cap] w λe w'=>e=Ia (O J 2)/\w'=w:=by
 go_enter func15,ntmps15;go_wp2_with fail;go_ret;exact⟨rfl,rfl⟩
theorem sC(a:Option Addr)(cap:Nat)(w:World) :
 ni 15 #[sh a 0 cap] w λe w'=>e=Ia (O J 0)/\w'=w:=by
 go_enter func15,ntmps15;go_wp2_with fail;go_loop [3] (λi=>i=O J 0) (λ_=>0)
 case atStart=>rfl
 case round=>
  subst hrel;go_wp2_with fail;go_loop [4] (λi=>i=O J 1) (λ_=>0)
  case atStart=>rfl
  case round=>
   subst hrel;go_wp2_with fail;go_ret;exact⟨rfl,rfl⟩
theorem rY(ms:List pU)(v:Value)(w:World)(h:Sl w v ms) :
 rI 15 #[v] w (O J (nu ms)):=by
 obtain⟨a,cap,rfl,hs,h⟩:=h;by_cases hn:6<ms.length
 .refine(sB a ms.length cap w hn).mono ?_
  rintro e w' ⟨rfl,rfl⟩;exact⟨mN (by rw[nu,if_pos hn]),If _ _⟩
 .rcases h with rfl|⟨b,off,rfl,hb,hr⟩
  .refine(sC a cap w).mono ?_
   rintro e w' ⟨rfl,rfl⟩;exact⟨rfl,If _ _⟩
  .exact tF ms b off cap w hr hb (by omega) hs
def AtI(ms:List pU)(t:ByteArray)(r:Int):Prop:=
 (∃k:Nat,k<ms.length/\r=k/\(ms.getD k dm).mM=t)\/(r = -1/\∀j,j<ms.length->(ms.getD j dm).mM≠t)
theorem aao(ms:List pU)(v:Value)(t:ByteArray)(w:World)(hv:Sl w v ms)(hn:ms.length<=9223372036854775807) :
 ni 22 #[v,I t] w λe w'=>∃r:Int,e=Ia (O J r)/\Hid (AtI ms t r)/\w'=w:=by
 obtain⟨pa,ca,rfl,_,ha⟩:=hv;have HA:Hid _:=ha;clear ha;generalize Ap:ms.length=n at *;have HN:Hid _:=Ap;clear Ap;go_enter func22,ntmps22;go_wp2_with fail;go_loop [5] (λi=>∃k:Nat,k<=n/\i=O J k/\Hid (∀j,j<k->(ms.getD j dm).mM≠t)) (λi=>n-(intOf i).toNat)
 case atStart=>exact⟨0,Iw _,rfl,λj h=>absurd h (IV _)⟩
 case round=>
  obtain⟨k,hk,rfl,hz⟩:=hrel;by_cases mS:k<n
  .obtain⟨b1,o1,tr,o8,wT⟩:∃b off,pa=AI ⟨b,off,U⟩/\b<w.heap.size/\Row w b off ms:=by
    rcases HA.out with h|h
    .have:=HN.out;rw[h] at this;simp at this;omega
    .exact h
   subst tr;obtain⟨c0,_,_⟩:=wT k (by rw[HN.out];exact mS);clear wT;have HF:Hid ((ms.getD k dm).mM=t->AtI ms t (k:Int)):=λh=>.inl ⟨k,by rw[HN.out];exact mS,rfl,h⟩;have HZ:Hid ((ms.getD k dm).mM≠t->∀j,j<k+1->(ms.getD j dm).mM≠t):=λh j hj=>by
    rcases IL.1 hj with h2|rfl
    .exact hz.out j h2
    .exact h
   generalize(ms.getD k dm).mM=nm at *;by_cases he:nm=t
   .subst he
    have zy:Hid (AtI _ _ _):=HF.out rfl;clear HF HZ;go_wp2_with fail;go_ret;exact⟨k,rfl,zy,rfl⟩
   .obtain⟨h1,h2⟩:=o0 he
    have HE:Hid _:=he;clear he;go_wp2_with fail;go_round
    case rel=>exact⟨k+1,by omega,by go_num,HZ.out HE.out⟩
    case measure=>simp[intOf];omega
  .go_wp2_with fail
   go_ret;exact⟨-1,rfl,.inr ⟨rfl,λj hj=>hz.out j (by have:=HN.out;omega)⟩,rfl⟩
theorem alf{ms:List pU}{t:pU}{r:Int}{p:Nat}{f:Bool}(hi:AtI ms t.mM r)(ha:At ms t p f)(hr:pj ms):(f=true->r=p)/\(f=false->r = -1):=by
 rcases hi with⟨k,hk,rfl,hn⟩|⟨rfl,hn⟩
 .obtain⟨rfl,rfl⟩:=vY ha (RL.anU ord dm keyed hr hk ((oQ _ _).2 hn))
  exact⟨λ_=>rfl,λh=>by cases h⟩
 .refine⟨λh=>?_,λ_=>rfl⟩
  have:=ha.is.1 h;exact absurd ((oQ _ _).1 this.2) (hn p this.1)
end Gw
end Go.Proofs.YtipbebleapjcjaaGreatDoor
