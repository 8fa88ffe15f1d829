import Derived.Test.YtipbebleapjcjaaGreatDoornc20
import Derived.Test.YtipbebleapjcjaaGreatDoornc21
import Derived.Test.YtipbebleapjcjaaGreatDoornc17
set_option maxHeartbeats 25600000
set_option maxRecDepth 100000
open Array renaming getElem?_eq_some_iff->Ig
open ByteArray renaming empty->Ie
open Go renaming Ending->QG,TypeId->Ji,bodyPost_ret->IE,cell_regrown->Im,heap_alloc_new->Ii,maxLen->Il,redrawn->IG
open Go.Ending renaming returned->Ia
open Go.IntKind renaming i64->J
open Go.Obj renaming cells->Ib
open Go.Proofs.Tryz renaming prog->AT
open Go.Value renaming agg->Iu,bool->Ic,int->O,pointer->Ik,slice->sh,string->I,tuple->Ir
open Nat renaming le_refl->By,reduceAdd->Uo,zero_add->I6
open Option renaming none->U,some->AI
open Go.Proofs.Tryz
namespace Go.Proofs.YtipbebleapjcjaaGreatDoor
open Go.RowKit
def amv(s:ByteArray)(m:Option Ms):Prop:=∀W,Calls AT 31 #[I s] W λe w'=>∃i a c o r y p l k X,e=Ia (Ir #[Iu #[O J i,Ic a,Ic c,O J o,I r,O J y,sh p l k],O J X])/\Hid (MsV w' m #[O J i,Ic a,Ic c,O J o,I r,O J y,sh p l k]/\(m=U↔X≠0)/\∀M,m=AI M->nx M.id M.code M.mQ M.R M.rs=0)/\Below W.heap.size W w'
def zQ(n:Nd)(m:Option Ms)(r:Option Int):Prop:=match m with
 |none=>r=U
 |some M=>if M.mX=false/\M.rs.length=0/\oF M.R=0 then ∃p f,Gw.At n.gw ⟨(nz M.R).mM,0,0⟩ p f/\r=(if Gw.sD f n.mM (nz M.R).mM=0 then AI (Gw.NM n.gw p f).addr else U) else r=U
theorem Ve(n:Nd)(vm vr vs vg vw:Value)(b:Nat)(s:ByteArray)(m:Option Ms)(w:World)(hrd:amv s m)(zK:ML w)(hb:w.heap[b]?=AI (Ib (sR n vm vr vs vg vw) 41 (0,0)))(hn:uL w n vm vr vs vg vw)(h0:n.e=0) :
 Calls AT 9 #[Ik (AI ⟨b,0,U⟩),I s] w λe w'=>Below w.heap.size w w'/\∃r,zQ n m r/\e=Ia (Ir #[O J (r.getD 0),Ic r.isSome]):=by
 have hp:=Nd.parts (Nd.wM h0).1;have HSO:Hid (∀M,m=AI M->nx M.id M.code M.mQ M.R M.rs=0->∀W x,MsV W m x->∃v,x=#[O J M.id,Ic M.mX,Ic M.cut,O J M.code,I M.R,O J M.mQ,v]/\Rc.Sl W v M.rs/\M.R.size<=Il/\(¬ (M.mX=false/\M.rs.length=0/\oF M.R=0)->zQ n m U)/\∀r,M.mX=false/\M.rs.length=0/\oF M.R=0->(∃p f,Gw.At n.gw ⟨(nz M.R).mM,0,0⟩ p f/\r=(if Gw.sD f n.mM (nz M.R).mM=0 then AI (Gw.NM n.gw p f).addr else U))->zQ n m r):=λM hm hc W x hx=>by
  rw[hm] at hx ⊢;obtain⟨v,hv,_,he⟩:=hx;refine⟨v,he,hv,by have:=(qb (oM hc).2.1).1;unfold Il;omega,λhc=>?_,λr hc hr=>?_⟩
  .unfold zQ;simp only;rw[if_neg hc];trivial
  .unfold zQ;simp only;rw[if_pos hc];exact hr
 have My:Hid (∀(W:World) (t:ByteArray),Below w.heap.size w W->t.size<=Il->Calls _ _ _ _ _):=λW t hW ht=>Ku t W (zK.below hW) ht;have HNX:Hid (∀(t:ByteArray),t.size<=Il->∃p f,Gw.At n.gw ⟨t,0,0⟩ p f/\∀W,Below w.heap.size w W->Calls AT 33 #[vg,I n.mM,I t] W λe w'=>e=Ia (Ir #[O J (Gw.yO n.gw p f n.mM t),O J (Gw.sD f n.mM t)])/\Below W.heap.size W w'):=λt ht=>by
  obtain⟨p,f,qi⟩:=Gw.KX n.gw (Gw.mU hp.gw).2.1 ⟨t,0,0⟩;exact⟨p,f,qi,λW hW=>Gw.aan n.gw vg n.mM t W (hn.gw.below hW) hp.gw hn.mM ht p f qi⟩
 have HQK:Hid (∀t,oF t=0->(nz t).mM.size<=Il):=λt _=>(L6 t).2.2.2;obtain⟨x5,k5,rfl,_,_⟩:=id hn.gw;have vh:Hid (w.heap[b]?=AI (Ib (sR n vm vr vs (sh x5 n.gw.length k5) vw) 41 (0,0))):=hb;have HBL:Hid (b<w.heap.size):=(Ig.1 hb).1;have HRD:Hid (∀W,Calls _ _ _ _ _):=λW=>hrd W;clear hb hn h0 zK hp hrd;go_enter func9,ntmps9;go_wp2_with fail;refine(HRD.out w).mono ?_;rintro e w1 ⟨i,a,c,o,r,y,p,l,k,X,rfl,WJ,mO⟩;have mY:Hid (Below w.heap.size w w1):=mO;have HMV:Hid _:=WJ.out;obtain⟨W2,sx,mZ,AP,DT⟩:=pL w1 #[O J i,Ic a,Ic c,O J o,I r,O J y,sh p l k] 63;have nR:Hid (Below w.heap.size w W2):=mO.trans (mZ.mono mO.size);clear WJ mO mZ AP HRD;go_upto_region 2 with fail
 rw[<- sx];clear sx;generalize w1.heap.size=gm at *;have z1:=fi DT 1;have z4:=fi DT 4;have z6:=fi DT 6;clear DT;cases yr:m with
 |some M=>
  have hx:X=0:=Classical.byContradiction λh=>by
   have:=HMV.out.2.1.2 h;rw[yr] at this;cases this
  subst hx;obtain⟨v,XZ,DA,hR,ab9,aqU⟩:=HSO.out M yr (HMV.out.2.2 M yr) _ _ HMV.out.1;have hl:l=M.rs.length/\r=M.R/\a=M.mX:=by
   obtain⟨_,_,he,_,_⟩:=DA;simp only[he,Array.mk.injEq,List.cons.injEq,Value.int.injEq,Value.string.injEq,Value.bool.injEq,Value.slice.injEq,true_and,and_true] at XZ;obtain⟨_,h2,_,_,h5,_,_,h8,_⟩:=XZ;exact⟨h8,h5,h2⟩
  obtain⟨e1,e2,e3⟩:=hl;have Vf:Hid (¬ (a=false/\l=0/\oF r=0)->zQ n m U):=by rw[e1,e2,e3];exact ab9
  have aff:Hid (∀q,a=false/\l=0/\oF r=0->(∃p f,Gw.At n.gw ⟨(nz r).mM,0,0⟩ p f/\q=(if Gw.sD f n.mM (nz r).mM=0 then AI (Gw.NM n.gw p f).addr else U))->zQ n m q):=by rw[e1,e2,e3];exact aqU
  have HR:Hid (r.size<=Il):=by rw[e2];exact hR
  clear XZ DA hR ab9 aqU e1 e2 e3 HSO HMV;clear yr;cases a with
  |true=>
   have HF:Hid (zQ n m U):=Vf.out (by simp);clear aff Vf My HNX;go_wp2_with fail;go_ret2;exact⟨nR.out,U,HF.out,rfl⟩
  |false=>
   by_cases h0:l=0
   .subst h0
    have hd:decide ((0:Int)<(0:Nat))=false:=by decide
    have hC:=My.out W2 r nR.out HR.out;have HC:Hid (Calls _ _ _ _ _):=hC;clear hC;go_wp2_with fail;refine HC.out.mono ?_;rintro e w3 ⟨rfl,nC⟩;obtain⟨W4,LF,qA,Lh,hk4⟩:=pL w3 #[I (nz r).service,I (nz r).tag,I (nz r).node,I (nz r).mM] 67;have qP:Hid (Below w.heap.size w W4):=nR.out.trans ((nC.trans (qA.mono nC.size)).mono nR.out.size);have hq3:=fi hk4 3;clear z1 z4 z6 HC My nC qA Lh hk4 hd;go_upto_region 5 with fail
    rw[<- LF];clear LF;generalize w3.heap.size=gq at *;by_cases h1:oF r=0
    .have hp0:(oF r !=0)=false:=by simp[h1]
     have hkx:=HQK.out r h1;have hnw:=(qP.out.block b HBL.out).trans vh.out;have g1:W4.cell? ⟨b,1,U⟩=AI (I n.mM):=fi hnw 1;have g5:W4.cell? ⟨b,5,U⟩=AI (sh x5 n.gw.length k5):=fi hnw 5;obtain⟨p',f',qi,hnx⟩:=HNX.out _ hkx;have HY:Hid (∀q,q=(if Gw.sD f' n.mM (nz r).mM=0 then AI (Gw.NM n.gw p' f').addr else U)->zQ n m q):=λq hq=>aff.out q (by simpa using h1) ⟨p',f',qi,hq⟩;have HA:Hid (Gw.yO n.gw p' f' n.mM (nz r).mM=if Gw.sD f' n.mM (nz r).mM=0 then(Gw.NM n.gw p' f').addr else 0):=rfl;have C0:∀d os,Calls AT 33 #[sh x5 n.gw.length k5,I n.mM,I (nz r).mM] (Go.Sort.grow (IG W4 d) os) λe DQ=>e=Ia (Ir #[O J (Gw.yO n.gw p' f' n.mM (nz r).mM),O J (Gw.sD f' n.mM (nz r).mM)])/\∃p:Regrown,DQ=Go.Sort.grow (IG W4 p.d) p.os:=λd os=>Calls.regrown_of (hnx _ (qP.out.trans ((below_regrown W4 d os).mono qP.out.size)));have G1:=Im g1;have G5:=Im g5;have Q3:=Im hq3;clear hnx hkx qi aff Vf HNX h1 hnw;generalize(Gw.NM n.gw p' f').addr=AD at *;generalize Gw.yO n.gw p' f' n.mM (nz r).mM=A at *;generalize Gw.sD f' n.mM (nz r).mM=X' at *;generalize(nz r).mM=rc at *;generalize n.gw.length=ng at *;go_upto_region 7 with fail
     refine wp_region_quiet_below (by kernel_rfl) (by kernel_rfl) ?_;repeat(quiet_step (exact C0 _ _))
     refine oK λdq yx tB=>?_;have qB:Hid _:=qP.out.trans (tB.out.mono qP.out.size);clear C0 G1 G5 Q3 g1 g5 hq3 tB;generalize Go.Sort.grow (IG W4 dq) yx=W5 at *;by_cases hz:X'=0
     .subst hz
      have HF:Hid (zQ n m (AI A)):=HY.out _ (by rw[if_pos rfl,HA.out,if_pos rfl]);clear HY HA;go_wp2_with fail;go_ret2;exact⟨qB.out,AI A,HF.out,rfl⟩
     .have oS:(X'==0)=false:=by simpa using hz
      have HF:Hid (zQ n m U/\A=0):=⟨HY.out _ (by rw[if_neg hz]),HA.out.trans (if_neg hz)⟩;clear HY HA hz;go_wp2_with fail;go_ret2;exact⟨qB.out,U,HF.out.1,by rw[HF.out.2];rfl⟩
    .have hp0:(oF r !=0)=true:=by simpa using h1
     have HF:Hid (zQ n m U):=Vf.out (λh=>h1 h.2.2);clear aff Vf HNX h1;generalize oF r=pe at *;go_wp2_with fail;go_ret2;exact⟨qP.out,U,HF.out,rfl⟩
   .have hd:0<l:=by omega
    have HF:Hid (zQ n m U):=Vf.out (λh=>h0 h.2.1);clear aff Vf My HNX h0;go_wp2_with fail;go_ret2;exact⟨nR.out,U,HF.out,rfl⟩
 |none=>
  have hx:=HMV.out.2.1.1 yr;have hx0:(X !=0)=true:=by simpa using hx
  have HF:Hid (zQ n m U):=by rw[yr];exact rfl
  clear HSO HMV My HNX hx yr;go_wp2_with fail;go_ret2;exact⟨nR.out,U,HF.out,rfl⟩
theorem abg{α:Type}{l:List α}{i:Nat}(h:i<l.length)(d:α):l.getD i d∈l:=by rw[List.getD,List.getElem?_eq_getElem h];exact List.getElem_mem h
theorem ajJ{n:Nd}(h:n.e=0):Ab n.mM n.sv n.ms n.p n.wh=0:=by
 have hp:=Nd.parts (Nd.wM h).1;unfold Ab;rw[if_pos hp.mM,if_pos hp.sv,if_pos hp.ms];have hz:=Wh.mU hp.wh;refine adB (by have:=hz.1;omega) hp.p (λj hj=>?_);have e:=Wh.pY _ hz.2.2 _ (abg hj Wh.dm);unfold Wh.nZ.e at e;split at e
 .exact e
 .exact absurd e (by decide)
def zS(n:Nd)(m:Option Ms)(s:ByteArray)(e:QG):Prop:=(n.e≠0/\e=Ia (Ir #[I ⟨#[]⟩,O J 0,Ic false,O J n.e]))\/(n.e=0/\∃r:Option Int,zQ n m r/\e=Ia (Ir #[I (if r.isSome=true then s else vc s n.mM n.sv n.ms n.p n.wh),O J (r.getD 0),Ic r.isSome,O J 0]))
theorem aik(n:Nd)(vm vr vs vg vw:Value)(s:ByteArray)(m:Option Ms)(w:World)(hrd:amv s m)(zK:ML w)(hn:uL w n vm vr vs vg vw) :
 Calls AT 4 #[Iu (sR n vm vr vs vg vw),I s] w λe w'=>Below w.heap.size w w'/\zS n m s e:=by
 have yt:Hid (∀W,Below w.heap.size w W->Calls _ _ _ _ _):=λW hW=>A6 n vm vr vs vg vw W (hn.below hW);have HON:Hid (n.e=0->∀(W:World) (b:Nat),Below w.heap.size w W->W.heap[b]?=AI (Ib (sR n vm vr vs vg vw) 41 (0,0))->Calls _ _ _ _ _):=λh0 W b hW hb=>Ve n vm vr vs vg vw b s m W hrd (zK.below hW) hb (hn.below hW) h0;obtain⟨⟨x2,c2,rfl,h2⟩,⟨x3,c3,rfl,_⟩,⟨x4,c4,rfl,h4⟩,⟨x5,c5,rfl,_⟩,⟨x11,c11,rfl,h11⟩,_,rF⟩:=id hn;have HRP:Hid (n.e=0->∀W,Below w.heap.size w W->Calls AT 10 #[I s,I n.mM,sh x4 n.sv.length c4,sh x2 n.ms.length c2,Iu #[O J n.p.x,O J n.p.y,O J n.p.z,O J n.p.h,O J n.p.s],sh x11 n.wh.length c11] W λe w'=>(∃b,e=Ia (Ir #[I (vc s n.mM n.sv n.ms n.p n.wh),Ic b,O J 0]))/\Below W.heap.size W w'):=λh0 W hW=>by
  refine(aaR n.mM x4 x2 x11 n.sv.length c4 n.ms.length c2 n.wh.length c11 n.p.x n.p.y n.p.z n.p.h n.p.s s n.sv n.ms n.wh W (zK.below hW) rF (hn.sv.below hW) (hn.ms.below hW) (hn.wh.below hW)).mono ?_;rintro e w' ⟨rfl,hb⟩;exact⟨⟨_,by rw[ajJ h0]⟩,hb⟩
 clear h2 h4 h11 hn zK rF hrd;obtain⟨W0,rm,rG,-,k0⟩:=pL w (sR n (sh x2 n.ms.length c2) (sh x3 n.rs.length c3) (sh x4 n.sv.length c4) (sh x5 n.gw.length c5) (sh x11 n.wh.length c11)) 30;have pN:Hid _:=rG;have Et:Hid _:=k0;obtain⟨a0,a1,a2,a3,a4,a5,a6,a7,a8,a9,a10,a11⟩:=oA k0;have Mp:=yt.out W0 pN.out;have HC:Hid (Calls _ _ _ _ _):=Mp;have HAS:Hid (∀r:Option Int,n.e=0->zQ n m r->zS n m s (Ia (Ir #[I (if r.isSome=true then s else vc s n.mM n.sv n.ms n.p n.wh),O J (r.getD 0),Ic r.isSome,O J 0]))):=λr h0 hr=>.inr ⟨h0,r,hr,rfl⟩;have HAN:Hid (n.e≠0->zS n m s (Ia (Ir #[I ⟨#[]⟩,O J 0,Ic false,O J n.e]))):=λh0=>.inl ⟨h0,rfl⟩;clear rG k0 Mp yt;go_enter func4,ntmps4;go_upto_region 1 with fail
 rw[<- rm];clear rm;go_wp2_with fail;refine HC.out.mono ?_;rintro e w1 ⟨rfl,mO⟩;have mY:Hid _:=pN.out.trans (mO.mono pN.out.size);have wH:Hid _:=(mO.block _ (Ig.1 Et.out).1).trans Et.out;clear mO a0 a1 a2 a3 a4 a5 a6 a7 a8 a9 a10 a11 HC pN Et;by_cases h0:n.e=0
 .obtain⟨a0,a1,a2,a3,a4,a5,a6,a7,a8,a9,a10,a11⟩:=oA wH.out
  have he0:(n.e !=0)=false:=by simp[h0]
  obtain⟨W2,sx,mZ,AP,k2⟩:=pL w1 (sR n (sh x2 n.ms.length c2) (sh x3 n.rs.length c3) (sh x4 n.sv.length c4) (sh x5 n.gw.length c5) (sh x11 n.wh.length c11)) 41;have nR:Hid _:=mY.out.trans (mZ.mono mY.out.size);have vN:Hid _:=(mZ.block _ (Ig.1 wH.out).1).trans wH.out;have hon:=HON.out h0 W2 w1.heap.size nR.out k2;have aqV:Hid (Calls _ _ _ _ _):=hon;have amw:=HRP;have aqW:=HAS;have H0:Hid _:=h0;clear HON HRP HAS HAN mZ AP k2 hon;go_upto_region 5 with fail
  rw[<- sx];clear sx a0 a1 a2 a3 a4 a5 a6 a7 a8 a9 a10 a11;generalize w1.heap.size=gw at *;go_wp2_with fail;refine aqV.out.mono ?_;rintro e w3 ⟨nC,r,hr,rfl⟩;have oT:Hid _:=nR.out.trans (nC.mono nR.out.size);have Ac:Hid _:=(nC.block _ (Ig.1 vN.out).1).trans vN.out;have HE:Hid (zS _ _ _ _):=aqW.out r H0.out hr;clear nC aqV hr aqW;cases r with
  |some A=>
   simp only[Option.isSome_some,Option.getD_some,if_true] at HE ⊢;clear amw;go_wp2_with fail;exact IE (v:=Ir #[I s,O J A,Ic true,O J 0]) (by simp[results,results4,go_sem]) rfl ⟨oT.out,HE.out⟩
  |none=>
   simp only[Option.isSome_none,Option.getD_none,Bool.false_eq_true,if_false] at HE ⊢;obtain⟨a0,a1,a2,a3,a4,a5,a6,a7,a8,a9,a10,a11⟩:=oA Ac.out;have hrp:=amw.out H0.out w3 oT.out;have Rl:Hid (Calls _ _ _ _ _):=hrp;clear hrp amw;generalize vc s n.mM n.sv n.ms n.p n.wh=RT at *;go_wp2_with fail;refine Rl.out.mono ?_;rintro e w4 ⟨⟨b,rfl⟩,qA⟩;have qP:Hid _:=oT.out.trans (qA.mono oT.out.size);clear qA Rl a0 a1 a2 a3 a4 a5 a6 a7 a8 a9 a10 a11;go_wp2_with fail;exact IE (v:=Ir #[I RT,O J 0,Ic false,O J 0]) (by simp[results,results4,go_sem]) rfl ⟨qP.out,HE.out⟩
 .have he0:(n.e !=0)=true:=by simpa using h0
  have HE:Hid (zS _ _ _ _):=HAN.out h0;clear HON HRP HAS HAN h0;generalize n.e=ne at *;go_wp2_with fail;exact IE (v:=Ir #[I ⟨#[]⟩,O J 0,Ic false,O J ne]) (by simp[results,results4,go_sem]) rfl ⟨mY.out,HE.out⟩
theorem afg{q:Qu}(h:rH q=0)(nK:q.mM≠Ie):mT q.mM=true:=by
 have hq:=(EG h).1;unfold pt at hq;split at hq
 .cases hq
 .split at hq
  .cases hq
  .rename_i h1
   have h2:[q.service,q.tag,q.node,q.mM].all pK=true:=by simpa using h1
   simp only[List.all_cons,List.all_nil,Bool.and_true,Bool.and_eq_true] at h2;have h3:=h2.2.2.2;unfold pK at h3;simpa[nK] using h3
theorem aqX{n:Nd}{M:Ms}(h0:n.e=0)(hc:M.mX=false/\M.rs.length=0/\oF M.R=0){a:Int}(hA:Gw.AtI n.gw (nz M.R).mM a) :
 ∃r,zQ n (AI M) r/\(((nz M.R).mM=Ie\/(nz M.R).mM=n.mM\/a<0)/\r=U\/(nz M.R).mM≠Ie/\(nz M.R).mM≠n.mM/\∃k:Nat,a=k/\k<n.gw.length/\r=AI (n.gw.getD k Gw.dm).addr):=by
 have hp:=Nd.parts (Nd.wM h0).1;have hq:=aeZ hc.2.2;obtain⟨p,f,qi⟩:=Gw.KX n.gw (Gw.mU hp.gw).2.1 ⟨(nz M.R).mM,0,0⟩;obtain⟨g1,g2⟩:=Gw.alf hA qi (Gw.mU hp.gw).2.1;refine⟨if Gw.sD f n.mM (nz M.R).mM=0 then AI (Gw.NM n.gw p f).addr else U,?_,?_⟩
 .unfold zQ;simp only;rw[if_pos hc];exact⟨p,f,qi,rfl⟩
 generalize hqq:nz M.R=q at *;unfold Gw.sD;by_cases e1:q.mM=Ie
 .left
  refine⟨.inl e1,?_⟩
  have:mT q.mM=false:=by rw[e1];decide
  rw[this];simp
 by_cases e2:q.mM=n.mM
 .left
  refine⟨.inr (.inl e2),?_⟩;rw[e2];simp[hp.mM]
 have e3:=afg hq e1;rw[hp.mM,e3];have e4:¬ n.mM=q.mM:=λh=>e2 h.symm;simp only[Bool.and_self,if_true,if_neg e4];cases f with
 |false=>
  left;have:=g2 rfl;exact⟨.inr (.inr (by omega)),by simp⟩
 |true=>
  right;have ha:=g1 rfl;refine⟨e1,e2,p,ha,?_,by simp[Gw.NM]⟩;rcases hA with⟨k,hk,rfl,_⟩|⟨rfl,_⟩
  .omega
  .omega
theorem afh{n:Nd}{m:Option Ms}{r r':Option Int}(h:zQ n m r)(h':zQ n m r'):r=r':=by
 cases m with
 |none=>exact h.trans h'.symm
 |some M=>
  unfold zQ at h h';simp only at h h';by_cases hc:M.mX=false/\M.rs.length=0/\oF M.R=0
  .rw[if_pos hc] at h h'
   obtain⟨p,f,qi,rfl⟩:=h;obtain⟨p',f',SS,rfl⟩:=h';obtain⟨rfl,rfl⟩:=Gw.vY qi SS;rfl
  .rw[if_neg hc] at h h'
   exact h.trans h'.symm
theorem Da(s:ByteArray):(xz s=U/\CY s≠0)\/∃M,xz s=AI M/\CY s=0/\nx M.id M.code M.mQ M.R M.rs=0:=by
 cases h:xz s with
 |none=>
  refine .inl ⟨rfl,?_⟩;unfold CY;by_cases h1:s.size<=512
  .rw[if_pos h1]
   by_cases h2:vQ s=0
   .exfalso
    unfold xz at h;rw[if_pos ⟨h1,h2⟩] at h;unfold vQ at h2;rw[h] at h2;exact absurd h2 (by decide)
   .rw[if_neg h2];decide
  .rw[if_neg h1];decide
 |some M=>
  refine .inr ⟨M,rfl,?_,B8 h⟩;unfold xz at h;by_cases h2:s.size<=512/\vQ s=0
  .unfold CY;rw[if_pos h2.1,if_pos h2.2]
  .rw[if_neg h2] at h;cases h
theorem afi(s:ByteArray):amv s (xz s):=λW=>by
 refine(ae4 s W).mono ?_;intro e w' hp;obtain⟨i,a,c,o,r,y,p,l,k,he,hm,hb⟩:=L5 hp;refine⟨i,a,c,o,r,y,p,l,k,_,he,⟨hm.out,?_,λM hM=>?_⟩,hb⟩
 .rcases Da s with⟨h1,h2⟩|⟨M,h1,h2,_⟩
  .exact⟨λ_=>h2,λ_=>h1⟩
  .rw[h1,h2];simp
 .rcases Da s with⟨h1,_⟩|⟨M',h1,_,h3⟩
  .rw[h1] at hM;cases hM
  .rw[h1] at hM;injection hM with hM;subst hM;exact h3
theorem EH{P:Prop}(h:P:=by
 obtain⟨a0,a1,a2,a3,a4,a5,a6,a7,a8,a9,a10,a11⟩:=oA Co.out;have hrp:=HRP.out w5 qP.out;obtain⟨RT,hRT⟩:∃RT,RT=vc s n.mM n.sv n.ms n.p n.wh:=⟨_,rfl⟩;rw[<- hRT] at hrp;have HRT:Hid _:=hRT;have HR9:Hid (Calls _ _ _ _ _):=hrp;clear hrp HRP hRT;go_wp2_with fail;refine HR9.out.mono ?_;rintro e w9 ⟨⟨b,rfl⟩,tv⟩;have uy:Hid _:=qP.out.trans (tv.mono qP.out.size);clear tv HR9 a0 a1 a2 a3 a4 a5 a6 a7 a8 a9 a10 a11;go_wp2_with fail;exact IE (v:=Ir #[I RT,O J 0,Ic false]) (by simp[results,results6,go_sem]) rfl ⟨uy.out,U,HF.out,by rw[HRT.out];rfl⟩):P:=h
theorem Mf{P:Prop}(h:P:=by
 obtain⟨a0,a1,a2,a3,a4,a5,a6,a7,a8,a9,a10,a11⟩:=oA wH.out;have hrp:=HRP.out W1 mY.out;obtain⟨RT,hRT⟩:∃RT,RT=vc s n.mM n.sv n.ms n.p n.wh:=⟨_,rfl⟩;rw[<- hRT] at hrp;have HRT:Hid _:=hRT;have HR9:Hid (Calls _ _ _ _ _):=hrp;clear hrp HRP hRT;go_wp2_with fail;refine HR9.out.mono ?_;rintro e w9 ⟨⟨b,rfl⟩,tv⟩;have uy:Hid _:=mY.out.trans (tv.mono mY.out.size);clear tv HR9 a0 a1 a2 a3 a4 a5 a6 a7 a8 a9 a10 a11 z1 z4 z6;go_wp2_with fail;exact IE (v:=Ir #[I RT,O J 0,Ic false]) (by simp[results,results6,go_sem]) rfl ⟨uy.out,U,HF.out,by rw[HRT.out];rfl⟩):P:=h
theorem abh(n:Nd)(vm vr vs vg vw:Value)(s:ByteArray)(w:World)(hn:uL w n vm vr vs vg vw)(h0:n.e=0) :
 Calls AT 6 #[Iu (sR n vm vr vs vg vw),I s] w λe w'=>Below w.heap.size w w'/\∃r:Option Int,zQ n (xz s) r/\e=Ia (Ir #[I (if r.isSome=true then s else vc s n.mM n.sv n.ms n.p n.wh),O J (r.getD 0),Ic r.isSome]):=by
 have hp:=Nd.parts (Nd.wM h0).1;have HMO:Hid (∀W,Calls _ _ _ _ _):=λW=>ajA s W;have My:Hid (∀(W:World) (t:ByteArray),t.size<=2000000->Calls _ _ _ _ _):=λW t ht=>DI t W ht;obtain⟨⟨x2,c2,rfl,_⟩,⟨x3,c3,rfl,_⟩,⟨x4,c4,rfl,_⟩,⟨x5,c5,rfl,_,hgr⟩,⟨x11,c11,rfl,_⟩,_,rF⟩:=id hn;have HGA:Hid (∀(W:World) (t:ByteArray),Below w.heap.size w W->Calls AT 22 #[sh x5 n.gw.length c5,I t] W λe w'=>∃r:Int,e=Ia (O J r)/\Hid (Gw.AtI n.gw t r)/\w'=W):=λW t hW=>Gw.aao n.gw _ t W (hn.gw.below hW) (by
  have:=(Gw.mU hp.gw).1;omega)
 have HRP:Hid (∀W,Below w.heap.size w W->Calls AT 23 #[I s,I n.mM,sh x4 n.sv.length c4,sh x2 n.ms.length c2,Iu #[O J n.p.x,O J n.p.y,O J n.p.z,O J n.p.h,O J n.p.s],sh x11 n.wh.length c11] W λe w'=>(∃b,e=Ia (Ir #[I (vc s n.mM n.sv n.ms n.p n.wh),Ic b,O J 0]))/\Below W.heap.size W w'):=λW hW=>by
  refine(PI n.mM x4 x2 x11 n.sv.length c4 n.ms.length c2 n.wh.length c11 n.p.x n.p.y n.p.z n.p.h n.p.s s n.sv n.ms n.wh W rF (hn.sv.below hW) (hn.ms.below hW) (hn.wh.below hW)).mono ?_;rintro e w' ⟨rfl,hb⟩;exact⟨⟨_,by rw[ajJ h0]⟩,hb⟩
 have xu:Hid _:=hgr;have HON:Hid (∀M,xz s=AI M->M.mX=false/\M.rs.length=0/\oF M.R=0->∀a,Gw.AtI n.gw (nz M.R).mM a->_):=λM hm hc a ha=>aqX h0 hc ha;have HOF:Hid (∀M,xz s=AI M->¬ (M.mX=false/\M.rs.length=0/\oF M.R=0)->zQ n (xz s) U):=λM hm hc=>by
  rw[hm];unfold zQ;simp only;rw[if_neg hc];trivial
 clear hn h0 hgr rF hp;obtain⟨W0,rm,rG,-,k0⟩:=pL w (sR n (sh x2 n.ms.length c2) (sh x3 n.rs.length c3) (sh x4 n.sv.length c4) (sh x5 n.gw.length c5) (sh x11 n.wh.length c11)) 30;have pN:Hid _:=rG;have Et:Hid _:=k0;clear rG k0;go_enter func6,ntmps6;go_upto_region 1 with fail
 rw[<- rm];clear rm;go_wp2_with fail;refine(HMO.out W0).mono ?_;intro e w1 hpp;obtain⟨i,an,cu,o,r,y,p,l,k,rfl,WJ,mO⟩:=L5 hpp;obtain⟨W1,uj,mZ,-,k1⟩:=pL w1 #[O J i,Ic an,Ic cu,O J o,I r,O J y,sh p l k] 63;have amy:=mO.trans (mZ.mono mO.size);have mY:Hid _:=pN.out.trans (amy.mono pN.out.size);have wH:Hid _:=(amy.block _ (Ig.1 Et.out).1).trans Et.out;have HMV:Hid (MsV _ _ _):=WJ.out;have z1:=fi k1 1;have z4:=fi k1 4;have z6:=fi k1 6;clear hpp WJ mO mZ amy k1 pN Et HMO;go_upto_region 2 with fail
 rw[<- uj];clear uj;generalize w1.heap.size=gm at *;rcases Da s with⟨hm,hx⟩|⟨M,hm,hx,Mp⟩
 .have hx0:(CY s==0)=false:=by simpa using hx
  have HF:Hid (zQ n (xz s) U):=by rw[hm];exact rfl
  clear hx hm HMV HON HOF HGA My xu;generalize CY s=X at *;exact Mf
 .have WJ:=HMV.out
  have yr:=hm;rw[hm] at WJ;obtain⟨v,DA,_,XZ⟩:=WJ;have hl:l=M.rs.length/\r=M.R/\an=M.mX:=by
   obtain⟨_,_,he,_,_⟩:=DA;simp only[he,Array.mk.injEq,List.cons.injEq,Value.int.injEq,Value.string.injEq,Value.bool.injEq,Value.slice.injEq,true_and,and_true] at XZ;obtain⟨_,h2,_,_,h5,_,_,h8,_⟩:=XZ;exact⟨h8,h5,h2⟩
  obtain⟨e1,e2,e3⟩:=hl;have HNF:Hid (¬ (an=false/\l=0/\oF r=0)->zQ n (xz s) U):=by rw[e1,e2,e3];exact HOF.out M yr
  have HYF:Hid (an=false/\l=0/\oF r=0->∀a,Gw.AtI n.gw (nz r).mM a->∃q,zQ n (xz s) q/\(((nz r).mM=Ie\/(nz r).mM=n.mM\/a<0)/\q=U\/(nz r).mM≠Ie/\(nz r).mM≠n.mM/\∃k:Nat,a=k/\k<n.gw.length/\q=AI (n.gw.getD k Gw.dm).addr)):=by
   rw[e1,e2,e3,yr];exact λhc a ha=>HON.out M yr hc a ha
  have HR:Hid (r.size<=2000000):=by have:=(qb (oM Mp).2.1).1;show _<=_;rw[e2];omega
  rw[hx];clear XZ DA e1 e2 e3 HON HOF HMV Mp hm yr;cases an with
  |true=>
   have HF:Hid (zQ _ _ _):=HNF.out (by simp);clear HNF HYF HGA My xu;exact Mf
  |false=>
   by_cases GY:l=0
   .subst GY
    have Lv:=My.out W1 r HR.out;have HP1:Hid (Calls _ _ _ _ _):=Lv;clear Lv My;go_wp2_with fail;refine HP1.out.mono ?_;rintro e w3 ⟨rfl,nC⟩;obtain⟨W4,LF,qA,-,k4⟩:=pL w3 #[I (nz r).service,I (nz r).tag,I (nz r).node,I (nz r).mM] 67;have amA:=nC.trans (qA.mono nC.size);have qP:Hid _:=mY.out.trans (amA.mono mY.out.size);have Co:Hid _:=(amA.block _ (Ig.1 wH.out).1).trans wH.out;have q3:=fi k4 3;have n5:=fi Co.out 5;have n1:=fi Co.out 1;have wY:=HGA.out W4 (nz r).mM qP.out;have HG4:Hid (Calls _ _ _ _ _):=wY;clear z1 z4 z6 nC qA amA k4 HP1 mY wH wY HGA;go_upto_region 4 with fail
    rw[<- LF];clear LF;generalize w3.heap.size=gq at *;go_wp2_with fail;refine HG4.out.mono ?_;rintro e w5 ⟨at',rfl,qi,DV⟩;subst DV;by_cases Ew:oF r=0
    .have hp0:(oF r==0)=true:=by simp[Ew]
     obtain⟨q,hq,oH⟩:=HYF.out (by simpa using Ew) at' qi.out;have Ko:Hid ((nz r).mM≠Ie->((nz r).mM.toList==[])=false/\¬ (nz r).mM.toList=[]):=λh=>oC (λe=>h (nB e));clear HNF HYF qi HG4 Ew HR;rcases oH with⟨h1,rfl⟩|⟨h1,h2,kk,rfl,hk,rfl⟩
     .have HF:Hid (zQ _ _ _):=hq
      clear hq xu;by_cases g1:(nz r).mM=Ie
      .have hc2:(nz r).mM.toList=[]:=by rw[g1,Lib.toList_data];rfl
       have zq:((nz r).mM.toList==[])=true:=by rw[hc2];rfl
       have hc3:((nz r).mM.toList !=[])=false:=by rw[hc2];rfl
       clear h1 g1 Ko;generalize(nz r).mM=qc at *;exact EH
      .obtain⟨zq,hc2⟩:=Ko.out g1
       have hc3:((nz r).mM.toList !=[])=true:=by simpa using hc2
       by_cases g2:(nz r).mM=n.mM
       .have hc4:(n.mM.toList==n.mM.toList)=true:=by simp
        have hc5:(n.mM.toList !=n.mM.toList)=false:=by simp
        have q3':=q3.trans (show(#[I (nz r).service,I (nz r).tag,I (nz r).node,I (nz r).mM]:Array Value)[3]?=AI (I n.mM) by rw[g2];rfl);rw[g2] at zq hc2 hc3;clear h1 g1 g2 Ko q3;exact EH
       .obtain⟨hc4,hc5⟩:=o0 g2
        have hc6:=(yM _ _).2 g2;have mS:at'<0:=by
         rcases h1 with h|h|h
         .exact absurd h g1
         .exact absurd h g2
         .exact h
        have hd:=decide_eq_false (by omega);have hd2:¬ (0:Int)<=at':=by omega
        clear h1 g1 g2 Ko;generalize(nz r).mM=qc at *;exact EH
     .obtain⟨zq,hc2⟩:=Ko.out h1
      have hc3:((nz r).mM.toList !=[])=true:=by simpa using hc2
      obtain⟨hc4,hc5⟩:=o0 h2;have hc6:=(yM _ _).2 h2;obtain⟨bg,og,hx5,nE,pO⟩:∃b off,x5=AI ⟨b,off,U⟩/\b<w.heap.size/\Gw.Row w b off n.gw:=by
       rcases xu.out with h|h
       .rw[h] at hk;simp at hk
       .exact h
      subst hx5;obtain⟨_,g1,_⟩:=pO kk hk;have g1':=(qP.out.cell (p:=⟨bg,og+kk*3+1,U⟩) nE).trans g1;have hki:(kk:Int)<(n.gw.length:Int):=by omega
      have hd:=decide_eq_true (by omega);have HF:Hid (zQ _ _ _):=hq;clear h1 h2 Ko xu pO g1 nE hq HRP;generalize(n.gw.getD kk Gw.dm).addr=ad at *;generalize n.gw.length=ng at *;generalize(nz r).mM=qc at *;go_wp2_with fail;go_quiet (fail)
      go_wp2_with fail;exact IE (v:=Ir #[I s,O J ad,Ic true]) (by simp[results,results6,go_sem]) rfl ⟨below_drewN qP.out _,AI ad,HF.out,rfl⟩
    .have hp0:(oF r==0)=false:=by simpa using Ew
     have HF:Hid (zQ _ _ _):=HNF.out (λh=>Ew h.2.2);clear HNF HYF qi HG4 Ew xu;generalize oF r=pe at *;exact EH
   .have HF:Hid (zQ _ _ _):=HNF.out (λh=>GY h.2.1)
    have o8:((l:Int)==0)=false:=by simpa using GY
    clear HNF HYF HGA My xu;exact Mf
def yY(n:Nd)(ne:Int)(w:World)(e:QG)(w':World):Prop:=Below w.heap.size w w' /\
 ((ne≠0/\e=Ia (Ir #[Iu #[I ⟨#[]⟩,I ⟨#[]⟩,sh U 0 0,sh U 0 0,sh U 0 0,sh U 0 0,O J 0,O J 0,O J 0,O J 0,O J 0,sh U 0 0],Iu #[I ⟨#[]⟩,Ic false,sh U 0 0,sh U 0 0,sh U 0 0,sh U 0 0],O J ne])) \/
 (ne=0/\∃n' um ur us ug uw a k c l,e=Ia (Ir #[Iu (sR n' um ur us ug uw),Iu #[I n.name,Ic false,sh a k c,sh U 0 0,sh U 0 0,sh U 0 0],O J 0])/\n'={ n with rs:=n'.rs }/\Be n l n'.rs/\uB w.heap.size w' n' um ur us ug uw/\Eb n'/\Own w.heap.size w' (sh a k c) l))
def WR(n:Nd)(tb B:Nat)(n':Nd)(W:World):Prop:=∃a k c l,n'={ n with rs:=n'.rs }/\Be n l n'.rs/\W.heap[tb]?=AI (Ib #[I n.name,Ic false,sh a k c,sh U 0 0,sh U 0 0,sh U 0 0] 76 (0,0))/\Own B W (sh a k c) l
theorem afj(n:Nd)(vm vr vs vg vw:Value)(w:World)(h:uL w n vm vr vs vg vw) :
 ni 28 #[Iu (sR n vm vr vs vg vw)] w λe w'=>yY n n.e w e w':=by
 have HWS:Hid (∀W0,Below w.heap.size w W0->W0.heap.size=w.heap.size+4->W0.heap[w.heap.size+3]?=AI (Ib #[I ⟨#[]⟩,Ic false,sh U 0 0,sh U 0 0,sh U 0 0,sh U 0 0] 76 (0,0))->ni 53 #[Iu (sR n vm vr vs vg vw),.func (.func 58) #[] #[Ik (AI ⟨w.heap.size+3,0,U⟩)]] W0 λe w'=>xA n.e 0 (λk=>k=w.heap.size+3) (WR n (w.heap.size+3) (W0.heap.size+2)) W0 e w'):=λW0 hb hs hc=>
  KN 58 #[Ik (AI ⟨w.heap.size+3,0,U⟩)] (enters_of func58 (by kernel_rfl) rfl) n vm vr vs vg vw W0 (h.below hb) (λk=>k=w.heap.size+3) 0 (WR n (w.heap.size+3) (W0.heap.size+2))
   (λhe W b hW mZ hk=>by
    refine(abf (W0.heap.size+2) b (w.heap.size+3) n W hk (by omega) (Nd.sp he) ((hW.block _ (by omega)).trans hc)).mono ?_;rintro e w' ⟨rfl,AP,a,k,c,l,rest,HT,hbx,ho,hwk⟩;have rj:=hk.lt;exact⟨rfl,AP.mono (λk hk=>by omega),λ_=>⟨_,hwk,a,k,c,l,rfl,HT.out,hbx,ho.mono (by omega)⟩⟩)
   (λn' W j x hR=>by
    obtain⟨a,k,c,l,h1,h2,h3,h4⟩:=hR;exact⟨a,k,c,l,h1,h2,(Below.heap_setCell _ _ _ _ (by simp only;omega)).trans h3,ownsRow_setCell_below h4 (by simp only;omega) _⟩)
   (λ_ hk=>by omega)
 generalize aaj:n.e=ne at *;clear aaj;have HN:Hid (∃n0,n0=n):=⟨_,rfl⟩;obtain⟨N,hN⟩:∃N,N=n:=⟨_,rfl⟩;rw[<- hN] at HWS ⊢;have vj:Hid (N.name=n.name):=by rw[hN];rfl
 obtain⟨nm,ct,ms,rs,sv,gw,⟨px,py,pz,ph,pq⟩,wh⟩:=n;obtain⟨⟨em,cm,rfl,_,_⟩,⟨PJ,cr,rfl,_,_⟩,⟨es,PK,rfl,_,_⟩,⟨PM,cg,rfl,_,_⟩,⟨eh,ch,rfl,_,_⟩,_,_⟩:=h;have hA:sR N (sh em ms.length cm) (sh PJ rs.length cr) (sh es sv.length PK) (sh PM gw.length cg) (sh eh wh.length ch)=#[I nm,I ct,sh em ms.length cm,sh PJ rs.length cr,sh es sv.length PK,sh PM gw.length cg,O J px,O J py,O J pz,O J ph,O J pq,sh eh wh.length ch]:=by rw[hN]
 simp only[hA] at HWS ⊢;clear hA hN HN;simp only at vj;generalize ms.length=km at *;generalize rs.length=kr at *;generalize sv.length=ks at *;generalize gw.length=kg at *;generalize wh.length=kh at *;obtain⟨W0,rm,rG,Ct,hx0,oS,hy0,ht0⟩:=alB w #[I nm,I ct,sh em km cm,sh PJ kr cr,sh es ks PK,sh PM kg cg,O J px,O J py,O J pz,O J ph,O J pq,sh eh kh ch] #[I ⟨#[]⟩,I ⟨#[]⟩,sh U 0 0,sh U 0 0,sh U 0 0,sh U 0 0,O J 0,O J 0,O J 0,O J 0,O J 0,sh U 0 0] #[I ⟨#[]⟩,Ic false,sh U 0 0,sh U 0 0,sh U 0 0,sh U 0 0] #[I ⟨#[]⟩,Ic false,sh U 0 0,sh U 0 0,sh U 0 0,sh U 0 0] 30 30 76 76;have HWC:=HWS.out W0 rG Ct ht0;have pN:Hid _:=rG;have Wl:Hid _:=oS;have HY0:Hid _:=hy0;have HT0:Hid _:=ht0;clear rG oS hy0 ht0 hx0 HWS;go_enter func28,ntmps28;go_wp2_with fail;rw[<- rm];refine HWC.mono ?_;rintro e w1 ⟨EJ,Er⟩;have sj:w.heap.size+4<=w1.heap.size:=by have:=EJ.size;omega
 have mY:Hid _:=pN.out.trans (EJ.below (by omega) (λk hk=>by omega));have Tq:Hid _:=(EJ.block _ (by omega) (by omega)).trans Wl.out;have HY1:Hid _:=(EJ.block _ (by omega) (by omega)).trans HY0.out;clear EJ HWC rm;obtain⟨u0,u1,b2,m2,e2,b3,m3,e3,b4,m4,e4,b5,m5,e5,u6,u7,u8,u9,u10,b11,m11,e11,r,s0,ta,tk,tc,rfl,WL,SQ⟩:∃u0 u1 b2 m2 e2 b3 m3 e3 b4 m4 e4 b5 m5 e5 u6 u7 u8 u9 u10 b11 m11 e11 r s0 ta tk tc,e=Ia (Ir #[Iu #[I u0,I u1,sh b2 m2 e2,sh b3 m3 e3,sh b4 m4 e4,sh b5 m5 e5,O J u6,O J u7,O J u8,O J u9,O J u10,sh b11 m11 e11],O J r])/\Hid (w1.heap[w.heap.size+3]?=AI (Ib #[I s0,Ic false,sh ta tk tc,sh U 0 0,sh U 0 0,sh U 0 0] 76 (0,0)))/\Hid (∀WF:World,Below w.heap.size w WF->(∀{base n k:Nat} {T:Ji} {v:Value} {xs:List Value},w.heap.size+1+1<base->w1.ownsRow base T k v n xs->WF.ownsRow base T k v n xs)->yY N ne w (Ia (Ir #[Iu #[I u0,I u1,sh b2 m2 e2,sh b3 m3 e3,sh b4 m4 e4,sh b5 m5 e5,O J u6,O J u7,O J u8,O J u9,O J u10,sh b11 m11 e11],Iu #[I s0,Ic false,sh ta tk tc,sh U 0 0,sh U 0 0,sh U 0 0],O J r])) WF):=by
  rcases Er with⟨nK,Al,rfl⟩|⟨_,PN,_⟩|⟨nK,_,n',um,ur,us,ug,uw,rfl,hown,tR,ta,tk,tc,l,hn',hT,hbx,hol⟩
  .exact⟨_,_,_,_,_,_,_,_,_,_,_,_,_,_,_,_,_,_,_,_,_,_,_,_,_,_,_,rfl,(Al.block _ (by omega)).trans HT0.out,λWF hb _=>⟨hb,.inl ⟨nK,rfl⟩⟩⟩
  .exact absurd rfl PN
  .have hf:∀WF:World,(∀{base n k:Nat} {T:Ji} {v:Value} {xs:List Value},w.heap.size+1+1<base->w1.ownsRow base T k v n xs->WF.ownsRow base T k v n xs)->uB w.heap.size WF n' um ur us ug uw/\Own w.heap.size WF (sh ta tk tc) l:=λWF how=>⟨⟨Own.mono (how (by omega) hown.ms) (by omega),oE.base (how (by omega) hown.rs) (by omega),Sv.Own.mono (how (by omega) hown.sv) (by omega),Gw.Own.mono (how (by omega) hown.gw) (by omega),Wh.Own.mono (how (by omega) hown.wh) (by omega)⟩,Own.mono (how (by omega) hol) (by omega)⟩
   obtain⟨im2,jm2,Ec,_⟩:=mR hown.ms;obtain⟨ir2,jr2,LI,_⟩:=mR hown.rs;obtain⟨is2,js2,TZ,_⟩:=mR hown.sv;obtain⟨ig2,jg2,T0,_⟩:=mR hown.gw;obtain⟨ih2,jh2,T1,_⟩:=mR hown.wh;subst Ec LI TZ T0 T1;exact⟨_,_,_,_,_,_,_,_,_,_,_,_,_,_,_,_,_,_,_,_,_,_,_,_,ta,tk,tc,rfl,hbx,λWF hb how=>⟨hb,.inr ⟨nK,n',_,_,_,_,_,ta,tk,tc,l,rfl,hn',hT,(hf WF how).1,tR,(hf WF how).2⟩⟩⟩
 clear Er;obtain⟨W5,GF,sK,-,TC⟩:=pL w1 #[I u0,I u1,sh b2 m2 e2,sh b3 m3 e3,sh b4 m4 e4,sh b5 m5 e5,O J u6,O J u7,O J u8,O J u9,O J u10,sh b11 m11 e11] 30;have uJ:=(sK.block _ (by omega)).trans Tq.out;have hy5:=(sK.block _ (by omega)).trans HY1.out;have ht5:=(sK.block _ (by omega)).trans WL.out;have hs5:w1.heap.size<W5.heap.size:=by rw[GF];simp
 have qB:Hid _:=mY.out.trans (sK.mono mY.out.size);have HZ5:Hid _:=uJ;have HY5:Hid _:=hy5;have aq1:Hid _:=sK;obtain⟨p0,p1,p2,p3,p4,p5,p6,p7,p8,p9,p10,p11⟩:=oA TC;obtain⟨q0,q1,q2,q3,q4,q5,q6,q7,q8,q9,q10,q11⟩:=oA uJ;obtain⟨qz0,qz1,qz2,qz3,qz4,qz5,qz6,qz7,qz8,qz9,TV,TW⟩:=FH uJ;obtain⟨r0,r1,r2,r3,r4,r5⟩:=xQ hy5;obtain⟨rz0,rz1,rz2,rz3,rz4,rz5⟩:=adO hy5;obtain⟨t0,t1,t2,t3,t4,t5⟩:=xQ ht5;clear sK TC uJ hy5 ht5;have ne1:w.heap.size+1≠w1.heap.size:=by omega
 have ne2:w.heap.size+2≠w1.heap.size:=by omega
 have ne3:w.heap.size+1≠w.heap.size+3:=by omega
 have ne4:w.heap.size+2≠w.heap.size+3:=by omega
 go_upto_region 3 with fail
 rw[<- GF];clear GF;go_region_held3 (λw'=>w'.cell? ⟨w1.heap.size,0,U⟩=AI (I u0)/\w'.cell? ⟨w1.heap.size,1,U⟩=AI (I u1)/\w'.cell? ⟨w1.heap.size,2,U⟩=AI (sh b2 m2 e2)/\w'.cell? ⟨w1.heap.size,3,U⟩=AI (sh b3 m3 e3)/\w'.cell? ⟨w1.heap.size,4,U⟩=AI (sh b4 m4 e4)/\w'.cell? ⟨w1.heap.size,5,U⟩=AI (sh b5 m5 e5)/\w'.cell? ⟨w1.heap.size,6,U⟩=AI (O J u6)/\w'.cell? ⟨w1.heap.size,7,U⟩=AI (O J u7)/\w'.cell? ⟨w1.heap.size,8,U⟩=AI (O J u8)/\w'.cell? ⟨w1.heap.size,9,U⟩=AI (O J u9)/\w'.cell? ⟨w1.heap.size,10,U⟩=AI (O J u10)/\w'.cell? ⟨w1.heap.size,11,U⟩=AI (sh b11 m11 e11)/\w'.cell? ⟨w.heap.size+3,0,U⟩=AI (I s0)/\w'.cell? ⟨w.heap.size+3,1,U⟩=AI (Ic false)/\w'.cell? ⟨w.heap.size+3,2,U⟩=AI (sh ta tk tc)/\w'.cell? ⟨w.heap.size+3,3,U⟩=AI (sh U 0 0)/\w'.cell? ⟨w.heap.size+3,4,U⟩=AI (sh U 0 0)/\w'.cell? ⟨w.heap.size+3,5,U⟩=AI (sh U 0 0)) (simp only[World.cell?_setCell_far,World.cell?_drew,ne_eq,ne1,ne2,ne3,ne4,not_false_eq_true,p0,p1,p2,p3,p4,p5,p6,p7,p8,p9,p10,p11,t0,t1,t2,t3,t4,t5,and_self]) (fail)
 all_goals go_wp2_with fail
 all_goals
  clear q0 qz0 q1 qz1 q2 qz2 q3 qz3 q4 qz4 q5 qz5 q6 qz6 q7 qz7 q8 qz8 q9 qz9 q10 TV q11 TW r0 rz0 r1 rz1 r2 rz2 r3 rz3 r4 rz4 r5 rz5 p0 p1 p2 p3 p4 p5 p6 p7 p8 p9 p10 p11 t0 t1 t2 t3 t4 t5;first
  |(obtain⟨WF,hWG⟩:∃WF,WF=World.drew ((((((((((((((((((W5.setCell ⟨w.heap.size+1,0,U⟩ (I u0)).setCell ⟨w.heap.size+1,1,U⟩ (I u1)).setCell ⟨w.heap.size+1,2,U⟩ (sh b2 m2 e2)).setCell ⟨w.heap.size+1,3,U⟩ (sh b3 m3 e3)).setCell ⟨w.heap.size+1,4,U⟩ (sh b4 m4 e4)).setCell ⟨w.heap.size+1,5,U⟩ (sh b5 m5 e5)).setCell ⟨w.heap.size+1,6,U⟩ (O J u6)).setCell ⟨w.heap.size+1,7,U⟩ (O J u7)).setCell ⟨w.heap.size+1,8,U⟩ (O J u8)).setCell ⟨w.heap.size+1,9,U⟩ (O J u9)).setCell ⟨w.heap.size+1,10,U⟩ (O J u10)).setCell ⟨w.heap.size+1,11,U⟩ (sh b11 m11 e11)).setCell ⟨w.heap.size+1+1,0,U⟩ (I s0)).setCell ⟨w.heap.size+1+1,1,U⟩ (Ic false)).setCell ⟨w.heap.size+1+1,2,U⟩ (sh ta tk tc)).setCell ⟨w.heap.size+1+1,3,U⟩ (sh U 0 0)).setCell ⟨w.heap.size+1+1,4,U⟩ (sh U 0 0)).setCell ⟨w.heap.size+1+1,5,U⟩ (sh U 0 0)):=⟨_,rfl⟩
    rw[<- hWG];have hWF:WF=World.drew (pH (w.heap.size+1+1) [I s0,Ic false,sh ta tk tc,sh U 0 0,sh U 0 0,sh U 0 0] 0 (pH (w.heap.size+1) [I u0,I u1,sh b2 m2 e2,sh b3 m3 e3,sh b4 m4 e4,sh b5 m5 e5,O J u6,O J u7,O J u8,O J u9,O J u10,sh b11 m11 e11] 0 W5)):=by rw[hWG];simp only[pH,I6,Uo]
    clear hWG;have hz:WF.heap[w.heap.size+1]?=AI (Ib #[I u0,I u1,sh b2 m2 e2,sh b3 m3 e3,sh b4 m4 e4,sh b5 m5 e5,O J u6,O J u7,O J u8,O J u9,O J u10,sh b11 m11 e11] 30 (0,0)):=by rw[hWF];rw[zM,tJ (by omega)];exact(BW HZ5.out _ _ _ _ _ _ _ _ _ _ _ _)
    have hy:WF.heap[w.heap.size+1+1]?=AI (Ib #[I s0,Ic false,sh ta tk tc,sh U 0 0,sh U 0 0,sh U 0 0] 76 (0,0)):=by rw[hWF];rw[zM];exact Wq ((tJ (by omega) _ _ _).trans HY5.out) _ _ _ _ _ _
    have tq:Hid (Below w.heap.size w WF):=by rw[hWF];exact FQ (o9 (by omega) _ _ (o9 (by omega) _ _ qB.out))
    have Ck:Hid (∀{base n k:Nat} {T:Ji} {v:Value} {xs:List Value},w.heap.size+1+1<base->w1.ownsRow base T k v n xs->WF.ownsRow base T k v n xs):=λhbs h=>by rw[hWF];exact KC (oD (by omega) _ _ (oD (by omega) _ _ (FP h aq1.out)))
    clear hWF)
  |(obtain⟨WF,hWG⟩:∃WF,WF=World.drew ((((((((((((((((((W5.setCell ⟨w.heap.size+1+1,0,U⟩ (I s0)).setCell ⟨w.heap.size+1+1,1,U⟩ (Ic false)).setCell ⟨w.heap.size+1+1,2,U⟩ (sh ta tk tc)).setCell ⟨w.heap.size+1+1,3,U⟩ (sh U 0 0)).setCell ⟨w.heap.size+1+1,4,U⟩ (sh U 0 0)).setCell ⟨w.heap.size+1+1,5,U⟩ (sh U 0 0)).setCell ⟨w.heap.size+1,0,U⟩ (I u0)).setCell ⟨w.heap.size+1,1,U⟩ (I u1)).setCell ⟨w.heap.size+1,2,U⟩ (sh b2 m2 e2)).setCell ⟨w.heap.size+1,3,U⟩ (sh b3 m3 e3)).setCell ⟨w.heap.size+1,4,U⟩ (sh b4 m4 e4)).setCell ⟨w.heap.size+1,5,U⟩ (sh b5 m5 e5)).setCell ⟨w.heap.size+1,6,U⟩ (O J u6)).setCell ⟨w.heap.size+1,7,U⟩ (O J u7)).setCell ⟨w.heap.size+1,8,U⟩ (O J u8)).setCell ⟨w.heap.size+1,9,U⟩ (O J u9)).setCell ⟨w.heap.size+1,10,U⟩ (O J u10)).setCell ⟨w.heap.size+1,11,U⟩ (sh b11 m11 e11)):=⟨_,rfl⟩
    rw[<- hWG];have hWF:WF=World.drew (pH (w.heap.size+1) [I u0,I u1,sh b2 m2 e2,sh b3 m3 e3,sh b4 m4 e4,sh b5 m5 e5,O J u6,O J u7,O J u8,O J u9,O J u10,sh b11 m11 e11] 0 (pH (w.heap.size+1+1) [I s0,Ic false,sh ta tk tc,sh U 0 0,sh U 0 0,sh U 0 0] 0 W5)):=by rw[hWG];simp only[pH,I6,Uo]
    clear hWG;have hz:WF.heap[w.heap.size+1]?=AI (Ib #[I u0,I u1,sh b2 m2 e2,sh b3 m3 e3,sh b4 m4 e4,sh b5 m5 e5,O J u6,O J u7,O J u8,O J u9,O J u10,sh b11 m11 e11] 30 (0,0)):=by rw[hWF];rw[zM];exact BW ((tJ (by omega) _ _ _).trans HZ5.out) _ _ _ _ _ _ _ _ _ _ _ _
    have hy:WF.heap[w.heap.size+1+1]?=AI (Ib #[I s0,Ic false,sh ta tk tc,sh U 0 0,sh U 0 0,sh U 0 0] 76 (0,0)):=by rw[hWF];rw[zM,tJ (by omega)];exact(Wq HY5.out _ _ _ _ _ _)
    have tq:Hid (Below w.heap.size w WF):=by rw[hWF];exact FQ (o9 (by omega) _ _ (o9 (by omega) _ _ qB.out))
    have Ck:Hid (∀{base n k:Nat} {T:Ji} {v:Value} {xs:List Value},w.heap.size+1+1<base->w1.ownsRow base T k v n xs->WF.ownsRow base T k v n xs):=λhbs h=>by rw[hWF];exact KC (oD (by omega) _ _ (oD (by omega) _ _ (FP h aq1.out)))
    clear hWF)
  obtain⟨q0,q1,q2,q3,q4,q5,q6,q7,q8,q9,q10,q11⟩:=oA hz;obtain⟨r0,r1,r2,r3,r4,r5⟩:=xQ hy;exact IE (v:=Ir #[Iu #[I u0,I u1,sh b2 m2 e2,sh b3 m3 e3,sh b4 m4 e4,sh b5 m5 e5,O J u6,O J u7,O J u8,O J u9,O J u10,sh b11 m11 e11],Iu #[I s0,Ic false,sh ta tk tc,sh U 0 0,sh U 0 0,sh U 0 0],O J r]) (by simp[results,results28,go_sem,q0,q1,q2,q3,q4,q5,q6,q7,q8,q9,q10,q11,r0,r1,r2,r3,r4,r5]) rfl (SQ.out _ tq.out Ck.out)
end Go.Proofs.YtipbebleapjcjaaGreatDoor
namespace Go.Proofs.YtipbebleapjcjaaGreatDoor
namespace Wh
open Go.RowKit
end Wh
end Go.Proofs.YtipbebleapjcjaaGreatDoor
namespace Go.Proofs.YtipbebleapjcjaaGreatDoor
open Go.RowKit
def amC(w:World)(p:Pk)(A:Array Value):Prop:=∃vm vs vg vw,A=#[I p.tG,Ic p.whole,vm,vs,vg,vw]/\Sl w vm p.ms/\Sv.Sl w vs p.sv/\Gw.Sl w vg p.gw/\Wh.Sl w vw p.wh
def ndV(t0 t1:ByteArray)(p2:Option Addr)(k2 c2:Nat)(p3:Option Addr)(k3 c3:Nat)(p4:Option Addr)(k4 c4:Nat)(p5:Option Addr)(k5 c5:Nat)(i6 i7 i8 i9 i10:Int)(p11:Option Addr)(k11 c11:Nat):Array Value:=
 #[I t0,I t1,sh p2 k2 c2,sh p3 k3 c3,sh p4 k4 c4,sh p5 k5 c5,O J i6,O J i7,O J i8,O J i9,O J i10,sh p11 k11 c11]
def vd(w:World)(n:Nd)(A:Array Value):Prop:=∃vm vr vs vg vw,A=sR n vm vr vs vg vw/\uL w n vm vr vs vg vw
theorem vd.below{w w':World}{n:Nd}{A:Array Value}(h:vd w n A)(hb:Below w.heap.size w w'):vd w' n A:=by
 obtain⟨a,b,c,d,e,h1,h2⟩:=h;exact⟨a,b,c,d,e,h1,h2.below hb⟩
theorem vd.letters{w:World}{n:Nd}{A:Array Value}(h:vd w n A):∃t0 t1 p2 k2 c2 p3 k3 c3 p4 k4 c4 p5 k5 c5 i6 i7 i8 i9 i10 p11 k11 c11,A=ndV t0 t1 p2 k2 c2 p3 k3 c3 p4 k4 c4 p5 k5 c5 i6 i7 i8 i9 i10 p11 k11 c11:=by
 obtain⟨vm,vr,vs,vg,vw,rfl,⟨pm,cm,rfl,_⟩,⟨pr,cr,rfl,_⟩,⟨ps,cs,rfl,_⟩,⟨pg,cg,rfl,_⟩,⟨pw,cw,rfl,_⟩,_,_⟩:=h;exact⟨_,_,_,_,_,_,_,_,_,_,_,_,_,_,_,_,_,_,_,_,_,_,rfl⟩
def bgA:Nd:=nwN ⟨#[97]⟩ ⟨#[99]⟩ 1 false
def bgB:Nd:=nwN ⟨#[98]⟩ ⟨#[99]⟩ 2 true
def bgP:Pk:=⟨⟨#[98]⟩,true,bgB.ms,bgB.sv,bgB.gw,bgB.wh⟩
def bg3:Nd:=hrN bgA bgP
def bg4:Nd:=wsN bg3 ⟨#[98]⟩ 2
def bgM:Mem:=⟨⟨#[98]⟩,2,1,2,true⟩
theorem aq5:nwE ⟨#[97]⟩ ⟨#[99]⟩ 1=0:=by kernel_rfl
theorem aq6:nwE ⟨#[98]⟩ ⟨#[99]⟩ 2=0:=by kernel_rfl
theorem aq7:bgA.e=0:=by kernel_rfl
theorem aq8:bgB.e=0:=by kernel_rfl
theorem aq9:Ty bgA bgP=0:=by kernel_rfl
theorem ara:bg3.e=0:=by kernel_rfl
theorem arb:wsE bg3 ⟨#[98]⟩ 1 2=0:=by kernel_rfl
theorem arc:bg4.e=0:=by kernel_rfl
theorem ard:bg4.ms.length=2:=by kernel_rfl
theorem arf:bg4.rs=[⟨bgM,0⟩]:=by kernel_rfl
theorem aim{l:List Mem}{rest:List nQ}(h:Be bg4 l rest):l=[bgM]:=by
 obtain⟨told,ht,hp,_⟩:=h;rw[arf] at ht;rcases ht with⟨h,_⟩|⟨_,ord,ho,rfl,_⟩
 .cases h
 .have h1:ord=[0]:=by
   have:=ho.perm;rw[show List.range [(⟨bgM,0⟩:nQ)].length=[0] from rfl] at this;exact List.perm_singleton.1 this
  subst h1;have h2:tU [(⟨bgM,0⟩:nQ)] [0] (min 5 [(⟨bgM,0⟩:nQ)].length)=[bgM]:=by kernel_rfl
  rw[h2] at hp;exact List.perm_singleton.1 hp
def Cd(B:Nat)(w:World)(n:Nd)(A:Array Value):Prop:=∃vm vr vs vg vw,A=sR n vm vr vs vg vw/\uB B w n vm vr vs vg vw/\Eb n
theorem Cd.is{B:Nat}{w:World}{n:Nd}{A:Array Value}(h:Cd B w n A):vd w n A:=by
 obtain⟨a,b,c,d,e,h1,h2,h3⟩:=h;exact⟨a,b,c,d,e,h1,h2.is h3⟩
theorem tM.ok{ne er:Int}{n':Nd}{w w':World}{e:QG}(h:tM ne er n' w e w')(h1:ne=0)(h2:er=0):∃A,e=Ia (Ir #[Iu A,O J 0])/\Cd w.heap.size w' n' A/\Below w.heap.size w w':=by
 obtain⟨hb,⟨h3,_⟩|⟨_,h3,_⟩|⟨_,_,um,ur,us,ug,uw,rfl,ho,hk⟩⟩:=h
 .exact absurd h1 h3
 .exact absurd h2 h3
 .exact⟨_,rfl,⟨_,_,_,_,_,rfl,ho,hk⟩,hb⟩
def pkV(t0:ByteArray)(b1:Bool)(p2:Option Addr)(k2 c2:Nat)(p3:Option Addr)(k3 c3:Nat)(p4:Option Addr)(k4 c4:Nat)(p5:Option Addr)(k5 c5:Nat):Array Value:=
 #[I t0,Ic b1,sh p2 k2 c2,sh p3 k3 c3,sh p4 k4 c4,sh p5 k5 c5]
def Ce(w:World)(p:Pk)(A:Array Value):Prop:=∃vm vs vg vw,A=#[I p.tG,Ic p.whole,vm,vs,vg,vw]/\GQ w p vm vs vg vw
theorem Ce.below{w w':World}{p:Pk}{A:Array Value}(h:Ce w p A)(hb:Below w.heap.size w w'):Ce w' p A:=by
 obtain⟨a,b,c,d,h1,h2⟩:=h;exact⟨a,b,c,d,h1,h2.below hb⟩
theorem Ce.is{w:World}{p:Pk}{A:Array Value}(h:Ce w p A):amC w p A:=by
 obtain⟨a,b,c,d,h1,h2⟩:=h;exact⟨a,b,c,d,h1,h2.ms,h2.sv,h2.gw,h2.wh⟩
theorem amC.letters{w:World}{p:Pk}{A:Array Value}(h:amC w p A):∃t0 b1 p2 k2 c2 p3 k3 c3 p4 k4 c4 p5 k5 c5,A=pkV t0 b1 p2 k2 c2 p3 k3 c3 p4 k4 c4 p5 k5 c5:=by
 obtain⟨vm,vs,vg,vw,rfl,⟨pm,cm,rfl,_⟩,⟨ps,cs,rfl,_⟩,⟨pg,cg,rfl,_⟩,⟨pw,cw,rfl,_⟩⟩:=h;exact⟨_,_,_,_,_,_,_,_,_,_,_,_,_,_,rfl⟩
theorem abj{base n k:Nat}{T:Ji}{w:World}{v:Value}{xs:List Value}(h:w.ownsRow base T k v n xs):Roomy v:=by
 obtain⟨a,c,rfl,hn⟩:=mR h;exact hn
def Nd.pk(n:Nd):Pk:=⟨n.name,true,n.ms,n.sv,n.gw,n.wh⟩
theorem vp.ok{n:Nd}{ne:Int}{w w':World}{e:QG}(h:vp n ne w e w')(h1:ne=0)(hk:Eb n):∃A,e=Ia (Ir #[Iu A,O J 0])/\Ce w' n.pk A/\Below w.heap.size w w':=by
 obtain⟨hb,⟨h3,_⟩|⟨_,um,us,ug,uw,rfl,o1,o2,o3,o4⟩⟩:=h
 .exact absurd h1 h3
 .exact⟨_,rfl,⟨_,_,_,_,rfl,o1.sl (oz hk.ms),o2.sl (Sv.oz hk.sv),o3.sl (Gw.oz hk.gw),o4.sl (Wh.oz hk.wh),hk.name,abj o1⟩,hb⟩
theorem vd.ok{w:World}{n:Nd}{A:Array Value}(h:vd w n A):Eb n:=by
 obtain⟨_,_,_,_,_,_,h⟩:=h;exact h.ok
theorem afl{w:World}{n:Nd}{A:Array Value}(h:vd w n A):ni 25 #[Iu A] w λe w'=>vp n n.e w e w':=by
 obtain⟨_,_,_,_,_,rfl,h⟩:=h;exact aaU n _ _ _ _ _ w h
theorem afm{w:World}{n:Nd}{A:Array Value}(h:vd w n A)(t:ByteArray)(ht:t.size<=Il):ni 27 #[Iu A,I t] w λe w'=>tM n.e (wsE n t 1 2) (wsN n t 2) w e w':=by
 obtain⟨_,_,_,_,_,rfl,h⟩:=h;exact aaT n t _ _ _ _ _ w h ht
theorem ain{w:World}{n:Nd}{A:Array Value}(h:vd w n A):ni 28 #[Iu A] w λe w'=>yY n n.e w e w':=by
 obtain⟨_,_,_,_,_,rfl,h⟩:=h;exact afj n _ _ _ _ _ w h
theorem yY.ok{n:Nd}{ne:Int}{w w':World}{e:QG}(h:yY n ne w e w')(h1:ne=0):∃A a k c l rest,e=Ia (Ir #[Iu A,Iu #[I n.name,Ic false,sh a k c,sh U 0 0,sh U 0 0,sh U 0 0],O J 0])/\Be n l rest/\Cd w.heap.size w' { n with rs:=rest } A/\Own w.heap.size w' (sh a k c) l/\Below w.heap.size w w':=by
 obtain⟨hb,⟨h3,_⟩|⟨_,n',um,ur,us,ug,uw,a,k,c,l,rfl,hn,ht,ho,hk,hl⟩⟩:=h
 .exact absurd h1 h3
 .refine⟨_,a,k,c,l,n'.rs,rfl,ht,?_,hl,hb⟩
  rw[<- hn];exact⟨_,_,_,_,_,rfl,ho,hk⟩
theorem Wh.abk{wh:List Wh.nZ}(h:Wh.nu wh=0)(hk:∀m∈wh,m.ok):Wh.apf wh:=⟨(Wh.mU h).2.1,(Wh.mU h).1,hk⟩
theorem Vg(L b tb:Nat)(n:Nd)(tG:ByteArray)(whole:Bool)(EI:List Mem)(DM:List Sv.nj)(DN:List Gw.pU)(DO:List Wh.nZ)(am aS aG aH:Option Addr)(bm bS bG bH:Nat)(w0 w:World)(h:Wk L w b n)(hL:L<=b)(he:n.e=0)(tR:Eb n)(hx:GQ w0 ⟨tG,whole,EI,DM,DN,DO⟩ (sh am EI.length bm) (sh aS DM.length bS) (sh aG DN.length bG) (sh aH DO.length bH))(hB:Below w0.heap.size w0 w)(hBL:w0.heap.size<=L)(hlen:whole=true\/DM.length+DN.length+DO.length<=4611686018427387904)(pC:n.sv=[])(xC:n.gw=[])(zV:DM=[])(uZ:DN=[])(uJ:DO=[])(hc:w.heap[tb]?=AI (Ib #[I tG,Ic whole,sh am EI.length bm,sh aS DM.length bS,sh aG DN.length bG,sh aH DO.length bH] 76 (0,0))) :
 Calls AT 54 #[Ik (AI ⟨b,0,U⟩),Ik (AI ⟨tb,0,U⟩)] w λe w'=>e=Ia (O J (Ty n ⟨tG,whole,EI,DM,DN,DO⟩))/\Sh (λk=>L<=k) w w'/\Hid (Ty n ⟨tG,whole,EI,DM,DN,DO⟩=0->Wk L w' b (hrN n ⟨tG,whole,EI,DM,DN,DO⟩)):=by
 have hp:=Nd.parts (Nd.wM he).1;have HC:Hid (Calls AT 55 #[Ik (AI ⟨b,0,U⟩),Iu #[I tG,Ic whole,sh am EI.length bm,sh aS DM.length bS,sh aG DN.length bG,sh aH DO.length bH]] w λe w'=>e=Ia (O J (Ty n ⟨tG,whole,EI,DM,DN,DO⟩))/\Sh (λk=>L<=k) w w'/\Hid (Ty n ⟨tG,whole,EI,DM,DN,DO⟩=0->Wk L w' b (hrN n ⟨tG,whole,EI,DM,DN,DO⟩))):=
  TB L b n ⟨tG,whole,EI,DM,DN,DO⟩ _ _ _ _ w0 w h hL (Nd.sp he) hp.sv hp.gw (Wh.abk hp.wh tR.wh) hx hB hBL hlen pC xC zV uZ uJ
 obtain⟨y0,y1,y2,y3,y4,y5⟩:=xQ hc;clear h hp hc hx pC xC zV uZ uJ;generalize Ty n ⟨tG,whole,EI,DM,DN,DO⟩=we at *;generalize hrN n ⟨tG,whole,EI,DM,DN,DO⟩=nn at *;generalize EI.length=k1 at *;generalize DM.length=k2 at *;generalize DN.length=k3 at *;generalize DO.length=k4 at *;go_enter func54,ntmps54;go_wp2_with fail;refine HC.out.mono ?_;rintro e w1 ⟨rfl,hs,hk⟩;have HS:Hid (Sh (λk=>L<=k) w w1):=hs;clear hs;go_wp2_with fail;go_ret;exact⟨rfl,HS.out,hk⟩
theorem abl(n:Nd)(p:Pk)(zm zs zg zw:Value)(vm vr vs vg vw:Value)(w:World)(h:uL w n vm vr vs vg vw)(hx:GQ w p zm zs zg zw)(hlen:p.whole=true\/p.sv.length+p.gw.length+p.wh.length<=4611686018427387904)(pC:n.sv=[])(xC:n.gw=[])(zV:p.sv=[])(uZ:p.gw=[])(uJ:p.wh=[]) :
 Calls AT 26 #[Iu (sR n vm vr vs vg vw),Iu #[I p.tG,Ic p.whole,zm,zs,zg,zw]] w λe w'=>tM n.e (Ty n p) (hrN n p) w e w':=by
 have HX:Hid (GQ w p zm zs zg zw):=hx;obtain⟨tG,whole,EI,DM,DN,DO⟩:=p;obtain⟨⟨am,bm,rfl,_,_⟩,⟨aS,bS,rfl,_,_⟩,⟨aG,bG,rfl,_,_⟩,⟨aH,bH,rfl,_,_⟩,_,_⟩:=hx;simp only at hlen HX ⊢;obtain⟨W0,rm⟩:∃W0,W0=w.heap.size:=⟨_,rfl⟩;clear rm W0;have HWS:Hid (∀W0,Below w.heap.size w W0->W0.heap.size=w.heap.size+3->W0.heap[w.heap.size+1]?=AI (Ib #[I tG,Ic whole,sh am EI.length bm,sh aS DM.length bS,sh aG DN.length bG,sh aH DO.length bH] 76 (0,0))->Calls AT 53 #[Iu (sR n vm vr vs vg vw),.func (.func 54) #[] #[Ik (AI ⟨w.heap.size+1,0,U⟩)]] W0 λe w'=>yX n.e (Ty n ⟨tG,whole,EI,DM,DN,DO⟩) (hrN n ⟨tG,whole,EI,DM,DN,DO⟩) (λ_=>False) (λ_=>True) W0 e w'):=λW0 hb hs zq=>
  PO 54 #[Ik (AI ⟨w.heap.size+1,0,U⟩)] (enters_of func54 (by kernel_rfl) rfl) n vm vr vs vg vw W0 (h.below hb) (λ_=>False) (Ty n ⟨tG,whole,EI,DM,DN,DO⟩) (hrN n ⟨tG,whole,EI,DM,DN,DO⟩) (λ_=>True)
   (λhe W b hW mZ hk=>by
    refine(Vg (W0.heap.size+2) b (w.heap.size+1) n tG whole EI DM DN DO am aS aG aH bm bS bG bH W0 W hk (by omega) he h.ok (HX.out.below hb) hW (by omega) hlen pC xC zV uZ uJ ((hW.block _ (by omega)).trans zq)).mono ?_;rintro e w' ⟨rfl,hs,hh⟩;exact⟨rfl,hs.mono (λk hk=>.inl hk),λh=>⟨hh.out h,trivial⟩⟩
   ) (λ_ _ _ _=>trivial) (λ_ hk=>hk.elim)
 obtain⟨nm,ct,ms,rs,sv,gw,⟨px,py,pz,ph,pq⟩,wh⟩:=n;obtain⟨⟨em,cm,rfl,_,_⟩,⟨PJ,cr,rfl,_,_⟩,⟨es,PK,rfl,_,_⟩,⟨PM,cg,rfl,_,_⟩,⟨eh,ch,rfl,_,_⟩,_,_⟩:=h;simp only[sR] at HWS ⊢;generalize ms.length=km at *;generalize rs.length=kr at *;generalize sv.length=ks at *;generalize gw.length=kg at *;generalize wh.length=kh at *;generalize EI.length=k1 at *;generalize DM.length=k2 at *;generalize DN.length=k3 at *;generalize DO.length=k4 at *;generalize Nd.e ⟨nm,ct,ms,rs,sv,gw,⟨px,py,pz,ph,pq⟩,wh⟩=ne at *;generalize Ty ⟨nm,ct,ms,rs,sv,gw,⟨px,py,pz,ph,pq⟩,wh⟩ ⟨tG,whole,EI,DM,DN,DO⟩=er at *;generalize hrN ⟨nm,ct,ms,rs,sv,gw,⟨px,py,pz,ph,pq⟩,wh⟩ ⟨tG,whole,EI,DM,DN,DO⟩=n' at *;obtain⟨W0,rm⟩:∃W0,W0=(((w.alloc (Ib #[I nm,I ct,sh em km cm,sh PJ kr cr,sh es ks PK,sh PM kg cg,O J px,O J py,O J pz,O J ph,O J pq,sh eh kh ch] 30)).alloc (Ib #[I tG,Ic whole,sh am k1 bm,sh aS k2 bS,sh aG k3 bG,sh aH k4 bH] 76)).alloc (Ib #[I ⟨#[]⟩,I ⟨#[]⟩,sh U 0 0,sh U 0 0,sh U 0 0,sh U 0 0,O J 0,O J 0,O J 0,O J 0,O J 0,sh U 0 0] 30)):=⟨_,rfl⟩;have rG:Below w.heap.size w W0:=by rw[rm];exact(((Below.refl _ _).alloc (By _) _).alloc (by simp<;>omega) _).alloc (by simp<;>omega) _
 have Ct:W0.heap.size=w.heap.size+3:=by rw[rm];simp
 have zq:W0.heap[w.heap.size+1]?=AI (Ib #[I tG,Ic whole,sh am k1 bm,sh aS k2 bS,sh aG k3 bG,sh aH k4 bH] 76 (0,0)):=by
  have h:=Ii (w.alloc (Ib #[I nm,I ct,sh em km cm,sh PJ kr cr,sh es ks PK,sh PM kg cg,O J px,O J py,O J pz,O J ph,O J pq,sh eh kh ch] 30)) (Ib #[I tG,Ic whole,sh am k1 bm,sh aS k2 bS,sh aG k3 bG,sh aH k4 bH] 76);rw[rm,Below.heap_alloc _ _ _ (by simp<;>omega)];simpa using h
 have oS:W0.heap[w.heap.size+2]?=AI (Ib #[I ⟨#[]⟩,I ⟨#[]⟩,sh U 0 0,sh U 0 0,sh U 0 0,sh U 0 0,O J 0,O J 0,O J 0,O J 0,O J 0,sh U 0 0] 30 (0,0)):=by
  have h:=Ii ((w.alloc (Ib #[I nm,I ct,sh em km cm,sh PJ kr cr,sh es ks PK,sh PM kg cg,O J px,O J py,O J pz,O J ph,O J pq,sh eh kh ch] 30)).alloc (Ib #[I tG,Ic whole,sh am k1 bm,sh aS k2 bS,sh aG k3 bG,sh aH k4 bH] 76)) (Ib #[I ⟨#[]⟩,I ⟨#[]⟩,sh U 0 0,sh U 0 0,sh U 0 0,sh U 0 0,O J 0,O J 0,O J 0,O J 0,O J 0,sh U 0 0] 30);rw[rm];simpa using h
 have HWC:=HWS.out W0 rG Ct zq;have pN:Hid (Below w.heap.size w W0):=rG;have Wl:Hid (W0.heap[w.heap.size+2]?=AI (Ib #[I ⟨#[]⟩,I ⟨#[]⟩,sh U 0 0,sh U 0 0,sh U 0 0,sh U 0 0,O J 0,O J 0,O J 0,O J 0,O J 0,sh U 0 0] 30 (0,0))):=oS;clear rG oS HWS zq;go_enter func26,ntmps26;go_wp2_with fail;rw[<- rm];refine HWC.mono ?_;rintro e w1 ⟨EJ,Er⟩;have mO:Below W0.heap.size W0 w1:=EJ.below (By _) (λ_ hk=>hk.elim);have pC:w1.heap[w.heap.size+2]?=_:=(mO.block _ (by omega)).trans Wl.out;have mY:Hid (Below w.heap.size w w1):=pN.out.trans (mO.mono (by omega));have sj:w.heap.size+2<w1.heap.size:=(Ig.1 pC).1;obtain⟨q0,q1,q2,q3,q4,q5,q6,q7,q8,q9,q10,q11⟩:=oA pC;obtain⟨qz0,qz1,qz2,qz3,qz4,qz5,qz6,qz7,qz8,qz9,TV,TW⟩:=FH pC;clear EJ mO pC HWC rm;rcases Er with⟨nK,rfl⟩|⟨nK,PN,rfl⟩|⟨nK,PN,um,ur,us,ug,uw,rfl,hown,tR,_⟩
 .have HNE:Hid (ne≠0):=nK
  clear nK;go_wp2_with fail;refine IE (v:=Ir #[Iu #[I ⟨#[]⟩,I ⟨#[]⟩,sh U 0 0,sh U 0 0,sh U 0 0,sh U 0 0,O J 0,O J 0,O J 0,O J 0,O J 0,sh U 0 0],O J ne]) ?_ rfl ?_
  .simp[results,results26,go_sem,q0,q1,q2,q3,q4,q5,q6,q7,q8,q9,q10,q11]
  .unfold tM
   exact⟨th mY.out (by omega) _ _ _ _ _ _ _ _ _ _ _ _,.inl ⟨HNE.out,rfl⟩⟩
 .have HNE:Hid (ne=0/\er≠0):=⟨nK,PN⟩
  clear nK PN;go_wp2_with fail;refine IE (v:=Ir #[Iu #[I ⟨#[]⟩,I ⟨#[]⟩,sh U 0 0,sh U 0 0,sh U 0 0,sh U 0 0,O J 0,O J 0,O J 0,O J 0,O J 0,sh U 0 0],O J er]) ?_ rfl ?_
  .simp[results,results26,go_sem,q0,q1,q2,q3,q4,q5,q6,q7,q8,q9,q10,q11]
  .unfold tM
   exact⟨th mY.out (by omega) _ _ _ _ _ _ _ _ _ _ _ _,.inr (.inl ⟨HNE.out.1,HNE.out.2,rfl⟩)⟩
 .have HNE:Hid (ne=0/\er=0):=⟨nK,PN⟩
  have Gl:Hid (uB W0.heap.size w1 n' um ur us ug uw):=hown;have N9:Hid (Eb n'):=tR;obtain⟨im2,jm2,Ec,_⟩:=mR hown.ms;obtain⟨ir2,jr2,LI,_⟩:=mR hown.rs;obtain⟨is2,js2,TZ,_⟩:=mR hown.sv;obtain⟨ig2,jg2,T0,_⟩:=mR hown.gw;obtain⟨ih2,jh2,T1,_⟩:=mR hown.wh;subst Ec LI TZ T0 T1;clear hown tR nK PN;obtain⟨n2,c2,ms2,rs2,sv2,gw2,⟨qx,qy,qz,qh,qq⟩,wh2⟩:=n';go_wp2_with fail;refine IE (v:=Ir #[Iu #[I n2,I c2,sh im2 ms2.length jm2,sh ir2 rs2.length jr2,sh is2 sv2.length js2,sh ig2 gw2.length jg2,O J qx,O J qy,O J qz,O J qh,O J qq,sh ih2 wh2.length jh2],O J 0]) ?_ rfl ?_
  .simp[results,results26,go_sem,q0,q1,q2,q3,q4,q5,q6,q7,q8,q9,q10,q11]
  .unfold tM
   refine⟨th mY.out (by omega) _ _ _ _ _ _ _ _ _ _ _ _,.inr (.inr ⟨HNE.out.1,HNE.out.2,_,_,_,_,_,rfl,⟨?_,?_,?_,?_,?_⟩,N9.out⟩)⟩
   .exact Own.mono (oi (Gl.out.ms) (by omega) _ _ _ _ _ _ _ _ _ _ _ _) (by omega)
   .exact oE.base (oi (Gl.out.rs) (by omega) _ _ _ _ _ _ _ _ _ _ _ _) (by omega)
   .exact Sv.Own.mono (oi (Gl.out.sv) (by omega) _ _ _ _ _ _ _ _ _ _ _ _) (by omega)
   .exact Gw.Own.mono (oi (Gl.out.gw) (by omega) _ _ _ _ _ _ _ _ _ _ _ _) (by omega)
   .exact Wh.Own.mono (oi (Gl.out.wh) (by omega) _ _ _ _ _ _ _ _ _ _ _ _) (by omega)
theorem Cd.pH{B:Nat}{w:World}{n:Nd}{A:Array Value}(h:Cd B w n A){b:Nat}(hb:b<B)(L:List Value)(j:Nat):Cd B (pH b L j w) n A:=by
 obtain⟨v1,v2,v3,v4,v5,h1,h2,h3⟩:=h;exact⟨v1,v2,v3,v4,v5,h1,⟨oD hb L j h2.ms,oD hb L j h2.rs,oD hb L j h2.sv,oD hb L j h2.gw,oD hb L j h2.wh⟩,h3⟩
theorem vd.len{w:World}{n:Nd}{A:Array Value}(h:vd w n A):∃p c,A[2]?=AI (sh p n.ms.length c):=by
 obtain⟨vm,vr,vs,vg,vw,rfl,⟨pm,cm,rfl,_⟩,_⟩:=h;exact⟨pm,cm,rfl⟩
theorem afn{w:World}{n:Nd}{p:Pk}{A P:Array Value}(h:vd w n A)(hp:Ce w p P)(hlen:p.whole=true\/p.sv.length+p.gw.length+p.wh.length<=4611686018427387904)(pC:n.sv=[])(xC:n.gw=[])(zV:p.sv=[])(uZ:p.gw=[])(uJ:p.wh=[]):Calls AT 26 #[Iu A,Iu P] w λe w'=>tM n.e (Ty n p) (hrN n p) w e w':=by
 obtain⟨_,_,_,_,_,rfl,h⟩:=h;obtain⟨_,_,_,_,rfl,hp⟩:=hp;exact abl n p _ _ _ _ _ _ _ _ _ w h hp hlen pC xC zV uZ uJ
theorem one_le:(1:Nat)<=Il:=by decide
theorem Gs(w:World):Calls AT 7 #[] w λe w'=>e=Ia (Ic true)/\Below w.heap.size w w':=by
 go_enter func7,ntmps7;go_wp2_with fail;refine(WM ⟨#[97]⟩ ⟨#[99]⟩ 1 false w one_le one_le).mono ?_;intro e w1 h;obtain⟨A1,rfl,hA,mO⟩:=h.ok aq5 rfl;obtain⟨t0a,t1a,p2a,k2a,c2a,p3a,k3a,c3a,p4a,k4a,c4a,p5a,k5a,c5a,i6a,i7a,i8a,i9a,PY,PZ,P0,P1,rfl⟩:=hA.is.letters;simp only[ndV] at hA ⊢;have Mx:Hid (vd _ _ _):=hA.is;have mY:Hid _:=mO;have pC:=mO.size;clear h hA mO;obtain⟨W1,uj⟩:∃W1,W1=w1.alloc (Ib #[I t0a,I t1a,sh p2a k2a c2a,sh p3a k3a c3a,sh p4a k4a c4a,sh p5a k5a c5a,O J i6a,O J i7a,O J i8a,O J i9a,O J PY,sh PZ P0 P1] 30):=⟨_,rfl⟩;have ha1:Below w1.heap.size w1 W1:=by rw[uj];exact(Below.refl _ _).alloc (By _) _
 have vF:Hid (W1.heap[w1.heap.size]?=AI (Ib #[I t0a,I t1a,sh p2a k2a c2a,sh p3a k3a c3a,sh p4a k4a c4a,sh p5a k5a c5a,O J i6a,O J i7a,O J i8a,O J i9a,O J PY,sh PZ P0 P1] 30 (0,0))):=by rw[uj];exact Ii w1 _
 have sj:W1.heap.size=w1.heap.size+1:=by rw[uj];simp
 have AB:Hid (vd _ _ _):=Mx.out.below ha1;have nR:Hid _:=mY.out.trans (ha1.mono pC);clear ha1 Mx;go_upto_region 2 with fail
 rw[<- uj];clear uj;go_wp2_with fail;refine(WM ⟨#[98]⟩ ⟨#[99]⟩ 2 true W1 one_le one_le).mono ?_;intro e w2 h;obtain⟨A1,rfl,hA,mO⟩:=h.ok aq6 rfl;obtain⟨t0b,t1b,p2b,k2b,c2b,p3b,k3b,c3b,p4b,k4b,c4b,p5b,k5b,c5b,i6b,i7b,i8b,i9b,arh,ari,arj,ark,rfl⟩:=hA.is.letters;simp only[ndV] at hA ⊢;have BU:Hid (vd _ _ _):=hA.is;have DG:Hid (vd _ _ _):=AB.out.below mO;have oT:Hid _:=nR.out.trans (mO.mono (by omega));have awN:Hid _:=(mO.block _ (by omega)).trans vF.out;have xC:w1.heap.size<w2.heap.size:=by have:=mO.size;omega
 clear h hA mO AB;obtain⟨W2,sx⟩:∃W2,W2=w2.alloc (Ib #[I t0b,I t1b,sh p2b k2b c2b,sh p3b k3b c3b,sh p4b k4b c4b,sh p5b k5b c5b,O J i6b,O J i7b,O J i8b,O J i9b,O J arh,sh ari arj ark] 30):=⟨_,rfl⟩;have ha2:Below w2.heap.size w2 W2:=by rw[sx];exact(Below.refl _ _).alloc (By _) _
 have Cl:Hid (W2.heap[w2.heap.size]?=AI (Ib #[I t0b,I t1b,sh p2b k2b c2b,sh p3b k3b c3b,sh p4b k4b c4b,sh p5b k5b c5b,O J i6b,O J i7b,O J i8b,O J i9b,O J arh,sh ari arj ark] 30 (0,0))):=by rw[sx];exact Ii w2 _
 have AP:W2.heap.size=w2.heap.size+1:=by rw[sx];simp
 have HA4:Hid (vd _ _ _):=DG.out.below ha2;have EB:Hid (vd _ _ _):=BU.out.below ha2;have qP:Hid _:=oT.out.trans (ha2.mono (by omega));have awO:Hid _:=(ha2.block _ xC).trans awN.out;have hg:=Cl.out;obtain⟨y0,y1,y2,y3,y4,y5,y6,y7,y8,y9,y10,y11⟩:=oA hg;clear ha2 DG BU hg;go_upto_region 3 with fail
 rw[<- sx];clear sx;go_wp2_with fail;refine(afl EB.out).mono ?_;intro e w3 h;obtain⟨A1,rfl,hP,mO⟩:=h.ok aq8 EB.out.ok;obtain⟨t0p,b1p,p2p,k2p,c2p,p3p,k3p,c3p,p4p,k4p,c4p,p5p,k5p,c5p,rfl⟩:=hP.is.letters;simp only[pkV] at hP ⊢;have HP1:Hid (Ce _ _ _):=hP;have HA5:Hid (vd w3 bgA #[I t0a,I t1a,sh p2a k2a c2a,sh p3a k3a c3a,sh p4a k4a c4a,sh p5a k5a c5a,O J i6a,O J i7a,O J i8a,O J i9a,O J PY,sh PZ P0 P1]):=HA4.out.below mO;have qB:Hid (Below w.heap.size w w3):=qP.out.trans (mO.mono (by omega));have aw3:Hid (w3.heap[w1.heap.size]?=AI (Ib #[I t0a,I t1a,sh p2a k2a c2a,sh p3a k3a c3a,sh p4a k4a c4a,sh p5a k5a c5a,O J i6a,O J i7a,O J i8a,O J i9a,O J PY,sh PZ P0 P1] 30 (0,0))):=(mO.block _ (by omega)).trans awO.out;have zV:w1.heap.size<w3.heap.size:=by have:=mO.size;omega
 clear h hP mO HA4 EB y0 y1 y2 y3 y4 y5 y6 y7 y8 y9 y10 y11;obtain⟨W3,sN⟩:∃W3,W3=w3.alloc (Ib #[I t0p,Ic b1p,sh p2p k2p c2p,sh p3p k3p c3p,sh p4p k4p c4p,sh p5p k5p c5p] 76):=⟨_,rfl⟩;have ha3:Below w3.heap.size w3 W3:=by rw[sN];exact(Below.refl _ _).alloc (By _) _
 have HG3:Hid (W3.heap[w3.heap.size]?=AI (Ib #[I t0p,Ic b1p,sh p2p k2p c2p,sh p3p k3p c3p,sh p4p k4p c4p,sh p5p k5p c5p] 76 (0,0))):=by rw[sN];exact Ii w3 _
 have V0:W3.heap.size=w3.heap.size+1:=by rw[sN];simp
 have HA6:Hid (vd W3 bgA #[I t0a,I t1a,sh p2a k2a c2a,sh p3a k3a c3a,sh p4a k4a c4a,sh p5a k5a c5a,O J i6a,O J i7a,O J i8a,O J i9a,O J PY,sh PZ P0 P1]):=HA5.out.below ha3;have HP2:Hid (Ce W3 bgP #[I t0p,Ic b1p,sh p2p k2p c2p,sh p3p k3p c3p,sh p4p k4p c4p,sh p5p k5p c5p]):=HP1.out.below ha3;have tq:Hid (Below w.heap.size w W3):=qB.out.trans (ha3.mono (by omega));have hg:=HG3.out;have ou:W3.heap[w1.heap.size]?=AI (Ib #[I t0a,I t1a,sh p2a k2a c2a,sh p3a k3a c3a,sh p4a k4a c4a,sh p5a k5a c5a,O J i6a,O J i7a,O J i8a,O J i9a,O J PY,sh PZ P0 P1] 30 (0,0)):=(ha3.block _ zV).trans aw3.out;have aw4:Hid (W3.heap[w1.heap.size]?=AI (Ib #[I t0a,I t1a,sh p2a k2a c2a,sh p3a k3a c3a,sh p4a k4a c4a,sh p5a k5a c5a,O J i6a,O J i7a,O J i8a,O J i9a,O J PY,sh PZ P0 P1] 30 (0,0))):=ou;obtain⟨y0,y1,y2,y3,y4,y5⟩:=xQ hg;obtain⟨x0,x1,x2,x3,x4,x5,x6,x7,x8,x9,x10,x11⟩:=oA ou;clear ha3 HA5 HP1 hg ou;go_upto_region 4 with fail
 rw[<- sN];clear sN;go_wp2_with fail;refine(afn HA6.out HP2.out (.inl rfl) rfl rfl rfl rfl rfl).mono ?_;intro e w4 h;obtain⟨A1,rfl,hA,mO⟩:=h.ok aq7 aq9;obtain⟨t0c,t1c,p2c,k2c,c2c,p3c,k3c,c3c,p4c,k4c,c4c,p5c,k5c,c5c,i6c,i7c,i8c,i9c,abm,abn,abo,abp,rfl⟩:=hA.is.letters;simp only[ndV] at hA ⊢;have HA7:Hid (Cd W3.heap.size w4 bg3 #[I t0c,I t1c,sh p2c k2c c2c,sh p3c k3c c3c,sh p4c k4c c4c,sh p5c k5c c5c,O J i6c,O J i7c,O J i8c,O J i9c,O J abm,sh abn abo abp]):=hA;have SO:Hid (Below w.heap.size w w4):=tq.out.trans (mO.mono (by omega));have ou:w4.heap[w1.heap.size]?=AI (Ib #[I t0a,I t1a,sh p2a k2a c2a,sh p3a k3a c3a,sh p4a k4a c4a,sh p5a k5a c5a,O J i6a,O J i7a,O J i8a,O J i9a,O J PY,sh PZ P0 P1] 30 (0,0)):=(mO.block _ (by omega)).trans aw4.out;have uZ:W3.heap.size<=w4.heap.size:=mO.size;clear h hA mO HA6 HP2 y0 y1 y2 y3 y4 y5 x0 x1 x2 x3 x4 x5 x6 x7 x8 x9 x10 x11;obtain⟨x0,x1,x2,x3,x4,x5,x6,x7,x8,x9,x10,x11⟩:=oA ou;obtain⟨xz0,xz1,xz2,xz3,xz4,xz5,xz6,xz7,xz8,xz9,amE,amF⟩:=FH ou;obtain⟨W4,LF⟩:∃W4,W4=((((((((((((w4.setCell ⟨w1.heap.size,0,U⟩ (I t0c)).setCell ⟨w1.heap.size,1,U⟩ (I t1c)).setCell ⟨w1.heap.size,2,U⟩ (sh p2c k2c c2c)).setCell ⟨w1.heap.size,3,U⟩ (sh p3c k3c c3c)).setCell ⟨w1.heap.size,4,U⟩ (sh p4c k4c c4c)).setCell ⟨w1.heap.size,5,U⟩ (sh p5c k5c c5c)).setCell ⟨w1.heap.size,6,U⟩ (O J i6c)).setCell ⟨w1.heap.size,7,U⟩ (O J i7c)).setCell ⟨w1.heap.size,8,U⟩ (O J i8c)).setCell ⟨w1.heap.size,9,U⟩ (O J i9c)).setCell ⟨w1.heap.size,10,U⟩ (O J abm)).setCell ⟨w1.heap.size,11,U⟩ (sh abn abo abp)):=⟨_,rfl⟩;have hF4:W4=pH w1.heap.size [I t0c,I t1c,sh p2c k2c c2c,sh p3c k3c c3c,sh p4c k4c c4c,sh p5c k5c c5c,O J i6c,O J i7c,O J i8c,O J i9c,O J abm,sh abn abo abp] 0 w4:=by rw[LF];simp only[pH,I6,Uo]
 have vR:W4.heap[w1.heap.size]?=AI (Ib #[I t0c,I t1c,sh p2c k2c c2c,sh p3c k3c c3c,sh p4c k4c c4c,sh p5c k5c c5c,O J i6c,O J i7c,O J i8c,O J i9c,O J abm,sh abn abo abp] 30 (0,0)):=by rw[hF4];exact BW ou _ _ _ _ _ _ _ _ _ _ _ _
 have axe:Hid (W4.heap[w1.heap.size]?=AI (Ib #[I t0c,I t1c,sh p2c k2c c2c,sh p3c k3c c3c,sh p4c k4c c4c,sh p5c k5c c5c,O J i6c,O J i7c,O J i8c,O J i9c,O J abm,sh abn abo abp] 30 (0,0))):=vR;have HB8:Hid (Below w.heap.size w W4):=by rw[hF4];exact o9 pC _ _ SO.out
 have HA8:Hid (vd W4 bg3 #[I t0c,I t1c,sh p2c k2c c2c,sh p3c k3c c3c,sh p4c k4c c4c,sh p5c k5c c5c,O J i6c,O J i7c,O J i8c,O J i9c,O J abm,sh abn abo abp]):=by rw[hF4];exact(HA7.out.pH (by omega) _ _).is
 have Lh:W4.heap.size=w4.heap.size:=by rw[hF4];exact yP _ _ _ _
 obtain⟨u0,u1,u2,u3,u4,u5,u6,u7,u8,u9,u10,u11⟩:=oA vR;clear hF4 ou vR HA7;go_upto_region 5 with fail
 rw[<- LF];clear LF x0 xz0 x1 xz1 x2 xz2 x3 xz3 x4 xz4 x5 xz5 x6 xz6 x7 xz7 x8 xz8 x9 xz9 x10 amE x11 amF;go_wp2_with fail;refine(afm HA8.out ⟨#[98]⟩ one_le).mono ?_;intro e w5 h;obtain⟨A1,rfl,hA,mO⟩:=h.ok ara arb;obtain⟨t0d,t1d,p2d,k2d,c2d,p3d,k3d,c3d,p4d,k4d,c4d,p5d,k5d,c5d,i6d,i7d,i8d,i9d,afo,afp,afq,afr,rfl⟩:=hA.is.letters;simp only[ndV] at hA ⊢;have HA9:Hid (Cd W4.heap.size w5 bg4 #[I t0d,I t1d,sh p2d k2d c2d,sh p3d k3d c3d,sh p4d k4d c4d,sh p5d k5d c5d,O J i6d,O J i7d,O J i8d,O J i9d,O J afo,sh afp afq afr]):=hA;have DT:k2d=2:=by
  obtain⟨p,c,hp⟩:=hA.is.len;have SR:AI (sh p2d k2d c2d)=AI (sh p bg4.ms.length c):=hp;rw[ard] at SR;injection SR with SR;injection SR
 have uy:Hid _:=HB8.out.trans (mO.mono (by omega));have ou:=(mO.block _ (by omega)).trans axe.out;have uJ:=mO.size;clear h hA mO HA8 u0 u1 u2 u3 u4 u5 u6 u7 u8 u9 u10 u11;obtain⟨x0,x1,x2,x3,x4,x5,x6,x7,x8,x9,x10,x11⟩:=oA ou;obtain⟨xz0,xz1,xz2,xz3,xz4,xz5,xz6,xz7,xz8,xz9,amE,amF⟩:=FH ou;obtain⟨W5,GF⟩:∃W5,W5=((((((((((((w5.setCell ⟨w1.heap.size,0,U⟩ (I t0d)).setCell ⟨w1.heap.size,1,U⟩ (I t1d)).setCell ⟨w1.heap.size,2,U⟩ (sh p2d k2d c2d)).setCell ⟨w1.heap.size,3,U⟩ (sh p3d k3d c3d)).setCell ⟨w1.heap.size,4,U⟩ (sh p4d k4d c4d)).setCell ⟨w1.heap.size,5,U⟩ (sh p5d k5d c5d)).setCell ⟨w1.heap.size,6,U⟩ (O J i6d)).setCell ⟨w1.heap.size,7,U⟩ (O J i7d)).setCell ⟨w1.heap.size,8,U⟩ (O J i8d)).setCell ⟨w1.heap.size,9,U⟩ (O J i9d)).setCell ⟨w1.heap.size,10,U⟩ (O J afo)).setCell ⟨w1.heap.size,11,U⟩ (sh afp afq afr)):=⟨_,rfl⟩;have hF5:W5=pH w1.heap.size [I t0d,I t1d,sh p2d k2d c2d,sh p3d k3d c3d,sh p4d k4d c4d,sh p5d k5d c5d,O J i6d,O J i7d,O J i8d,O J i9d,O J afo,sh afp afq afr] 0 w5:=by rw[GF];simp only[pH,I6,Uo]
 have vR:W5.heap[w1.heap.size]?=AI (Ib #[I t0d,I t1d,sh p2d k2d c2d,sh p3d k3d c3d,sh p4d k4d c4d,sh p5d k5d c5d,O J i6d,O J i7d,O J i8d,O J i9d,O J afo,sh afp afq afr] 30 (0,0)):=by rw[hF5];exact BW ou _ _ _ _ _ _ _ _ _ _ _ _
 have axf:Hid _:=vR;have akN:Hid (Below w.heap.size w W5):=by rw[hF5];exact o9 pC _ _ uy.out
 have arF:Hid (vd W5 bg4 #[I t0d,I t1d,sh p2d k2d c2d,sh p3d k3d c3d,sh p4d k4d c4d,sh p5d k5d c5d,O J i6d,O J i7d,O J i8d,O J i9d,O J afo,sh afp afq afr]):=by rw[hF5];exact(HA9.out.pH (by omega) _ _).is
 have hs5:W5.heap.size=w5.heap.size:=by rw[hF5];exact yP _ _ _ _
 obtain⟨u0,u1,u2,u3,u4,u5,u6,u7,u8,u9,u10,u11⟩:=oA vR;clear hF5 ou vR HA9;have hk3:=DT;clear DT;have vN:Hid _:=hk3;clear hk3;go_upto_region 6 with fail
 rw[<- GF];clear GF x0 xz0 x1 xz1 x2 xz2 x3 xz3 x4 xz4 x5 xz5 x6 xz6 x7 xz7 x8 xz8 x9 xz9 x10 amE x11 amF;go_wp2_with fail;refine(ain arF.out).mono ?_;intro e w6 h;obtain⟨A1,ta,tk,tc,l,rest,rfl,hT,hA,hol,mO⟩:=h.ok arc;obtain⟨t0e,t1e,p2e,k2e,c2e,p3e,k3e,c3e,p4e,k4e,c4e,p5e,k5e,c5e,i6e,i7e,i8e,i9e,arG,arH,arI,arJ,rfl⟩:=hA.is.letters;simp only[ndV] at hA ⊢;have hl:=aim hT;subst hl;have sZ:w1.heap.size<w6.heap.size:=by have:=mO.size;omega
 have ou:=(mO.block _ (by omega)).trans axf.out;have ag0:Hid _:=akN.out.trans (mO.mono (by omega));obtain⟨a,cap,hv,_,pO⟩:=hol.sl (oz (by intro m hm;rw[List.mem_singleton.1 hm];exact one_le));injection hv with hv1 XP SZ;rcases pO with h0|⟨g,off,hp,mS,pO⟩
 .cases h0
 have hc:=(pO 0 (by simp)).2.1;have hc2:w6.cell? ⟨g,off+1,U⟩=AI (O J 2):=by simpa[bgM] using hc
 have HC:Hid _:=hc2;clear hc2;subst hv1 hp;have axg:=XP;subst axg;clear XP SZ pO hc hT hA hol h mO arF u0 u1 u2 u3 u4 u5 u6 u7 u8 u9 u10 u11;generalize bg4.name=qn at *;obtain⟨W6,hW6⟩:∃W6,W6=(w6.alloc (Ib #[I t0e,I t1e,sh p2e k2e c2e,sh p3e k3e c3e,sh p4e k4e c4e,sh p5e k5e c5e,O J i6e,O J i7e,O J i8e,O J i9e,O J arG,sh arH arI arJ] 30)).alloc (Ib #[I qn,Ic false,sh (AI ⟨g,off,U⟩) 1 tc,sh U 0 0,sh U 0 0,sh U 0 0] 76):=⟨_,rfl⟩;have Bj:Below w6.heap.size w6 W6:=by rw[hW6];exact((Below.refl _ _).alloc (By _) _).alloc (by simp) _
 have xv:W6.heap[w6.heap.size+1]?=AI (Ib #[I qn,Ic false,sh (AI ⟨g,off,U⟩) 1 tc,sh U 0 0,sh U 0 0,sh U 0 0] 76 (0,0)):=by
  have h:=Ii (w6.alloc (Ib #[I t0e,I t1e,sh p2e k2e c2e,sh p3e k3e c3e,sh p4e k4e c4e,sh p5e k5e c5e,O J i6e,O J i7e,O J i8e,O J i9e,O J arG,sh arH arI arJ] 30)) (Ib #[I qn,Ic false,sh (AI ⟨g,off,U⟩) 1 tc,sh U 0 0,sh U 0 0,sh U 0 0] 76);rw[hW6];simpa using h
 have hgd:=(Bj.block _ sZ).trans ou;have z1:W6.cell? ⟨w1.heap.size,2,U⟩=AI (sh p2d 2 c2d):=(fi hgd 2).trans (by rw[vN.out];rfl);have z2:=fi xv 2;have z3:=(Bj.cell mS).trans HC.out;have uK:Hid _:=ag0.out.trans (Bj.mono ag0.out.size);clear Bj xv hgd ou mS;go_upto_region 7 with fail
 rw[<- hW6];clear hW6;go_wp2_with fail;go_ret;exact⟨rfl,uK.out⟩
theorem GI(n:Nd)(vm vr vs vg vw:Value)(s:ByteArray)(w:World)(zK:ML w)(hn:uL w n vm vr vs vg vw) :
 Calls AT 3 #[Iu (sR n vm vr vs vg vw),I s] w λe w'=>e=Ia (Ic true)/\Below w.heap.size w w':=by
 have HNB:Hid (∀W,Calls _ _ _ _ _):=λW=>Gs W;have HAK:Hid (∀W,Below w.heap.size w W->Calls AT 4 #[Iu (sR n vm vr vs vg vw),I s] W λe w'=>Below W.heap.size W w'/\zS n (xz s) s e):=λW hW=>aik n vm vr vs vg vw s (xz s) W (afi s) (zK.below hW) (hn.below hW);have yt:Hid (∀W,Below w.heap.size w W->Calls _ _ _ _ _):=λW hW=>NP n vm vr vs vg vw W (hn.below hW);have HAO:Hid (n.e=0->∀W,Below w.heap.size w W->Calls _ _ _ _ _):=λh0 W hW=>abh n vm vr vs vg vw s W (hn.below hW) h0;clear zK hn;obtain⟨W0,rm,rG,-,k0⟩:=pL w (sR n vm vr vs vg vw) 30;have pN:Hid (Below w.heap.size w W0):=rG;have Et:Hid (W0.heap[w.heap.size]?=AI (Ib (sR n vm vr vs vg vw) 30 (0,0))):=k0;obtain⟨a0,a1,a2,a3,a4,a5,a6,a7,a8,a9,a10,a11⟩:=oA k0;clear rG k0;go_enter func3,ntmps3;go_upto_region 1 with fail
 rw[<- rm];clear rm;go_wp2_with fail;refine(HAK.out W0 pN.out).mono ?_;rintro e w1 ⟨mO,hs⟩;have mY:Hid (Below w.heap.size w w1):=pN.out.trans (mO.mono pN.out.size);have wH:Hid (w1.heap[w.heap.size]?=AI (Ib (sR n vm vr vs vg vw) 30 (0,0))):=(mO.block _ (Ig.1 Et.out).1).trans Et.out;clear mO a0 a1 a2 a3 a4 a5 a6 a7 a8 a9 a10 a11 pN Et HAK;obtain⟨a0,a1,a2,a3,a4,a5,a6,a7,a8,a9,a10,a11⟩:=oA wH.out;have Mp:=yt.out w1 mY.out;have Ko:Hid (Calls _ _ _ _ _):=Mp;clear Mp yt;rcases hs with⟨nK,rfl⟩|⟨h0,r,hr,rfl⟩
 .have he:(n.e==0)=false:=by simpa using nK
  have he2:(n.e==n.e)=true:=by simp
  clear HAO nK;generalize n.e=ne at *;go_wp2_with fail;refine Ko.out.mono ?_;rintro e w2 ⟨rfl,mZ⟩;have nR:Hid (Below w.heap.size w w2):=mY.out.trans (mZ.mono mY.out.size);clear mZ Ko a0 a1 a2 a3 a4 a5 a6 a7 a8 a9 a10 a11 mY wH;go_wp2_with fail;refine(HNB.out w2).mono ?_;rintro e w3 ⟨rfl,nC⟩;have oT:Hid (Below w.heap.size w w3):=nR.out.trans (nC.mono nR.out.size);clear nC nR HNB;go_wp2_with fail;go_ret;exact⟨rfl,oT.out⟩
 .have HU:Hid (∀r',zQ n (xz s) r'->r'=r):=λr' h=>afh h hr
  have hao:=HAO.out h0;have Rt:Hid (∀W,Below w.heap.size w W->Calls _ _ _ _ _):=λW hW=>hao W hW;have H0:Hid (n.e=0):=h0;clear HAO hr hao h0;generalize hTX:(if r.isSome=true then s else vc s n.mM n.sv n.ms n.p n.wh)=tx at *;have HTX:Hid ((if r.isSome=true then s else vc s n.mM n.sv n.ms n.p n.wh)=tx):=hTX;clear hTX;go_wp2_with fail;refine Ko.out.mono ?_;rintro e w2 ⟨rfl,mZ⟩;have nR:Hid (Below w.heap.size w w2):=mY.out.trans (mZ.mono mY.out.size);have vN:Hid (w2.heap[w.heap.size]?=AI (Ib (sR n vm vr vs vg vw) 30 (0,0))):=(mZ.block _ (Ig.1 wH.out).1).trans wH.out;clear mZ Ko a0 a1 a2 a3 a4 a5 a6 a7 a8 a9 a10 a11 mY wH;obtain⟨a0,a1,a2,a3,a4,a5,a6,a7,a8,a9,a10,a11⟩:=oA vN.out;have he0:(n.e==0)=true:=by simp[H0.out]
  rw[H0.out];clear vN;go_wp2_with fail;refine(Rt.out w2 nR.out).mono ?_;rintro e w3 ⟨nC,r',hr',rfl⟩;obtain rfl:=HU.out r' hr';rw[HTX.out];have oT:Hid (Below w.heap.size w w3):=nR.out.trans (nC.mono nR.out.size);clear nC nR HU hr' Rt HTX a0 a1 a2 a3 a4 a5 a6 a7 a8 a9 a10 a11;go_wp2_with fail;refine(HNB.out w3).mono ?_;rintro e w4 ⟨rfl,qA⟩;have qP:Hid (Below w.heap.size w w4):=oT.out.trans (qA.mono oT.out.size);have e1:(tx.toList==tx.toList)=true:=by simp
  have e2:(r'.getD 0==r'.getD 0)=true:=by simp
  have e3:(r'.isSome==r'.isSome)=true:=by simp
  clear qA oT HNB H0 he0;generalize r'.getD 0=ad at *;generalize r'.isSome=bb at *;go_wp2_with fail;go_ret;exact⟨rfl,qP.out⟩
end Go.Proofs.YtipbebleapjcjaaGreatDoor
