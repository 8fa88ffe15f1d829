import Derived.Test.YtfidjlcdlakceaaGreatDoorrt34
import Derived.Test.YtfidjlcdlakceaaGreatDoorrt49
import Derived.Test.YtfidjlcdlakceaaGreatDoorrt48
set_option maxHeartbeats 25600000
set_option maxRecDepth 100000
open Go.Value renaming string→I,tuple→Il,agg→Ip,int→O,bool→AT,slice→U
open Go.Ending renaming returned→sh
open Go.IntKind renaming i64→J,wrap_i64→IN
open Option renaming none→Y,some→Z
open Go.Proofs.Tryz renaming prog→be
open Go.Obj renaming cells→AI
open Go renaming maxLen→Ii,redrawn→Ix,cell_regrown→Iq,bodyPost_ret→Iy,heap_alloc_new→Ie
open Array renaming getElem?_eq_some_iff→Ib
open Nat renaming le_refl→By,zero_add→I3
open ByteArray renaming empty→If
namespace Go.Proofs.YtfidjlcdlakceaaGreatDoor
open Go.RowKit
def WT(s:ByteArray)(m:Option Ms):Prop:=∀W,Calls be 19 #[I s] W λe w'=>∃i a c o r y p l k X,e=sh (Il #[Ip #[O J i,AT a,AT c,O J o,I r,O J y,U p l k],O J X])/\Hid (MsV w' m #[O J i,AT a,AT c,O J o,I r,O J y,U p l k]/\(m=Y↔X≠0)/\∀M,m=Z M->bc M.id M.code M.al M.R M.rs=0)/\Below W.heap.size W w'
theorem RA{id code al:Int}{ay cut:Bool}{R:ByteArray}{rs:List Rc.Rec}(h:CB id code al ay cut R rs=0):WT (Ac id code al ay cut R rs) (Z ⟨id,code,al,ay,cut,R,rs⟩):=λW=>by
 refine(BA h W).mono ?_;rintro e w' ⟨v,rfl,hb,ho⟩;have hc:=(C5 h).1;have hcf:=cL hc;obtain⟨p,l,k,rfl⟩:∃a l c,v=U a l c:=by
  rcases ho.out.2 with⟨hv,_⟩|⟨gq,cq,_,hv,_⟩
  .exact⟨_,_,_,hv⟩
  .exact⟨_,_,_,hv⟩
 refine⟨_,_,_,_,_,_,_,_,_,_,rfl,⟨⟨_,ho.out.sl (wZ hcf.2.2),by have:=hcf.1;simp only;omega,rfl⟩,by simp,λM hM=>?_⟩,hb⟩;injection hM with hM;subst hM;exact hc
def vY(n:Nd)(m:Option Ms)(r:Option Int):Prop:=match m with
 |none=>r=Y
 |some M=>if M.ay=false/\M.rs.length=0/\eI M.R=0 then ∃p f,Gw.At n.gw ⟨(cZ M.R).ai,0,0⟩ p f/\r=(if Gw.fH f n.ai (cZ M.R).ai=0 then Z (Gw.Ai n.gw p f).addr else Y) else r=Y
theorem Cf(n:Nd)(vm vr vs vg vw:Value)(b:Nat)(s:ByteArray)(m:Option Ms)(w:World)(GP:WT s m)(nI:ML w)(hb:w.heap[b]?=Z (AI (fB n vm vr vs vg vw) 81 (0,0)))(hn:ix w n vm vr vs vg vw)(h0:n.e=0) :
 Calls be 31 #[.pointer (Z ⟨b,0,Y⟩),I s] w λe w'=>Below w.heap.size w w'/\∃r,vY n m r/\e=sh (Il #[O J (r.getD 0),AT r.isSome]):=by
 have hp:=Nd.parts (Nd.jy h0).1;have K4:Hid (m=Y->vY n m Y):=λh=>by rw[h];exact rfl
 have Py:Hid (∀M,m=Z M->bc M.id M.code M.al M.R M.rs=0->∀W x,MsV W m x->∃v,x=#[O J M.id,AT M.ay,AT M.cut,O J M.code,I M.R,O J M.al,v]/\Rc.Sl W v M.rs/\M.R.size<=Ii/\(¬ (M.ay=false/\M.rs.length=0/\eI M.R=0)->vY n m Y)/\∀r,M.ay=false/\M.rs.length=0/\eI M.R=0->(∃p f,Gw.At n.gw ⟨(cZ M.R).ai,0,0⟩ p f/\r=(if Gw.fH f n.ai (cZ M.R).ai=0 then Z (Gw.Ai n.gw p f).addr else Y))->vY n m r):=λM hm hc W x hx=>by
  rw[hm] at hx ⊢;obtain⟨v,hv,_,he⟩:=hx;refine⟨v,he,hv,by have:=(gy (cL hc).2.1).1;unfold Ii;omega,λhc=>?_,λr hc hr=>?_⟩
  .unfold vY;simp only;rw[if_neg hc];trivial
  .unfold vY;simp only;rw[if_pos hc];exact hr
 have Vl:Hid (∀(W:World) (t:ByteArray),Below w.heap.size w W->t.size<=Ii->Calls _ _ _ _ _):=λW t hW ht=>pQ t W (nI.below hW) ht;have XE:Hid (∀(t:ByteArray),t.size<=Ii->∃p f,Gw.At n.gw ⟨t,0,0⟩ p f/\∀W,Below w.heap.size w W->Calls be 78 #[vg,I n.ai,I t] W λe w'=>e=sh (Il #[O J (Gw.lI n.gw p f n.ai t),O J (Gw.fH f n.ai t)])/\Below W.heap.size W w'):=λt ht=>by
  obtain⟨p,f,cG⟩:=Gw.Ba n.gw (Gw.aI hp.gw).2.1 ⟨t,0,0⟩;exact⟨p,f,cG,λW hW=>Gw.Fm n.gw vg n.ai t W (hn.gw.below hW) hp.gw hn.ai ht p f cG⟩
 have HQK:Hid (∀t,eI t=0->(cZ t).ai.size<=Ii):=λt _=>(Dc t).2.2.2;obtain⟨x5,k5,rfl,_,_⟩:=id hn.gw;have gV:Hid (w.heap[b]?=Z (AI (fB n vm vr vs (U x5 n.gw.length k5) vw) 81 (0,0))):=hb;have HBL:Hid (b<w.heap.size):=(Ib.1 hb).1;have HRD:Hid (∀W,Calls _ _ _ _ _):=λW=>GP W;clear hb hn h0 nI hp GP;go_enter Tryz.func31,Tryz.ntmps31;go_wp2_with fail;refine(HRD.out w).mono ?_;rintro e w1 ⟨i,a,c,o,r,y,p,l,k,X,rfl,hmv,an⟩;have aK:Hid (Below w.heap.size w w1):=an;have XF:Hid _:=hmv.out;obtain⟨W2,eW,aD,nP,rD⟩:=eC w1 #[O J i,AT a,AT c,O J o,I r,O J y,U p l k] 43;have bD:Hid (Below w.heap.size w W2):=an.trans (aD.mono an.size);have jY:Hid (W2.heap[w1.heap.size]?=Z (AI #[O J i,AT a,AT c,O J o,I r,O J y,U p l k] 43 (0,0))):=rD;clear hmv an aD nP HRD;go_upto_region 2 with fail
 rw[<- eW];clear eW;generalize w1.heap.size=gm at *;have z1:=af rD 1;have z4:=af rD 4;have z6:=af rD 6;clear rD;cases oS:m with
 |some M=>
  have hx:X=0:=Classical.byContradiction λh=>by
   have:=XF.out.2.1.2 h;rw[oS] at this;cases this
  subst hx;obtain⟨v,hxe,PL,hR,DT,ab4⟩:=Py.out M oS (XF.out.2.2 M oS) _ _ XF.out.1;have hl:l=M.rs.length/\r=M.R/\a=M.ay:=by
   obtain⟨_,_,he,_,_⟩:=PL;simp only[he,Array.mk.injEq,List.cons.injEq,Value.int.injEq,Value.string.injEq,Value.bool.injEq,Value.slice.injEq,true_and,and_true] at hxe;obtain⟨_,h2,_,_,h5,_,_,h8,_⟩:=hxe;exact⟨h8,h5,h2⟩
  obtain⟨e1,e2,e3⟩:=hl;have Cg:Hid (¬ (a=false/\l=0/\eI r=0)->vY n m Y):=by rw[e1,e2,e3];exact DT
  have MK:Hid (∀q,a=false/\l=0/\eI r=0->(∃p f,Gw.At n.gw ⟨(cZ r).ai,0,0⟩ p f/\q=(if Gw.fH f n.ai (cZ r).ai=0 then Z (Gw.Ai n.gw p f).addr else Y))->vY n m q):=by rw[e1,e2,e3];exact ab4
  have HR:Hid (r.size<=Ii):=by rw[e2];exact hR
  clear hxe PL hR DT ab4 e1 e2 e3 K4 Py XF;have HMM:Hid (m=Z M):=oS;clear oS;cases a with
  |true=>
   have HF:Hid (vY n m Y):=Cg.out (by simp);clear MK Cg Vl XE;go_wp2_with fail;go_ret2;exact⟨bD.out,Y,HF.out,rfl⟩
  |false=>
   by_cases h0:l=0
   .subst h0
    have hd:decide ((0:Int)<(0:Nat))=false:=by decide
    have hC:=Vl.out W2 r bD.out HR.out;have HC:Hid (Calls _ _ _ _ _):=hC;clear hC;go_wp2_with fail;refine HC.out.mono ?_;rintro e w3 ⟨rfl,bn⟩;obtain⟨W4,Ak,e9,yw,PT⟩:=eC w3 #[I (cZ r).service,I (cZ r).tag,I (cZ r).node,I (cZ r).ai] 32;have fb:Hid (Below w.heap.size w W4):=bD.out.trans ((bn.trans (e9.mono bn.size)).mono bD.out.size);have hq3:=af PT 3;clear z1 z4 z6 HC Vl bn e9 yw PT hd;go_upto_region 5 with fail
    rw[<- Ak];clear Ak;generalize w3.heap.size=gq at *;by_cases h1:eI r=0
    .have hp0:(eI r !=0)=false:=by simp[h1]
     have hkx:=HQK.out r h1;have Xr:=(fb.out.block b HBL.out).trans gV.out;have g1:W4.cell? ⟨b,1,Y⟩=Z (I n.ai):=af Xr 1;have g5:W4.cell? ⟨b,5,Y⟩=Z (U x5 n.gw.length k5):=af Xr 5;obtain⟨p',f',cG,hnx⟩:=XE.out _ hkx;have HY:Hid (∀q,q=(if Gw.fH f' n.ai (cZ r).ai=0 then Z (Gw.Ai n.gw p' f').addr else Y)->vY n m q):=λq hq=>MK.out q (by simpa using h1) ⟨p',f',cG,hq⟩;have HA:Hid (Gw.lI n.gw p' f' n.ai (cZ r).ai=if Gw.fH f' n.ai (cZ r).ai=0 then(Gw.Ai n.gw p' f').addr else 0):=rfl;have C0:∀d os,Calls be 78 #[U x5 n.gw.length k5,I n.ai,I (cZ r).ai] (Go.Sort.grow (Ix W4 d) os) λe kE=>e=sh (Il #[O J (Gw.lI n.gw p' f' n.ai (cZ r).ai),O J (Gw.fH f' n.ai (cZ r).ai)])/\∃p:Regrown,kE=Go.Sort.grow (Ix W4 p.d) p.os:=λd os=>Calls.regrown_of (hnx _ (fb.out.trans ((below_regrown W4 d os).mono fb.out.size)));have G1:=Iq g1;have G5:=Iq g5;have Q3:=Iq hq3;clear hnx hkx cG MK Cg XE h1 Xr;generalize(Gw.Ai n.gw p' f').addr=AD at *;generalize Gw.lI n.gw p' f' n.ai (cZ r).ai=A at *;generalize Gw.fH f' n.ai (cZ r).ai=X' at *;generalize(cZ r).ai=rc at *;generalize n.gw.length=ng at *;go_upto_region 7 with fail
     refine wp_region_quiet_below (by kernel_rfl) (by kernel_rfl) ?_;repeat(quiet_step (exact C0 _ _))
     refine cA λdq oN gC=>?_;have ia:Hid _:=fb.out.trans (gC.out.mono fb.out.size);clear C0 G1 G5 Q3 g1 g5 hq3 gC;generalize Go.Sort.grow (Ix W4 dq) oN=W5 at *;by_cases hz:X'=0
     .subst hz
      have HF:Hid (vY n m (Z A)):=HY.out _ (by rw[if_pos rfl,HA.out,if_pos rfl]);clear HY HA;go_wp2_with fail;go_ret2;exact⟨ia.out,Z A,HF.out,rfl⟩
     .have cE:(X'==0)=false:=by simpa using hz
      have HF:Hid (vY n m Y/\A=0):=⟨HY.out _ (by rw[if_neg hz]),HA.out.trans (if_neg hz)⟩;clear HY HA hz;go_wp2_with fail;go_ret2;exact⟨ia.out,Y,HF.out.1,by rw[HF.out.2];rfl⟩
    .have hp0:(eI r !=0)=true:=by simpa using h1
     have HF:Hid (vY n m Y):=Cg.out (λh=>h1 h.2.2);clear MK Cg XE h1;generalize eI r=pe at *;go_wp2_with fail;go_ret2;exact⟨fb.out,Y,HF.out,rfl⟩
   .have hd:0<l:=by omega
    have HF:Hid (vY n m Y):=Cg.out (λh=>h0 h.2.1);clear MK Cg Vl XE h0;go_wp2_with fail;go_ret2;exact⟨bD.out,Y,HF.out,rfl⟩
 |none=>
  have hx:=XF.out.2.1.1 oS;have SM:(X !=0)=true:=by simpa using hx
  have HF:Hid (vY n m Y):=by rw[oS];exact rfl
  clear K4 Py XF Vl XE hx oS;go_wp2_with fail;go_ret2;exact⟨bD.out,Y,HF.out,rfl⟩
theorem GD{α:Type}{l:List α}{i:Nat}(h:i<l.length)(d:α):l.getD i d∈l:=by rw[List.getD,List.getElem?_eq_getElem h];exact List.getElem_mem h
theorem ab5{n:Nd}(h:n.e=0):Bn n.ai n.sv n.ms n.p n.wh=0:=by
 have hp:=Nd.parts (Nd.jy h).1;unfold Bn;rw[if_pos hp.ai,if_pos hp.sv,if_pos hp.ms];have hz:=Wh.aI hp.wh;refine LH (by have:=hz.1;omega) hp.p (λj hj=>?_);have e:=Wh.dw _ hz.2.2 _ (GD hj Wh.dm);unfold Wh.cd.e at e;split at e
 .exact e
 .exact absurd e (by decide)
def mz(n:Nd)(m:Option Ms)(s:ByteArray)(e:Ending):Prop:=(n.e≠0/\e=sh (Il #[I ⟨#[]⟩,O J 0,AT false,O J n.e]))\/(n.e=0/\∃r:Option Int,vY n m r/\e=sh (Il #[I (if r.isSome=true then s else rm s n.ai n.sv n.ms n.p n.wh),O J (r.getD 0),AT r.isSome,O J 0]))
theorem RB(n:Nd)(vm vr vs vg vw:Value)(s:ByteArray)(m:Option Ms)(w:World)(GP:WT s m)(nI:ML w)(hn:ix w n vm vr vs vg vw) :
 Calls be 11 #[Ip (fB n vm vr vs vg vw),I s] w λe w'=>Below w.heap.size w w'/\mz n m s e:=by
 have oO:Hid (∀W,Below w.heap.size w W->Calls _ _ _ _ _):=λW hW=>nB n vm vr vs vg vw W (hn.below hW);have HON:Hid (n.e=0->∀(W:World) (b:Nat),Below w.heap.size w W->W.heap[b]?=Z (AI (fB n vm vr vs vg vw) 81 (0,0))->Calls _ _ _ _ _):=λh0 W b hW hb=>Cf n vm vr vs vg vw b s m W GP (nI.below hW) hb (hn.below hW) h0;obtain⟨⟨x2,c2,rfl,h2⟩,⟨x3,c3,rfl,_⟩,⟨x4,c4,rfl,h4⟩,⟨x5,c5,rfl,_⟩,⟨x11,c11,rfl,h11⟩,_,fa⟩:=id hn;have HRP:Hid (n.e=0->∀W,Below w.heap.size w W->Calls be 32 #[I s,I n.ai,U x4 n.sv.length c4,U x2 n.ms.length c2,Ip #[O J n.p.x,O J n.p.y,O J n.p.z,O J n.p.h,O J n.p.s],U x11 n.wh.length c11] W λe w'=>(∃b,e=sh (Il #[I (rm s n.ai n.sv n.ms n.p n.wh),AT b,O J 0]))/\Below W.heap.size W w'):=λh0 W hW=>by
  refine(FP n.ai x4 x2 x11 n.sv.length c4 n.ms.length c2 n.wh.length c11 n.p.x n.p.y n.p.z n.p.h n.p.s s n.sv n.ms n.wh W (nI.below hW) fa (hn.sv.below hW) (hn.ms.below hW) (hn.wh.below hW)).mono ?_;rintro e w' ⟨rfl,hb⟩;exact⟨⟨_,by rw[ab5 h0]⟩,hb⟩
 clear h2 h4 h11 hn nI fa GP;obtain⟨W0,eu,eN,-,k0⟩:=eC w (fB n (U x2 n.ms.length c2) (U x3 n.rs.length c3) (U x4 n.sv.length c4) (U x5 n.gw.length c5) (U x11 n.wh.length c11)) 30;have dB:Hid (Below w.heap.size w W0):=eN;have uW:Hid (W0.heap[w.heap.size]?=Z (AI (fB n (U x2 n.ms.length c2) (U x3 n.rs.length c3) (U x4 n.sv.length c4) (U x5 n.gw.length c5) (U x11 n.wh.length c11)) 30 (0,0))):=k0;obtain⟨a0,a1,a2,a3,a4,a5,a6,a7,a8,a9,a10,a11⟩:=bT k0;have hck:=oO.out W0 dB.out;have HC:Hid (Calls _ _ _ _ _):=hck;have HAS:Hid (∀r:Option Int,n.e=0->vY n m r->mz n m s (sh (Il #[I (if r.isSome=true then s else rm s n.ai n.sv n.ms n.p n.wh),O J (r.getD 0),AT r.isSome,O J 0]))):=λr h0 hr=>.inr ⟨h0,r,hr,rfl⟩;have HAN:Hid (n.e≠0->mz n m s (sh (Il #[I ⟨#[]⟩,O J 0,AT false,O J n.e]))):=λh0=>.inl ⟨h0,rfl⟩;clear eN k0 hck oO;go_enter Tryz.func11,Tryz.ntmps11;go_upto_region 1 with fail
 rw[<- eu];clear eu;go_wp2_with fail;refine HC.out.mono ?_;rintro e w1 ⟨rfl,an⟩;have aK:Hid (Below w.heap.size w w1):=dB.out.trans (an.mono dB.out.size);have mD:Hid (w1.heap[w.heap.size]?=Z (AI (fB n (U x2 n.ms.length c2) (U x3 n.rs.length c3) (U x4 n.sv.length c4) (U x5 n.gw.length c5) (U x11 n.wh.length c11)) 30 (0,0))):=(an.block _ (Ib.1 uW.out).1).trans uW.out;clear an a0 a1 a2 a3 a4 a5 a6 a7 a8 a9 a10 a11 HC dB uW;by_cases h0:n.e=0
 .obtain⟨a0,a1,a2,a3,a4,a5,a6,a7,a8,a9,a10,a11⟩:=bT mD.out
  have Kd:(n.e !=0)=false:=by simp[h0]
  obtain⟨W2,eW,aD,nP,k2⟩:=eC w1 (fB n (U x2 n.ms.length c2) (U x3 n.rs.length c3) (U x4 n.sv.length c4) (U x5 n.gw.length c5) (U x11 n.wh.length c11)) 81;have bD:Hid (Below w.heap.size w W2):=aK.out.trans (aD.mono aK.out.size);have jY:Hid (W2.heap[w.heap.size]?=Z (AI (fB n (U x2 n.ms.length c2) (U x3 n.rs.length c3) (U x4 n.sv.length c4) (U x5 n.gw.length c5) (U x11 n.wh.length c11)) 30 (0,0))):=(aD.block _ (Ib.1 mD.out).1).trans mD.out;have hon:=HON.out h0 W2 w1.heap.size bD.out k2;have ab7:Hid (Calls _ _ _ _ _):=hon;have WU:=HRP;have ab8:=HAS;have H0:Hid (n.e=0):=h0;clear HON HRP HAS HAN aD nP k2 hon;go_upto_region 5 with fail
  rw[<- eW];clear eW a0 a1 a2 a3 a4 a5 a6 a7 a8 a9 a10 a11;generalize w1.heap.size=gw at *;go_wp2_with fail;refine ab7.out.mono ?_;rintro e w3 ⟨bn,r,hr,rfl⟩;have cT:Hid (Below w.heap.size w w3):=bD.out.trans (bn.mono bD.out.size);have nF:Hid (w3.heap[w.heap.size]?=Z (AI (fB n (U x2 n.ms.length c2) (U x3 n.rs.length c3) (U x4 n.sv.length c4) (U x5 n.gw.length c5) (U x11 n.wh.length c11)) 30 (0,0))):=(bn.block _ (Ib.1 jY.out).1).trans jY.out;have HE:Hid (mz _ _ _ _):=ab8.out r H0.out hr;clear bn ab7 hr ab8;cases r with
  |some A=>
   simp only[Option.isSome_some,Option.getD_some,if_true] at HE ⊢;clear WU;go_wp2_with fail;exact Iy (v:=Il #[I s,O J A,AT true,O J 0]) (by simp[results,Tryz.results11,go_sem]) rfl ⟨cT.out,HE.out⟩
  |none=>
   simp only[Option.isSome_none,Option.getD_none,Bool.false_eq_true,if_false] at HE ⊢;obtain⟨a0,a1,a2,a3,a4,a5,a6,a7,a8,a9,a10,a11⟩:=bT nF.out;have hrp:=WU.out H0.out w3 cT.out;have rG:Hid (Calls _ _ _ _ _):=hrp;clear hrp WU;generalize rm s n.ai n.sv n.ms n.p n.wh=RT at *;go_wp2_with fail;refine rG.out.mono ?_;rintro e w4 ⟨⟨b,rfl⟩,e9⟩;have fb:Hid (Below w.heap.size w w4):=cT.out.trans (e9.mono cT.out.size);clear e9 rG a0 a1 a2 a3 a4 a5 a6 a7 a8 a9 a10 a11;go_wp2_with fail;exact Iy (v:=Il #[I RT,O J 0,AT false,O J 0]) (by simp[results,Tryz.results11,go_sem]) rfl ⟨fb.out,HE.out⟩
 .have Kd:(n.e !=0)=true:=by simpa using h0
  have HE:Hid (mz _ _ _ _):=HAN.out h0;clear HON HRP HAS HAN h0;generalize n.e=ne at *;go_wp2_with fail;exact Iy (v:=Il #[I ⟨#[]⟩,O J 0,AT false,O J ne]) (by simp[results,Tryz.results11,go_sem]) rfl ⟨aK.out,HE.out⟩
theorem oG.cV{B:Nat}{w:World}{n:Nd}{A:Array Value}(h:oG B w n A){b:Nat}(hb:b<B)(L:List Value)(j:Nat):oG B (cV b L j w) n A:=by
 obtain⟨v1,v2,v3,v4,v5,h1,h2,h3⟩:=h;exact⟨v1,v2,v3,v4,v5,h1,⟨bV hb L j h2.ms,bV hb L j h2.rs,bV hb L j h2.sv,bV hb L j h2.gw,bV hb L j h2.wh⟩,h3⟩
theorem iy.len{w:World}{n:Nd}{A:Array Value}(h:iy w n A):∃p c,A[2]?=Z (U p n.ms.length c):=by
 obtain⟨vm,vr,vs,vg,vw,rfl,⟨pm,cm,rfl,_⟩,_⟩:=h;exact⟨pm,cm,rfl⟩
theorem MM{w:World}{n:Nd}{p:Pk}{A P:Array Value}(h:iy w n A)(hp:oH w p P)(hlen:p.whole=true\/p.sv.length+p.gw.length+p.wh.length<=4611686018427387904)(cP:n.sv=[])(jD:n.gw=[])(mB:p.sv=[])(iu:p.gw=[])(fW:p.wh=[]):Calls be 18 #[Ip A,Ip P] w λe w'=>fV n.e (B5 n p) (He n p) w e w':=by
 obtain⟨_,_,_,_,_,rfl,h⟩:=h;obtain⟨_,_,_,_,rfl,hp⟩:=hp;exact Gi n p _ _ _ _ _ _ _ _ _ w h hp hlen cP jD mB iu fW
theorem one_le:(1:Nat)<=Ii:=by decide
theorem tS(w:World):Calls be 5 #[] w λe w'=>e=sh (AT true)/\Below w.heap.size w w':=by
 go_enter Tryz.func5,Tryz.ntmps5;go_wp2_with fail;refine(Dn ⟨#[97]⟩ ⟨#[99]⟩ 1 false w one_le one_le).mono ?_;intro e w1 h;obtain⟨A1,rfl,hA,an⟩:=h.ok abP rfl;obtain⟨Dv,Dw,Dx,Dy,Dz,DA,DB,DC,DE,DF,DG,DH,DI,DJ,DK,DM,DN,DO,oJ,oK,oL,oM,rfl⟩:=hA.is.letters;simp only[XD] at hA ⊢;have CZ:Hid (iy w1 Rs #[I Dv,I Dw,U Dx Dy Dz,U DA DB DC,U DE DF DG,U DH DI DJ,O J DK,O J DM,O J DN,O J DO,O J oJ,U oK oL oM]):=hA.is;have aK:Hid (Below w.heap.size w w1):=an;have cP:w.heap.size<=w1.heap.size:=an.size;clear h hA an;obtain⟨W1,gA⟩:∃W1,W1=w1.alloc (AI #[I Dv,I Dw,U Dx Dy Dz,U DA DB DC,U DE DF DG,U DH DI DJ,O J DK,O J DM,O J DN,O J DO,O J oJ,U oK oL oM] 30):=⟨_,rfl⟩;have ha1:Below w1.heap.size w1 W1:=by rw[gA];exact(Below.refl _ _).alloc (By _) _
 have ji:Hid (W1.heap[w1.heap.size]?=Z (AI #[I Dv,I Dw,U Dx Dy Dz,U DA DB DC,U DE DF DG,U DH DI DJ,O J DK,O J DM,O J DN,O J DO,O J oJ,U oK oL oM] 30 (0,0))):=by rw[gA];exact Ie w1 _
 have gi:W1.heap.size=w1.heap.size+1:=by rw[gA];simp
 have tl:Hid (iy W1 Rs #[I Dv,I Dw,U Dx Dy Dz,U DA DB DC,U DE DF DG,U DH DI DJ,O J DK,O J DM,O J DN,O J DO,O J oJ,U oK oL oM]):=CZ.out.below ha1;have bD:Hid (Below w.heap.size w W1):=aK.out.trans (ha1.mono cP);clear ha1 CZ;go_upto_region 2 with fail
 rw[<- gA];clear gA;go_wp2_with fail;refine(Dn ⟨#[98]⟩ ⟨#[99]⟩ 2 true W1 one_le one_le).mono ?_;intro e w2 h;obtain⟨A1,rfl,hA,an⟩:=h.ok abQ rfl;obtain⟨t0b,t1b,p2b,k2b,c2b,p3b,k3b,c3b,p4b,k4b,c4b,p5b,k5b,c5b,i6b,i7b,i8b,i9b,RD,RF,RG,RH,rfl⟩:=hA.is.letters;simp only[XD] at hA ⊢;have xX:Hid (iy w2 WM #[I t0b,I t1b,U p2b k2b c2b,U p3b k3b c3b,U p4b k4b c4b,U p5b k5b c5b,O J i6b,O J i7b,O J i8b,O J i9b,O J RD,U RF RG RH]):=hA.is;have wX:Hid (iy w2 Rs #[I Dv,I Dw,U Dx Dy Dz,U DA DB DC,U DE DF DG,U DH DI DJ,O J DK,O J DM,O J DN,O J DO,O J oJ,U oK oL oM]):=tl.out.below an;have cT:Hid (Below w.heap.size w w2):=bD.out.trans (an.mono (by omega));have ahm:Hid (w2.heap[w1.heap.size]?=Z (AI #[I Dv,I Dw,U Dx Dy Dz,U DA DB DC,U DE DF DG,U DH DI DJ,O J DK,O J DM,O J DN,O J DO,O J oJ,U oK oL oM] 30 (0,0))):=(an.block _ (by omega)).trans ji.out;have jD:w1.heap.size<w2.heap.size:=by have:=an.size;omega
 clear h hA an tl;obtain⟨W2,eW⟩:∃W2,W2=w2.alloc (AI #[I t0b,I t1b,U p2b k2b c2b,U p3b k3b c3b,U p4b k4b c4b,U p5b k5b c5b,O J i6b,O J i7b,O J i8b,O J i9b,O J RD,U RF RG RH] 30):=⟨_,rfl⟩;have ha2:Below w2.heap.size w2 W2:=by rw[eW];exact(Below.refl _ _).alloc (By _) _
 have oP:Hid (W2.heap[w2.heap.size]?=Z (AI #[I t0b,I t1b,U p2b k2b c2b,U p3b k3b c3b,U p4b k4b c4b,U p5b k5b c5b,O J i6b,O J i7b,O J i8b,O J i9b,O J RD,U RF RG RH] 30 (0,0))):=by rw[eW];exact Ie w2 _
 have nP:W2.heap.size=w2.heap.size+1:=by rw[eW];simp
 have HA4:Hid (iy W2 Rs #[I Dv,I Dw,U Dx Dy Dz,U DA DB DC,U DE DF DG,U DH DI DJ,O J DK,O J DM,O J DN,O J DO,O J oJ,U oK oL oM]):=wX.out.below ha2;have AQ:Hid (iy W2 WM #[I t0b,I t1b,U p2b k2b c2b,U p3b k3b c3b,U p4b k4b c4b,U p5b k5b c5b,O J i6b,O J i7b,O J i8b,O J i9b,O J RD,U RF RG RH]):=xX.out.below ha2;have fb:Hid (Below w.heap.size w W2):=cT.out.trans (ha2.mono (by omega));have ahn:Hid (W2.heap[w1.heap.size]?=Z (AI #[I Dv,I Dw,U Dx Dy Dz,U DA DB DC,U DE DF DG,U DH DI DJ,O J DK,O J DM,O J DN,O J DO,O J oJ,U oK oL oM] 30 (0,0))):=(ha2.block _ jD).trans ahm.out;have hg:=oP.out;obtain⟨y0,y1,y2,y3,y4,y5,y6,y7,y8,y9,y10,y11⟩:=bT hg;clear ha2 wX xX hg;go_upto_region 3 with fail
 rw[<- eW];clear eW;go_wp2_with fail;refine(MD AQ.out).mono ?_;intro e w3 h;obtain⟨A1,rfl,hP,an⟩:=h.ok abS AQ.out.ok;obtain⟨t0p,b1p,p2p,k2p,c2p,p3p,k3p,c3p,p4p,k4p,c4p,p5p,k5p,c5p,rfl⟩:=hP.is.letters;simp only[pkV] at hP ⊢;have HP1:Hid (oH w3 bgP #[I t0p,AT b1p,U p2p k2p c2p,U p3p k3p c3p,U p4p k4p c4p,U p5p k5p c5p]):=hP;have HA5:Hid (iy w3 Rs #[I Dv,I Dw,U Dx Dy Dz,U DA DB DC,U DE DF DG,U DH DI DJ,O J DK,O J DM,O J DN,O J DO,O J oJ,U oK oL oM]):=HA4.out.below an;have ia:Hid (Below w.heap.size w w3):=fb.out.trans (an.mono (by omega));have aho:Hid (w3.heap[w1.heap.size]?=Z (AI #[I Dv,I Dw,U Dx Dy Dz,U DA DB DC,U DE DF DG,U DH DI DJ,O J DK,O J DM,O J DN,O J DO,O J oJ,U oK oL oM] 30 (0,0))):=(an.block _ (by omega)).trans ahn.out;have mB:w1.heap.size<w3.heap.size:=by have:=an.size;omega
 clear h hP an HA4 AQ y0 y1 y2 y3 y4 y5 y6 y7 y8 y9 y10 y11;obtain⟨W3,lR⟩:∃W3,W3=w3.alloc (AI #[I t0p,AT b1p,U p2p k2p c2p,U p3p k3p c3p,U p4p k4p c4p,U p5p k5p c5p] 57):=⟨_,rfl⟩;have VT:Below w3.heap.size w3 W3:=by rw[lR];exact(Below.refl _ _).alloc (By _) _
 have PK:Hid (W3.heap[w3.heap.size]?=Z (AI #[I t0p,AT b1p,U p2p k2p c2p,U p3p k3p c3p,U p4p k4p c4p,U p5p k5p c5p] 57 (0,0))):=by rw[lR];exact Ie w3 _
 have Ni:W3.heap.size=w3.heap.size+1:=by rw[lR];simp
 have HA6:Hid (iy W3 Rs #[I Dv,I Dw,U Dx Dy Dz,U DA DB DC,U DE DF DG,U DH DI DJ,O J DK,O J DM,O J DN,O J DO,O J oJ,U oK oL oM]):=HA5.out.below VT;have HP2:Hid (oH W3 bgP #[I t0p,AT b1p,U p2p k2p c2p,U p3p k3p c3p,U p4p k4p c4p,U p5p k5p c5p]):=HP1.out.below VT;have iW:Hid (Below w.heap.size w W3):=ia.out.trans (VT.mono (by omega));have hg:=PK.out;have bf:W3.heap[w1.heap.size]?=Z (AI #[I Dv,I Dw,U Dx Dy Dz,U DA DB DC,U DE DF DG,U DH DI DJ,O J DK,O J DM,O J DN,O J DO,O J oJ,U oK oL oM] 30 (0,0)):=(VT.block _ mB).trans aho.out;have ahp:Hid (W3.heap[w1.heap.size]?=Z (AI #[I Dv,I Dw,U Dx Dy Dz,U DA DB DC,U DE DF DG,U DH DI DJ,O J DK,O J DM,O J DN,O J DO,O J oJ,U oK oL oM] 30 (0,0))):=bf;obtain⟨y0,y1,y2,y3,y4,y5⟩:=ko hg;obtain⟨x0,x1,x2,x3,x4,x5,x6,x7,x8,x9,x10,x11⟩:=bT bf;clear VT HA5 HP1 hg bf;go_upto_region 4 with fail
 rw[<- lR];clear lR;go_wp2_with fail;refine(MM HA6.out HP2.out (.inl rfl) rfl rfl rfl rfl rfl).mono ?_;intro e w4 h;obtain⟨A1,rfl,hA,an⟩:=h.ok abR abT;obtain⟨WV,WW,WX,WY,WZ,W8,Xa,Xb,Xc,Xd,Xe,Xf,Xg,Xh,Xi,Xj,Xk,Xl,Ch,Ci,Cj,Ck,rfl⟩:=hA.is.letters;simp only[XD] at hA ⊢;have HA7:Hid (oG W3.heap.size w4 bg3 #[I WV,I WW,U WX WY WZ,U W8 Xa Xb,U Xc Xd Xe,U Xf Xg Xh,O J Xi,O J Xj,O J Xk,O J Xl,O J Ch,U Ci Cj Ck]):=hA;have rN:Hid (Below w.heap.size w w4):=iW.out.trans (an.mono (by omega));have bf:w4.heap[w1.heap.size]?=Z (AI #[I Dv,I Dw,U Dx Dy Dz,U DA DB DC,U DE DF DG,U DH DI DJ,O J DK,O J DM,O J DN,O J DO,O J oJ,U oK oL oM] 30 (0,0)):=(an.block _ (by omega)).trans ahp.out;have iu:W3.heap.size<=w4.heap.size:=an.size;clear h hA an HA6 HP2 y0 y1 y2 y3 y4 y5 x0 x1 x2 x3 x4 x5 x6 x7 x8 x9 x10 x11;obtain⟨x0,x1,x2,x3,x4,x5,x6,x7,x8,x9,x10,x11⟩:=bT bf;obtain⟨xz0,xz1,xz2,xz3,xz4,xz5,xz6,xz7,xz8,xz9,Xm,Xn⟩:=tt bf;obtain⟨W4,Ak⟩:∃W4,W4=((((((((((((w4.setCell ⟨w1.heap.size,0,Y⟩ (I WV)).setCell ⟨w1.heap.size,1,Y⟩ (I WW)).setCell ⟨w1.heap.size,2,Y⟩ (U WX WY WZ)).setCell ⟨w1.heap.size,3,Y⟩ (U W8 Xa Xb)).setCell ⟨w1.heap.size,4,Y⟩ (U Xc Xd Xe)).setCell ⟨w1.heap.size,5,Y⟩ (U Xf Xg Xh)).setCell ⟨w1.heap.size,6,Y⟩ (O J Xi)).setCell ⟨w1.heap.size,7,Y⟩ (O J Xj)).setCell ⟨w1.heap.size,8,Y⟩ (O J Xk)).setCell ⟨w1.heap.size,9,Y⟩ (O J Xl)).setCell ⟨w1.heap.size,10,Y⟩ (O J Ch)).setCell ⟨w1.heap.size,11,Y⟩ (U Ci Cj Ck)):=⟨_,rfl⟩;have hF4:W4=cV w1.heap.size [I WV,I WW,U WX WY WZ,U W8 Xa Xb,U Xc Xd Xe,U Xf Xg Xh,O J Xi,O J Xj,O J Xk,O J Xl,O J Ch,U Ci Cj Ck] 0 w4:=by rw[Ak];simp only[cV,I3,Nat.reduceAdd]
 have iQ:W4.heap[w1.heap.size]?=Z (AI #[I WV,I WW,U WX WY WZ,U W8 Xa Xb,U Xc Xd Xe,U Xf Xg Xh,O J Xi,O J Xj,O J Xk,O J Xl,O J Ch,U Ci Cj Ck] 30 (0,0)):=by rw[hF4];exact oF bf _ _ _ _ _ _ _ _ _ _ _ _
 have ahz:Hid (W4.heap[w1.heap.size]?=Z (AI #[I WV,I WW,U WX WY WZ,U W8 Xa Xb,U Xc Xd Xe,U Xf Xg Xh,O J Xi,O J Xj,O J Xk,O J Xl,O J Ch,U Ci Cj Ck] 30 (0,0))):=iQ;have HB8:Hid (Below w.heap.size w W4):=by rw[hF4];exact cO cP _ _ rN.out
 have Wc:Hid (iy W4 bg3 #[I WV,I WW,U WX WY WZ,U W8 Xa Xb,U Xc Xd Xe,U Xf Xg Xh,O J Xi,O J Xj,O J Xk,O J Xl,O J Ch,U Ci Cj Ck]):=by rw[hF4];exact(HA7.out.cV (by omega) _ _).is
 have yw:W4.heap.size=w4.heap.size:=by rw[hF4];exact lP _ _ _ _
 obtain⟨u0,u1,u2,u3,u4,u5,u6,u7,u8,u9,u10,u11⟩:=bT iQ;clear hF4 bf iQ HA7;go_upto_region 5 with fail
 rw[<- Ak];clear Ak x0 xz0 x1 xz1 x2 xz2 x3 xz3 x4 xz4 x5 xz5 x6 xz6 x7 xz7 x8 xz8 x9 xz9 x10 Xm x11 Xn;go_wp2_with fail;refine(ME Wc.out ⟨#[98]⟩ one_le).mono ?_;intro e w5 h;obtain⟨A1,rfl,hA,an⟩:=h.ok abU abV;obtain⟨Tc,Td,Nn,MN,Np,Te,Tf,Tg,Th,Ti,Tj,Tk,Tl,Tm,Tn,To,Tp,Tq,zV,zW,zX,zY,rfl⟩:=hA.is.letters;simp only[XD] at hA ⊢;have HA9:Hid (oG W4.heap.size w5 Tb #[I Tc,I Td,U Nn MN Np,U Te Tf Tg,U Th Ti Tj,U Tk Tl Tm,O J Tn,O J To,O J Tp,O J Tq,O J zV,U zW zX zY]):=hA;have rD:MN=2:=by
  obtain⟨p,c,hp⟩:=hA.is.len;have ND:Z (U Nn MN Np)=Z (U p Tb.ms.length c):=hp;rw[abX] at ND;injection ND with ND;injection ND
 have rI:Hid (Below w.heap.size w w5):=HB8.out.trans (an.mono (by omega));have bf:w5.heap[w1.heap.size]?=Z (AI #[I WV,I WW,U WX WY WZ,U W8 Xa Xb,U Xc Xd Xe,U Xf Xg Xh,O J Xi,O J Xj,O J Xk,O J Xl,O J Ch,U Ci Cj Ck] 30 (0,0)):=(an.block _ (by omega)).trans ahz.out;have fW:W4.heap.size<=w5.heap.size:=an.size;clear h hA an Wc u0 u1 u2 u3 u4 u5 u6 u7 u8 u9 u10 u11;obtain⟨x0,x1,x2,x3,x4,x5,x6,x7,x8,x9,x10,x11⟩:=bT bf;obtain⟨xz0,xz1,xz2,xz3,xz4,xz5,xz6,xz7,xz8,xz9,Xm,Xn⟩:=tt bf;obtain⟨W5,ud⟩:∃W5,W5=((((((((((((w5.setCell ⟨w1.heap.size,0,Y⟩ (I Tc)).setCell ⟨w1.heap.size,1,Y⟩ (I Td)).setCell ⟨w1.heap.size,2,Y⟩ (U Nn MN Np)).setCell ⟨w1.heap.size,3,Y⟩ (U Te Tf Tg)).setCell ⟨w1.heap.size,4,Y⟩ (U Th Ti Tj)).setCell ⟨w1.heap.size,5,Y⟩ (U Tk Tl Tm)).setCell ⟨w1.heap.size,6,Y⟩ (O J Tn)).setCell ⟨w1.heap.size,7,Y⟩ (O J To)).setCell ⟨w1.heap.size,8,Y⟩ (O J Tp)).setCell ⟨w1.heap.size,9,Y⟩ (O J Tq)).setCell ⟨w1.heap.size,10,Y⟩ (O J zV)).setCell ⟨w1.heap.size,11,Y⟩ (U zW zX zY)):=⟨_,rfl⟩;have hF5:W5=cV w1.heap.size [I Tc,I Td,U Nn MN Np,U Te Tf Tg,U Th Ti Tj,U Tk Tl Tm,O J Tn,O J To,O J Tp,O J Tq,O J zV,U zW zX zY] 0 w5:=by rw[ud];simp only[cV,I3,Nat.reduceAdd]
 have iQ:W5.heap[w1.heap.size]?=Z (AI #[I Tc,I Td,U Nn MN Np,U Te Tf Tg,U Th Ti Tj,U Tk Tl Tm,O J Tn,O J To,O J Tp,O J Tq,O J zV,U zW zX zY] 30 (0,0)):=by rw[hF5];exact oF bf _ _ _ _ _ _ _ _ _ _ _ _
 have ahB:Hid (W5.heap[w1.heap.size]?=Z (AI #[I Tc,I Td,U Nn MN Np,U Te Tf Tg,U Th Ti Tj,U Tk Tl Tm,O J Tn,O J To,O J Tp,O J Tq,O J zV,U zW zX zY] 30 (0,0))):=iQ;have Ln:Hid (Below w.heap.size w W5):=by rw[hF5];exact cO cP _ _ rI.out
 have acf:Hid (iy W5 Tb #[I Tc,I Td,U Nn MN Np,U Te Tf Tg,U Th Ti Tj,U Tk Tl Tm,O J Tn,O J To,O J Tp,O J Tq,O J zV,U zW zX zY]):=by rw[hF5];exact(HA9.out.cV (by omega) _ _).is
 have SH:W5.heap.size=w5.heap.size:=by rw[hF5];exact lP _ _ _ _
 obtain⟨u0,u1,u2,u3,u4,u5,u6,u7,u8,u9,u10,u11⟩:=bT iQ;clear hF5 bf iQ HA9;have hk3:=rD;clear rD;have jY:Hid (MN=2):=hk3;clear hk3;go_upto_region 6 with fail
 rw[<- ud];clear ud x0 xz0 x1 xz1 x2 xz2 x3 xz3 x4 xz4 x5 xz5 x6 xz6 x7 xz7 x8 xz8 x9 xz9 x10 Xm x11 Xn;go_wp2_with fail;refine(Ru acf.out).mono ?_;intro e w6 h;obtain⟨A1,ta,tk,tc,l,rest,rfl,hT,hA,hol,an⟩:=h.ok abW;obtain⟨t0e,t1e,p2e,k2e,c2e,p3e,k3e,c3e,p4e,k4e,c4e,p5e,k5e,c5e,i6e,i7e,i8e,i9e,acg,ach,aci,acj,rfl⟩:=hA.is.letters;simp only[XD] at hA ⊢;have hl:=Rt hT;subst hl;have gK:w1.heap.size<w6.heap.size:=by have:=an.size;omega
 have bf:w6.heap[w1.heap.size]?=Z (AI #[I Tc,I Td,U Nn MN Np,U Te Tf Tg,U Th Ti Tj,U Tk Tl Tm,O J Tn,O J To,O J Tp,O J Tq,O J zV,U zW zX zY] 30 (0,0)):=(an.block _ (by omega)).trans ahB.out;have Fb:Hid (Below w.heap.size w w6):=Ln.out.trans (an.mono (by omega));obtain⟨a,cap,hv,_,dP⟩:=hol.sl (bN (by intro m hm;rw[List.mem_singleton.1 hm];exact one_le));injection hv with Tu hv2 Fq;rcases dP with h0|⟨g,off,hp,aB,dP⟩
 .cases h0
 have hc:=(dP 0 (by simp)).2.1;have Tr:w6.cell? ⟨g,off+1,Y⟩=Z (O J 2):=by simpa[WN] using hc
 have HC:Hid (w6.cell? ⟨g,off+1,Y⟩=Z (O J 2)):=Tr;clear Tr;subst Tu hp;have ahC:tk=1:=hv2;subst ahC;clear hv2 Fq dP hc hT hA hol h an acf u0 u1 u2 u3 u4 u5 u6 u7 u8 u9 u10 u11;generalize Tb.name=qn at *;obtain⟨W6,hW6⟩:∃W6,W6=(w6.alloc (AI #[I t0e,I t1e,U p2e k2e c2e,U p3e k3e c3e,U p4e k4e c4e,U p5e k5e c5e,O J i6e,O J i7e,O J i8e,O J i9e,O J acg,U ach aci acj] 30)).alloc (AI #[I qn,AT false,U (Z ⟨g,off,Y⟩) 1 tc,U Y 0 0,U Y 0 0,U Y 0 0] 57):=⟨_,rfl⟩;have rF:Below w6.heap.size w6 W6:=by rw[hW6];exact((Below.refl _ _).alloc (By _) _).alloc (by simp) _
 have Ad:W6.heap[w6.heap.size+1]?=Z (AI #[I qn,AT false,U (Z ⟨g,off,Y⟩) 1 tc,U Y 0 0,U Y 0 0,U Y 0 0] 57 (0,0)):=by
  have h:=Ie (w6.alloc (AI #[I t0e,I t1e,U p2e k2e c2e,U p3e k3e c3e,U p4e k4e c4e,U p5e k5e c5e,O J i6e,O J i7e,O J i8e,O J i9e,O J acg,U ach aci acj] 30)) (AI #[I qn,AT false,U (Z ⟨g,off,Y⟩) 1 tc,U Y 0 0,U Y 0 0,U Y 0 0] 57);rw[hW6];simpa using h
 have hgd:W6.heap[w1.heap.size]?=Z (AI #[I Tc,I Td,U Nn MN Np,U Te Tf Tg,U Th Ti Tj,U Tk Tl Tm,O J Tn,O J To,O J Tp,O J Tq,O J zV,U zW zX zY] 30 (0,0)):=(rF.block _ gK).trans bf;have z1:W6.cell? ⟨w1.heap.size,2,Y⟩=Z (U Nn 2 Np):=(af hgd 2).trans (by rw[jY.out];rfl);have z2:W6.cell? ⟨w6.heap.size+1,2,Y⟩=Z (U (Z ⟨g,off,Y⟩) 1 tc):=af Ad 2;have z3:W6.cell? ⟨g,off+1,Y⟩=Z (O J 2):=(rF.cell aB).trans HC.out;have oA:Hid (Below w.heap.size w W6):=Fb.out.trans (rF.mono Fb.out.size);clear rF Ad hgd bf aB;go_upto_region 7 with fail
 rw[<- hW6];clear hW6;go_wp2_with fail;go_ret;exact⟨rfl,oA.out⟩
def DP(c n:Int):Int:=if c<0 then(-(c+1)).tmod n else c.tmod n
theorem MO(c:Int){n:Int}(hn:0<n):0<=DP c n/\DP c n<n:=by
 unfold DP;split
 .exact⟨Int.tmod_nonneg _ (by omega),Int.tmod_lt_of_pos _ hn⟩
 .exact⟨Int.tmod_nonneg _ (by omega),Int.tmod_lt_of_pos _ hn⟩
theorem Cl(c:Int)(w:World)(hc : -9223372036854775808<=c)(Tr:c<=9223372036854775807) :
 Calls be 10 #[O J c,O J 65536] w λe w'=>e=sh (O J (DP c 65536))/\w'=w:=by
 have hb:=MO c (show(0:Int)<65536 by decide);unfold DP at hb ⊢;by_cases h:c<0
 .rw[if_pos h] at hb ⊢
  have h1:IntKind.i64.wrap (c+1)=c+1:=by rw[IN];omega
  have h2:IntKind.i64.wrap (-(c+1)) = -(c+1):=by rw[IN];omega
  have h5:IntKind.i64.wrap ((-(c+1)).tmod 65536)=(-(c+1)).tmod 65536:=by rw[IN];omega
  have h3:=decide_eq_true h;go_enter Tryz.func10,Tryz.ntmps10;go_wp2_with fail;go_ret;exact⟨by first|rfl|(rw[Int.neg_tmod];rfl),rfl⟩
 .rw[if_neg h] at hb ⊢
  have h5:IntKind.i64.wrap (c.tmod 65536)=c.tmod 65536:=by rw[IN];omega
  have h3:=decide_eq_false h;go_enter Tryz.func10,Tryz.ntmps10;go_wp2_with fail;go_ret;exact⟨by first|rfl|(rw[Int.tmod_eq_emod_of_nonneg (by omega)];rfl),rfl⟩
theorem MP{name:ByteArray}(h:bQ name=0){c:Int}(hc:0<=c/\c<65536):CB c 0 1 false false name []=0:=by
 have h1:within c 0 65535=true:=by unfold within;simp;omega
 have h2:bc c 0 1 name []=0:=by
  unfold bc;rw[h1];simp[h,within,gZ,fM]
 unfold CB;rw[if_pos h2];have h3:=zn c 0 1 false false h 0;unfold dI;rw[if_neg (by simp;omega)]
theorem RI{q:Qu}(h:iY q=0)(bE:q.ai≠If):aA q.ai=true:=by
 have hq:=(oB h).1;unfold fO at hq;split at hq
 .cases hq
 .split at hq
  .cases hq
  .rename_i h1
   have h2:[q.service,q.tag,q.node,q.ai].all eZ=true:=by simpa using h1
   simp only[List.all_cons,List.all_nil,Bool.and_true,Bool.and_eq_true] at h2;have h3:=h2.2.2.2;unfold eZ at h3;simpa[bE] using h3
theorem MQ{n:Nd}{q:Qu}{c:Int}(h0:n.e=0)(hq:iY q=0){r:Option Int}(hr:vY n (Z ⟨c,0,1,false,false,kK q,[]⟩) r){a:Int}(hA:Gw.SK n.gw q.ai a) : (q.ai=If\/q.ai=n.ai\/a<0)/\r=Y\/q.ai≠If/\q.ai≠n.ai/\∃k:Nat,a=k/\k<n.gw.length/\r=Z (n.gw.getD k Gw.dm).addr:=by
 obtain⟨b1,b2⟩:=Me hq;have hp:=Nd.parts (Nd.jy h0).1;unfold vY at hr;simp only[List.length_nil,true_and] at hr;rw[if_pos b1,b2] at hr;obtain⟨p,f,cG,rfl⟩:=hr;obtain⟨g1,g2⟩:=Gw.VY hA cG (Gw.aI hp.gw).2.1;unfold Gw.fH;by_cases e1:q.ai=If
 .left
  refine⟨.inl e1,?_⟩
  have:aA q.ai=false:=by rw[e1];decide
  rw[this];simp
 by_cases e2:q.ai=n.ai
 .left
  refine⟨.inr (.inl e2),?_⟩;rw[e2];simp[hp.ai]
 have e3:=RI hq e1;rw[hp.ai,e3];have e4:¬ n.ai=q.ai:=λh=>e2 h.symm;simp only[Bool.and_self,if_true,if_neg e4];cases f with
 |false=>
  left;have:=g2 rfl;exact⟨.inr (.inr (by omega)),by simp⟩
 |true=>
  right;have ha:=g1 rfl;refine⟨e1,e2,p,ha,?_,by simp[Gw.Ai]⟩;rcases hA with⟨k,hk,rfl,_⟩|⟨rfl,_⟩
  .omega
  .omega
theorem qI(n:Nd)(vm vr vs vg vw:Value)(q:Qu)(iq:Int)(w:World)(nI:ML w)(hn:ix w n vm vr vs vg vw)(hq:q.ok)(hid : -9223372036854775808<=iq/\iq<=9223372036854775807) :
 Calls be 3 #[Ip (fB n vm vr vs vg vw),Ip #[I q.service,I q.tag,I q.node,I q.ai],O J iq] w λe w'=>e=sh (AT true)/\Below w.heap.size w w':=by
 have HNB:Hid (∀W,Calls _ _ _ _ _):=λW=>tS W;have HDB:Hid (∀W,Below w.heap.size w W->Calls _ _ _ _ _):=λW hW=>xa W (nI.below hW);have HQB:Hid (∀W,Below w.heap.size w W->Calls _ _ _ _ _):=λW hW=>tv W (nI.below hW);have XC:Hid (∀W,Calls _ _ _ _ _):=λW=>mq q W hq;have HCH:Hid (∀W,Calls _ _ _ _ _):=λW=>Cl iq W hid.1 hid.2;have hb:=MO iq (show(0:Int)<65536 by decide);have Na:Hid (iY q=0->∀W,Below w.heap.size w W->Calls be 9 #[Ip #[O J (DP iq 65536),AT false,AT false,O J 0,I (kK q),O J 1,U Y 0 0]] W λe w'=>e=sh (Il #[I (Ac (DP iq 65536) 0 1 false false (kK q) []),O J 0])/\Below W.heap.size W w'):=λh W hW=>by
  have hc:=(oB h).2;have:=EH (DP iq 65536) 0 1 false false (kK q) [] (U Y 0 0) W (nI.below hW) (by have:=(gy hc).1;unfold Ii;omega) ⟨Y,0,rfl,λj=>by simp[List.getD];exact Rc.nY,.inl rfl⟩;rw[MP hc hb] at this;exact this
 have HAK:Hid (iY q=0->∀W,Below w.heap.size w W->Calls be 11 #[Ip (fB n vm vr vs vg vw),I (Ac (DP iq 65536) 0 1 false false (kK q) [])] W λe w'=>Below W.heap.size W w'/\mz n (Z ⟨DP iq 65536,0,1,false,false,kK q,[]⟩) (Ac (DP iq 65536) 0 1 false false (kK q) []) e):=λh W hW=>RB n vm vr vs vg vw _ _ W (RA (MP (oB h).2 hb)) (nI.below hW) (hn.below hW);have oO:Hid (∀W,Below w.heap.size w W->Calls _ _ _ _ _):=λW hW=>zo n vm vr vs vg vw W (hn.below hW);have GY:Hid (n.e=0->iY q=0->∀r a,vY n (Z ⟨DP iq 65536,0,1,false,false,kK q,[]⟩) r->Gw.SK n.gw q.ai a->_):=λh1 h2 r a h3 h4=>MQ h1 h2 h3 h4;obtain⟨x5,k5,rfl,hgk,SU⟩:=id hn.gw;have XG:Hid (n.e=0->∀W,Below w.heap.size w W->Calls be 13 #[U x5 n.gw.length k5,I q.ai] W λe w'=>∃r:Int,e=sh (O J r)/\Hid (Gw.SK n.gw q.ai r)/\w'=W):=λh0 W hW=>Gw.Fy n.gw _ q.ai W (hn.gw.below hW) (by
  have:=(Gw.aI (Nd.parts (Nd.jy h0).1).gw).1;omega)
 have uu:Hid (n.gw=[]\/∃b off,x5=Z ⟨b,off,Y⟩/\b<w.heap.size/\Gw.Row w b off n.gw):=SU;clear nI hn hid hgk SU hb;obtain⟨W0,eu,eN,r8,k0,k1⟩:=WE w (fB n vm vr vs (U x5 n.gw.length k5) vw) #[I q.service,I q.tag,I q.node,I q.ai] 30 32;have dB:Hid (Below w.heap.size w W0):=eN;have gV:Hid (∀W,Below W0.heap.size W0 W->W.heap[w.heap.size]?=Z (AI (fB n vm vr vs (U x5 n.gw.length k5) vw) 30 (0,0))/\W.heap[w.heap.size+1]?=Z (AI #[I q.service,I q.tag,I q.node,I q.ai] 32 (0,0))/\Below w.heap.size w W):=λW hW=>⟨(hW.block _ (Ib.1 k0).1).trans k0,(hW.block _ (Ib.1 k1).1).trans k1,eN.trans (hW.mono eN.size)⟩;have RV:Hid (Below W0.heap.size W0 W0):=Below.refl _ _;clear eN r8 k0 k1;go_enter Tryz.func3,Tryz.ntmps3;go_upto_region 1 with fail
 rw[<- eu];clear eu;go_wp2_with fail;refine(HNB.out W0).mono ?_;rintro e w1 ⟨rfl,an⟩;have kA:Hid (Below W0.heap.size W0 w1):=an;clear an HNB;go_wp2_with fail;refine(HDB.out w1 (gV.out w1 kA.out).2.2).mono ?_;rintro e w2 ⟨rfl,aD⟩;have j8:Hid (Below W0.heap.size W0 w2):=kA.out.trans (aD.mono kA.out.size);clear aD HDB kA;go_wp2_with fail;refine(HQB.out w2 (gV.out w2 j8.out).2.2).mono ?_;rintro e w3 ⟨rfl,bn⟩;have rG:Hid (Below W0.heap.size W0 w3):=j8.out.trans (bn.mono j8.out.size);have y0:=af (gV.out w3 rG.out).2.1 0;have y1:=af (gV.out w3 rG.out).2.1 1;have y2:=af (gV.out w3 rG.out).2.1 2;have y3:=af (gV.out w3 rG.out).2.1 3;clear bn HQB j8;go_wp2_with fail;refine(XC.out w3).mono ?_;rintro e w4 ⟨rfl,e9⟩;have HR4:Hid (Below W0.heap.size W0 w4):=rG.out.trans (e9.mono rG.out.size);have fb:Hid (Below w.heap.size w w4):=(gV.out w4 HR4.out).2.2;clear e9 XC rG y0 y1 y2 y3;by_cases hE:iY q=0
 .have hE0:(iY q !=0)=false:=by simp[hE]
  have ack:=Na.out hE w4 fb.out;have tU:Hid (Calls _ _ _ _ _):=ack;have acm:=HAK;have HHE:Hid (iY q=0):=hE;clear ack Na HAK hE;go_wp2_with fail;refine(HCH.out w4).mono ?_;rintro e w5 ⟨rfl,uo⟩;subst uo;clear HCH;go_wp2_with fail;refine tU.out.mono ?_;rintro e w6 ⟨rfl,gK⟩;have HR6:Hid (Below W0.heap.size W0 w6):=HR4.out.trans (gK.mono HR4.out.size);have hak:=acm.out HHE.out w6 (gV.out w6 HR6.out).2.2;have HA6:Hid (Calls _ _ _ _ _):=hak;obtain⟨a0,a1,a2,a3,a4,a5,a6,a7,a8,a9,a10,a11⟩:=bT (gV.out w6 HR6.out).1;clear gK tU HR4 fb acm hak;generalize Ac (DP iq 65536) 0 1 false false (kK q) []=s at *;generalize DP iq 65536=c at *;go_wp2_with fail;refine HA6.out.mono ?_;intro e w7 hs;obtain⟨rF,WC⟩:=hs;have XH:Hid (Below W0.heap.size W0 w7):=HR6.out.trans (rF.mono HR6.out.size);have rN:Hid (Below w.heap.size w w7):=(gV.out w7 XH.out).2.2;clear rF HA6 a0 a1 a2 a3 a4 a5 a6 a7 a8 a9 a10 a11 HR6;rcases WC with⟨bE,rfl⟩|⟨h0,r,hr,rfl⟩
  .have he:(n.e !=0)=true:=by simpa using bE
   have hck:=oO.out w7 rN.out;have HC7:Hid (Calls _ _ _ _ _):=hck;obtain⟨a0,a1,a2,a3,a4,a5,a6,a7,a8,a9,a10,a11⟩:=bT (gV.out w7 XH.out).1;clear hck oO GY XG uu bE hE0;generalize n.e=ne at *;go_wp2_with fail;refine HC7.out.mono ?_;rintro e w8 ⟨rfl,xU⟩;have HB8:Hid (Below w.heap.size w w8):=rN.out.trans (xU.mono rN.out.size);clear xU HC7 a0 a1 a2 a3 a4 a5 a6 a7 a8 a9 a10 a11;go_wp2_with fail;go_ret;exact⟨rfl,HB8.out⟩
  .have GL:Hid (∀a,Gw.SK n.gw q.ai a->(q.ai=If\/q.ai=n.ai\/a<0)/\r=Y\/q.ai≠If/\q.ai≠n.ai/\∃k:Nat,a=k/\k<n.gw.length/\r=Z (n.gw.getD k Gw.dm).addr):=λa ha=>GY.out h0 HHE.out r a hr ha
   have SQ:Hid (r.isSome=true->(if r.isSome=true then s else rm s n.ai n.sv n.ms n.p n.wh)=s):=λh=>if_pos h;generalize(if r.isSome=true then s else rm s n.ai n.sv n.ms n.p n.wh)=tx at *;cases r with
   |none=>
    simp only[Option.isSome_none,Option.getD_none];clear SQ;have lX:=XG.out h0 w7 rN.out;have PJ:Hid (Calls _ _ _ _ _):=lX;obtain⟨a0,a1,a2,a3,a4,a5,a6,a7,a8,a9,a10,a11⟩:=bT (gV.out w7 XH.out).1;have y3:=af (gV.out w7 XH.out).2.1 3;clear lX oO GY XG h0 hr hE0 a0 a2 a3 a4 a6 a7 a8 a9 a10 a11;go_wp2_with fail;refine PJ.out.mono ?_;rintro e w8 ⟨a,rfl,cG,T6⟩;subst T6;have Cn:=GL.out a cG.out;have CO:Hid (q.ai≠If->(q.ai.toList==[])=false/\¬ q.ai.toList=[]):=λh=>gr (λe=>h (cx e));clear PJ GL cG;rcases Cn with⟨h1,_⟩|⟨_,_,k,_,_,h⟩;rotate_left
    .cases h
    by_cases e1:q.ai=If
    .have Tr:q.ai.toList=[]:=by rw[e1,Lib.toList_data];rfl
     have kM:(q.ai.toList==[])=true:=by rw[Tr];rfl
     clear h1 e1 CO uu;generalize q.ai=qc at *;go_wp2_with fail;go_ret;exact⟨rfl,rN.out⟩
    .obtain⟨kM,Tr⟩:=CO.out e1
     by_cases e2:q.ai=n.ai
     .have hc3:(n.ai.toList==n.ai.toList)=true:=by simp
      have y3':=y3.trans (show(#[I q.service,I q.tag,I q.node,I q.ai]:Array Value)[3]?=Z (I n.ai) by rw[e2];rfl);rw[e2] at kM Tr;clear h1 e1 e2 CO uu y3;generalize q.ai=qc at *;generalize n.ai=nc at *;go_wp2_with fail;go_ret;exact⟨rfl,rN.out⟩
     .obtain⟨hc3,hc4⟩:=eJ e2
      have aB:a<0:=by
       rcases h1 with h|h|h
       .exact absurd h e1
       .exact absurd h e2
       .exact h
      have hd:=decide_eq_true aB;clear h1 e1 e2 CO uu;generalize q.ai=qc at *;generalize n.ai=nc at *;go_wp2_with fail;go_ret;exact⟨rfl,rN.out⟩
   |some A=>
    have Sk:=SQ.out rfl;subst Sk;simp only[Option.isSome_some,Option.getD_some];clear SQ;have lX:=XG.out h0 w7 rN.out;have PJ:Hid (Calls _ _ _ _ _):=lX;obtain⟨a0,a1,a2,a3,a4,a5,a6,a7,a8,a9,a10,a11⟩:=bT (gV.out w7 XH.out).1;have y3:=af (gV.out w7 XH.out).2.1 3;clear lX oO GY XG h0 hr hE0 a0 a2 a3 a4 a6 a7 a8 a9 a10 a11;go_wp2_with fail;refine PJ.out.mono ?_;rintro e w8 ⟨a,rfl,cG,T6⟩;subst T6;have Cn:=GL.out a cG.out;have CO:Hid (q.ai≠If->(q.ai.toList==[])=false/\¬ q.ai.toList=[]):=λh=>gr (λe=>h (cx e));clear PJ GL cG;rcases Cn with⟨_,h⟩|⟨h1,h2,k,rfl,hk,hra⟩
    .cases h
    injection hra with hra;obtain⟨kM,Tr⟩:=CO.out h1;obtain⟨hc3,hc4⟩:=eJ h2;obtain⟨bg,og,hx5,aL,dP⟩:∃b off,x5=Z ⟨b,off,Y⟩/\b<w.heap.size/\Gw.Row w b off n.gw:=by
     rcases uu.out with h|h
     .rw[h] at hk;simp at hk
     .exact h
    subst hx5;obtain⟨_,g1,_⟩:=dP k hk;rw[<- hra] at g1;have g1':=(rN.out.cell (p:=⟨bg,og+k*3+1,Y⟩) aL).trans g1;have hki:(k:Int)<(n.gw.length:Int):=by omega
    have hd:decide ((k:Int)<0)=false:=decide_eq_false (by omega);have kI:¬ (k:Int)<0:=by omega
    clear h1 h2 CO uu dP g1 aL hra;generalize n.gw.length=ng at *;generalize q.ai=qc at *;generalize n.ai=nc at *;go_wp2_with fail;go_ret;exact⟨rfl,rN.out⟩
 .have hE0:(iY q !=0)=true:=by simpa using hE
  clear Na HAK HCH oO GY XG uu hE;generalize iY q=pe at *;go_wp2_with fail;go_ret;exact⟨rfl,fb.out⟩
end Go.Proofs.YtfidjlcdlakceaaGreatDoor
