import Derived.Test.YtfidjlcdlakceaaGreatDoortf25
import Derived.Test.YtfidjlcdlakceaaGreatDoortf40
import Derived.Test.YtfidjlcdlakceaaGreatDoortf41
import Derived.Test.YtfidjlcdlakceaaGreatDoortf42
set_option maxHeartbeats 25600000
set_option maxRecDepth 100000
open Go.Value renaming string→I,tuple→Il,agg→Im,int→O,bool→AI,slice→U
open Go.Ending renaming returned→sh
open Go.IntKind renaming i64→J,wrap_i64→IK,wrap_u8→QR
open Option renaming none→Y,some→Z
open Go.Proofs.Tryz renaming prog→be
open Go.Obj renaming cells→AT
open Go renaming maxLen→Ij,redrawn→IA,cell_regrown→Iq,Ending→QI,bodyPost_ret→Ix,heap_alloc_new→Ie
open Array renaming getElem?_eq_some_iff→Ia
open List.cons renaming injEq→Uv
open Go.Value.slice renaming injEq→IN
open Go.RowKit renaming ownsRow_setCell_below→Ik
open Nat renaming le_refl→By,zero_add→IM,reduceAdd→OV
open ByteArray renaming empty→Ih,mk→JZ,size→JJ
open List renaming length_nil→JI,eq_nil_of_length_eq_zero→IX,map_cons→OU,flatMap_cons→JY,length_append→Ii,length_cons→IY,append_nil→Qx
namespace Go.Proofs.YtfidjlcdlakceaaGreatDoor
open Go.RowKit
def abv(s:ByteArray)(m:Option Ms):Prop:=∀W,Calls be 19 #[I s] W λe w'=>∃i a c o r y p l k X,e=sh (Il #[Im #[O J i,AI a,AI c,O J o,I r,O J y,U p l k],O J X])/\Hid (MsV w' m #[O J i,AI a,AI c,O J o,I r,O J y,U p l k]/\(m=Y↔X≠0)/\∀M,m=Z M->bn M.id M.code M.an M.R M.rs=0)/\Below W.heap.size W w'
theorem VK{id code an:Int}{aB cut:Bool}{R:ByteArray}{rs:List Rc.Rec}(h:zO id code an aB cut R rs=0):abv (ow id code an aB cut R rs) (Z ⟨id,code,an,aB,cut,R,rs⟩):=λW=>by
 refine(oz h W).mono ?_;rintro e w' ⟨v,rfl,hb,ho⟩;have hc:=(yV h).1;have hcf:=cX hc;obtain⟨p,l,k,rfl⟩:∃a l c,v=U a l c:=by
  rcases ho.out.2 with⟨hv,_⟩|⟨gq,cq,_,hv,_⟩
  .exact⟨_,_,_,hv⟩
  .exact⟨_,_,_,hv⟩
 refine⟨_,_,_,_,_,_,_,_,_,_,rfl,⟨⟨_,ho.out.sl (yL hcf.2.2),by have:=hcf.1;simp only;omega,rfl⟩,by simp,λM hM=>?_⟩,hb⟩;injection hM with hM;subst hM;exact hc
def zx(n:Nd)(m:Option Ms)(r:Option Int):Prop:=match m with
 |none=>r=Y
 |some M=>if M.aB=false/\M.rs.length=0/\eZ M.R=0 then ∃p f,Gw.At n.gw ⟨(dx M.R).ai,0,0⟩ p f/\r=(if Gw.gi f n.ai (dx M.R).ai=0 then Z (Gw.mm n.gw p f).addr else Y) else r=Y
theorem Ex(n:Nd)(vm vr vs vg vw:Value)(b:Nat)(s:ByteArray)(m:Option Ms)(w:World)(Dx:abv s m)(oA:ML w)(hb:w.heap[b]?=Z (AT (fD n vm vr vs vg vw) 81 (0,0)))(hn:jL w n vm vr vs vg vw)(h0:n.e=0) :
 Calls be 31 #[.pointer (Z ⟨b,0,Y⟩),I s] w λe w'=>Below w.heap.size w w'/\∃r,zx n m r/\e=sh (Il #[O J (r.getD 0),AI r.isSome]):=by
 have hp:=Nd.parts (Nd.gx h0).1;have MZ:Hid (m=Y->zx n m Y):=λh=>by rw[h];exact rfl
 have TA:Hid (∀M,m=Z M->bn M.id M.code M.an M.R M.rs=0->∀W x,MsV W m x->∃v,x=#[O J M.id,AI M.aB,AI M.cut,O J M.code,I M.R,O J M.an,v]/\Rc.Sl W v M.rs/\M.R.size<=Ij/\(¬ (M.aB=false/\M.rs.length=0/\eZ M.R=0)->zx n m Y)/\∀r,M.aB=false/\M.rs.length=0/\eZ M.R=0->(∃p f,Gw.At n.gw ⟨(dx M.R).ai,0,0⟩ p f/\r=(if Gw.gi f n.ai (dx M.R).ai=0 then Z (Gw.mm n.gw p f).addr else Y))->zx n m r):=λM hm hc W x hx=>by
  rw[hm] at hx ⊢;obtain⟨v,hv,_,he⟩:=hx;refine⟨v,he,hv,by have:=(gh (cX hc).2.1).1;unfold Ij;omega,λhc=>?_,λr hc hr=>?_⟩
  .unfold zx;simp only;rw[if_neg hc];trivial
  .unfold zx;simp only;rw[if_pos hc];exact hr
 have HPS:Hid (∀(W:World) (t:ByteArray),Below w.heap.size w W->t.size<=Ij->Calls _ _ _ _ _):=λW t hW ht=>qQ t W (oA.below hW) ht;have HNX:Hid (∀(t:ByteArray),t.size<=Ij->∃p f,Gw.At n.gw ⟨t,0,0⟩ p f/\∀W,Below w.heap.size w W->Calls be 78 #[vg,I n.ai,I t] W λe w'=>e=sh (Il #[O J (Gw.mI n.gw p f n.ai t),O J (Gw.gi f n.ai t)])/\Below W.heap.size W w'):=λt ht=>by
  obtain⟨p,f,cA⟩:=Gw.qJ n.gw (Gw.aF hp.gw).2.1 ⟨t,0,0⟩;exact⟨p,f,cA,λW hW=>Gw.Kb n.gw vg n.ai t W (hn.gw.below hW) hp.gw hn.ai ht p f cA⟩
 have HQK:Hid (∀t,eZ t=0->(dx t).ai.size<=Ij):=λt _=>(FA t).2.2.2;obtain⟨x5,k5,rfl,_,_⟩:=id hn.gw;have CO:Hid (w.heap[b]?=Z (AT (fD n vm vr vs (U x5 n.gw.length k5) vw) 81 (0,0))):=hb;have HBL:Hid (b<w.heap.size):=(Ia.1 hb).1;have SM:Hid (∀W,Calls _ _ _ _ _):=λW=>Dx W;clear hb hn h0 oA hp Dx;go_enter Tryz.func31,Tryz.ntmps31;go_wp2_with fail;refine(SM.out w).mono ?_;rintro e w1 ⟨i,a,c,o,r,y,p,l,k,X,rfl,hmv,al⟩;have aR:Hid (Below w.heap.size w w1):=al;have HMV:Hid _:=hmv.out;obtain⟨W2,eX,aC,iZ,sg⟩:=cR w1 #[O J i,AI a,AI c,O J o,I r,O J y,U p l k] 43;have bw:Hid (Below w.heap.size w W2):=al.trans (aC.mono al.size);have j3:Hid (W2.heap[w1.heap.size]?=Z (AT #[O J i,AI a,AI c,O J o,I r,O J y,U p l k] 43 (0,0))):=sg;clear hmv al aC iZ SM;go_upto_region 2 with fail
 rw[<- eX];clear eX;generalize w1.heap.size=gm at *;have z1:=af sg 1;have z4:=af sg 4;have z6:=af sg 6;clear sg;cases zJ:m with
 |some M=>
  have hx:X=0:=Classical.byContradiction λh=>by
   have:=HMV.out.2.1.2 h;rw[zJ] at this;cases this
  subst hx;obtain⟨v,hxe,L9,hR,abw,ad7⟩:=TA.out M zJ (HMV.out.2.2 M zJ) _ _ HMV.out.1;have hl:l=M.rs.length/\r=M.R/\a=M.aB:=by
   obtain⟨_,_,he,_,_⟩:=L9;simp only[he,Array.mk.injEq,Uv,Value.int.injEq,Value.string.injEq,Value.bool.injEq,IN,true_and,and_true] at hxe;obtain⟨_,h2,_,_,h5,_,_,h8,_⟩:=hxe;exact⟨h8,h5,h2⟩
  obtain⟨e1,e2,e3⟩:=hl;have Ey:Hid (¬ (a=false/\l=0/\eZ r=0)->zx n m Y):=by rw[e1,e2,e3];exact abw
  have Rq:Hid (∀q,a=false/\l=0/\eZ r=0->(∃p f,Gw.At n.gw ⟨(dx r).ai,0,0⟩ p f/\q=(if Gw.gi f n.ai (dx r).ai=0 then Z (Gw.mm n.gw p f).addr else Y))->zx n m q):=by rw[e1,e2,e3];exact ad7
  have HR:Hid (r.size<=Ij):=by rw[e2];exact hR
  clear hxe L9 hR abw ad7 e1 e2 e3 MZ TA HMV;have HMM:Hid (m=Z M):=zJ;clear zJ;cases a with
  |true=>
   have HF:Hid (zx n m Y):=Ey.out (by simp);clear Rq Ey HPS HNX;go_wp2_with fail;go_ret2;exact⟨bw.out,Y,HF.out,rfl⟩
  |false=>
   by_cases h0:l=0
   .subst h0
    have hd:decide ((0:Int)<(0:Nat))=false:=by decide
    have hC:=HPS.out W2 r bw.out HR.out;have HC:Hid (Calls _ _ _ _ _):=hC;clear hC;go_wp2_with fail;refine HC.out.mono ?_;rintro e w3 ⟨rfl,bf⟩;obtain⟨W4,Cz,fa,Db,W8⟩:=cR w3 #[I (dx r).service,I (dx r).tag,I (dx r).node,I (dx r).ai] 32;have gJ:Hid (Below w.heap.size w W4):=bw.out.trans ((bf.trans (fa.mono bf.size)).mono bw.out.size);have hq3:=af W8 3;clear z1 z4 z6 HC HPS bf fa Db W8 hd;go_upto_region 5 with fail
    rw[<- Cz];clear Cz;generalize w3.heap.size=gq at *;by_cases h1:eZ r=0
    .have hp0:(eZ r !=0)=false:=by simp[h1]
     have hkx:=HQK.out r h1;have L6:=(gJ.out.block b HBL.out).trans CO.out;have g1:W4.cell? ⟨b,1,Y⟩=Z (I n.ai):=af L6 1;have g5:W4.cell? ⟨b,5,Y⟩=Z (U x5 n.gw.length k5):=af L6 5;obtain⟨p',f',cA,hnx⟩:=HNX.out _ hkx;have HY:Hid (∀q,q=(if Gw.gi f' n.ai (dx r).ai=0 then Z (Gw.mm n.gw p' f').addr else Y)->zx n m q):=λq hq=>Rq.out q (by simpa using h1) ⟨p',f',cA,hq⟩;have HA:Hid (Gw.mI n.gw p' f' n.ai (dx r).ai=if Gw.gi f' n.ai (dx r).ai=0 then(Gw.mm n.gw p' f').addr else 0):=rfl;have C0:∀d os,Calls be 78 #[U x5 n.gw.length k5,I n.ai,I (dx r).ai] (Go.Sort.grow (IA W4 d) os) λe gO=>e=sh (Il #[O J (Gw.mI n.gw p' f' n.ai (dx r).ai),O J (Gw.gi f' n.ai (dx r).ai)])/\∃p:Regrown,gO=Go.Sort.grow (IA W4 p.d) p.os:=λd os=>Calls.regrown_of (hnx _ (gJ.out.trans ((below_regrown W4 d os).mono gJ.out.size)));have G1:=Iq g1;have G5:=Iq g5;have Q3:=Iq hq3;clear hnx hkx cA Rq Ey HNX h1 L6;generalize(Gw.mm n.gw p' f').addr=AD at *;generalize Gw.mI n.gw p' f' n.ai (dx r).ai=A at *;generalize Gw.gi f' n.ai (dx r).ai=X' at *;generalize(dx r).ai=rc at *;generalize n.gw.length=ng at *;go_upto_region 7 with fail
     refine wp_region_quiet_below (by kernel_rfl) (by kernel_rfl) ?_;repeat(quiet_step (exact C0 _ _))
     refine bK λdq j8 eR=>?_;have jE:Hid _:=gJ.out.trans (eR.out.mono gJ.out.size);clear C0 G1 G5 Q3 g1 g5 hq3 eR;generalize Go.Sort.grow (IA W4 dq) j8=W5 at *;by_cases hz:X'=0
     .subst hz
      have HF:Hid (zx n m (Z A)):=HY.out _ (by rw[if_pos rfl,HA.out,if_pos rfl]);clear HY HA;go_wp2_with fail;go_ret2;exact⟨jE.out,Z A,HF.out,rfl⟩
     .have bW:(X'==0)=false:=by simpa using hz
      have HF:Hid (zx n m Y/\A=0):=⟨HY.out _ (by rw[if_neg hz]),HA.out.trans (if_neg hz)⟩;clear HY HA hz;go_wp2_with fail;go_ret2;exact⟨jE.out,Y,HF.out.1,by rw[HF.out.2];rfl⟩
    .have hp0:(eZ r !=0)=true:=by simpa using h1
     have HF:Hid (zx n m Y):=Ey.out (λh=>h1 h.2.2);clear Rq Ey HNX h1;generalize eZ r=pe at *;go_wp2_with fail;go_ret2;exact⟨gJ.out,Y,HF.out,rfl⟩
   .have hd:0<l:=by omega
    have HF:Hid (zx n m Y):=Ey.out (λh=>h0 h.2.1);clear Rq Ey HPS HNX h0;go_wp2_with fail;go_ret2;exact⟨bw.out,Y,HF.out,rfl⟩
 |none=>
  have hx:=HMV.out.2.1.1 zJ;have Mh:(X !=0)=true:=by simpa using hx
  have HF:Hid (zx n m Y):=by rw[zJ];exact rfl
  clear MZ TA HMV HPS HNX hx zJ;go_wp2_with fail;go_ret2;exact⟨bw.out,Y,HF.out,rfl⟩
theorem K7{α:Type}{l:List α}{i:Nat}(h:i<l.length)(d:α):l.getD i d∈l:=by rw[List.getD,List.getElem?_eq_getElem h];exact List.getElem_mem h
theorem Xh{n:Nd}(h:n.e=0):sR n.ai n.sv n.ms n.p n.wh=0:=by
 have hp:=Nd.parts (Nd.gx h).1;unfold sR;rw[if_pos hp.ai,if_pos hp.sv,if_pos hp.ms];have hz:=Wh.aF hp.wh;refine Pf (by have:=hz.1;omega) hp.p (λj hj=>?_);have e:=Wh.dh _ hz.2.2 _ (K7 hj Wh.dm);unfold Wh.bC.e at e;split at e
 .exact e
 .exact absurd e (by decide)
def pP(n:Nd)(m:Option Ms)(s:ByteArray)(e:QI):Prop:=(n.e≠0/\e=sh (Il #[I ⟨#[]⟩,O J 0,AI false,O J n.e]))\/(n.e=0/\∃r:Option Int,zx n m r/\e=sh (Il #[I (if r.isSome=true then s else sF s n.ai n.sv n.ms n.p n.wh),O J (r.getD 0),AI r.isSome,O J 0]))
theorem VL(n:Nd)(vm vr vs vg vw:Value)(s:ByteArray)(m:Option Ms)(w:World)(Dx:abv s m)(oA:ML w)(hn:jL w n vm vr vs vg vw) :
 Calls be 11 #[Im (fD n vm vr vs vg vw),I s] w λe w'=>Below w.heap.size w w'/\pP n m s e:=by
 have rL:Hid (∀W,Below w.heap.size w W->Calls _ _ _ _ _):=λW hW=>oD n vm vr vs vg vw W (hn.below hW);have HON:Hid (n.e=0->∀(W:World) (b:Nat),Below w.heap.size w W->W.heap[b]?=Z (AT (fD n vm vr vs vg vw) 81 (0,0))->Calls _ _ _ _ _):=λh0 W b hW hb=>Ex n vm vr vs vg vw b s m W Dx (oA.below hW) hb (hn.below hW) h0;obtain⟨⟨x2,c2,rfl,h2⟩,⟨x3,c3,rfl,_⟩,⟨x4,c4,rfl,h4⟩,⟨x5,c5,rfl,_⟩,⟨x11,c11,rfl,h11⟩,_,eC⟩:=id hn;have HRP:Hid (n.e=0->∀W,Below w.heap.size w W->Calls be 32 #[I s,I n.ai,U x4 n.sv.length c4,U x2 n.ms.length c2,Im #[O J n.p.x,O J n.p.y,O J n.p.z,O J n.p.h,O J n.p.s],U x11 n.wh.length c11] W λe w'=>(∃b,e=sh (Il #[I (sF s n.ai n.sv n.ms n.p n.wh),AI b,O J 0]))/\Below W.heap.size W w'):=λh0 W hW=>by
  refine(Ka n.ai x4 x2 x11 n.sv.length c4 n.ms.length c2 n.wh.length c11 n.p.x n.p.y n.p.z n.p.h n.p.s s n.sv n.ms n.wh W (oA.below hW) eC (hn.sv.below hW) (hn.ms.below hW) (hn.wh.below hW)).mono ?_;rintro e w' ⟨rfl,hb⟩;exact⟨⟨_,by rw[Xh h0]⟩,hb⟩
 clear h2 h4 h11 hn oA eC Dx;obtain⟨W0,dK,df,-,k0⟩:=cR w (fD n (U x2 n.ms.length c2) (U x3 n.rs.length c3) (U x4 n.sv.length c4) (U x5 n.gw.length c5) (U x11 n.wh.length c11)) 30;have dy:Hid (Below w.heap.size w W0):=df;have xq:Hid (W0.heap[w.heap.size]?=Z (AT (fD n (U x2 n.ms.length c2) (U x3 n.rs.length c3) (U x4 n.sv.length c4) (U x5 n.gw.length c5) (U x11 n.wh.length c11)) 30 (0,0))):=k0;obtain⟨a0,a1,a2,a3,a4,a5,a6,a7,a8,a9,a10,a11⟩:=bM k0;have hck:=rL.out W0 dy.out;have HC:Hid (Calls _ _ _ _ _):=hck;have HAS:Hid (∀r:Option Int,n.e=0->zx n m r->pP n m s (sh (Il #[I (if r.isSome=true then s else sF s n.ai n.sv n.ms n.p n.wh),O J (r.getD 0),AI r.isSome,O J 0]))):=λr h0 hr=>.inr ⟨h0,r,hr,rfl⟩;have HAN:Hid (n.e≠0->pP n m s (sh (Il #[I ⟨#[]⟩,O J 0,AI false,O J n.e]))):=λh0=>.inl ⟨h0,rfl⟩;clear df k0 hck rL;go_enter Tryz.func11,Tryz.ntmps11;go_upto_region 1 with fail
 rw[<- dK];clear dK;go_wp2_with fail;refine HC.out.mono ?_;rintro e w1 ⟨rfl,al⟩;have aR:Hid (Below w.heap.size w w1):=dy.out.trans (al.mono dy.out.size);have nJ:Hid (w1.heap[w.heap.size]?=Z (AT (fD n (U x2 n.ms.length c2) (U x3 n.rs.length c3) (U x4 n.sv.length c4) (U x5 n.gw.length c5) (U x11 n.wh.length c11)) 30 (0,0))):=(al.block _ (Ia.1 xq.out).1).trans xq.out;clear al a0 a1 a2 a3 a4 a5 a6 a7 a8 a9 a10 a11 HC dy xq;by_cases h0:n.e=0
 .obtain⟨a0,a1,a2,a3,a4,a5,a6,a7,a8,a9,a10,a11⟩:=bM nJ.out
  have Ws:(n.e !=0)=false:=by simp[h0]
  obtain⟨W2,eX,aC,iZ,k2⟩:=cR w1 (fD n (U x2 n.ms.length c2) (U x3 n.rs.length c3) (U x4 n.sv.length c4) (U x5 n.gw.length c5) (U x11 n.wh.length c11)) 81;have bw:Hid (Below w.heap.size w W2):=aR.out.trans (aC.mono aR.out.size);have j3:Hid (W2.heap[w.heap.size]?=Z (AT (fD n (U x2 n.ms.length c2) (U x3 n.rs.length c3) (U x4 n.sv.length c4) (U x5 n.gw.length c5) (U x11 n.wh.length c11)) 30 (0,0))):=(aC.block _ (Ia.1 nJ.out).1).trans nJ.out;have hon:=HON.out h0 W2 w1.heap.size bw.out k2;have ad8:Hid (Calls _ _ _ _ _):=hon;have abx:=HRP;have ad9:=HAS;have H0:Hid (n.e=0):=h0;clear HON HRP HAS HAN aC iZ k2 hon;go_upto_region 5 with fail
  rw[<- eX];clear eX a0 a1 a2 a3 a4 a5 a6 a7 a8 a9 a10 a11;generalize w1.heap.size=gw at *;go_wp2_with fail;refine ad8.out.mono ?_;rintro e w3 ⟨bf,r,hr,rfl⟩;have da:Hid (Below w.heap.size w w3):=bw.out.trans (bf.mono bw.out.size);have nq:Hid (w3.heap[w.heap.size]?=Z (AT (fD n (U x2 n.ms.length c2) (U x3 n.rs.length c3) (U x4 n.sv.length c4) (U x5 n.gw.length c5) (U x11 n.wh.length c11)) 30 (0,0))):=(bf.block _ (Ia.1 j3.out).1).trans j3.out;have HE:Hid (pP _ _ _ _):=ad9.out r H0.out hr;clear bf ad8 hr ad9;cases r with
  |some A=>
   simp only[Option.isSome_some,Option.getD_some,if_true] at HE ⊢;clear abx;go_wp2_with fail;exact Ix (v:=Il #[I s,O J A,AI true,O J 0]) (by simp[results,Tryz.results11,go_sem]) rfl ⟨da.out,HE.out⟩
  |none=>
   simp only[Option.isSome_none,Option.getD_none,Bool.false_eq_true,if_false] at HE ⊢;obtain⟨a0,a1,a2,a3,a4,a5,a6,a7,a8,a9,a10,a11⟩:=bM nq.out;have hrp:=abx.out H0.out w3 da.out;have AH:Hid (Calls _ _ _ _ _):=hrp;clear hrp abx;generalize sF s n.ai n.sv n.ms n.p n.wh=RT at *;go_wp2_with fail;refine AH.out.mono ?_;rintro e w4 ⟨⟨b,rfl⟩,fa⟩;have gJ:Hid (Below w.heap.size w w4):=da.out.trans (fa.mono da.out.size);clear fa AH a0 a1 a2 a3 a4 a5 a6 a7 a8 a9 a10 a11;go_wp2_with fail;exact Ix (v:=Il #[I RT,O J 0,AI false,O J 0]) (by simp[results,Tryz.results11,go_sem]) rfl ⟨gJ.out,HE.out⟩
 .have Ws:(n.e !=0)=true:=by simpa using h0
  have HE:Hid (pP _ _ _ _):=HAN.out h0;clear HON HRP HAS HAN h0;generalize n.e=ne at *;go_wp2_with fail;exact Ix (v:=Il #[I ⟨#[]⟩,O J 0,AI false,O J ne]) (by simp[results,Tryz.results11,go_sem]) rfl ⟨aR.out,HE.out⟩
end Go.Proofs.YtfidjlcdlakceaaGreatDoor
namespace Go.Proofs.YtfidjlcdlakceaaGreatDoor
namespace Wh
open Go.RowKit
end Wh
end Go.Proofs.YtfidjlcdlakceaaGreatDoor
namespace Go.Proofs.YtfidjlcdlakceaaGreatDoor
open Go.RowKit
def aby(w:World)(p:Pk)(A:Array Value):Prop:=∃vm vs vg vw,A=#[I p.dN,AI p.whole,vm,vs,vg,vw]/\Sl w vm p.ms/\Sv.Sl w vs p.sv/\Gw.Sl w vg p.gw/\Wh.Sl w vw p.wh
def SU(t0 t1:ByteArray)(p2:Option Addr)(k2 c2:Nat)(p3:Option Addr)(k3 c3:Nat)(p4:Option Addr)(k4 c4:Nat)(p5:Option Addr)(k5 c5:Nat)(i6 i7 i8 i9 i10:Int)(p11:Option Addr)(k11 c11:Nat):Array Value:=
 #[I t0,I t1,U p2 k2 c2,U p3 k3 c3,U p4 k4 c4,U p5 k5 c5,O J i6,O J i7,O J i8,O J i9,O J i10,U p11 k11 c11]
def fq(w:World)(n:Nd)(A:Array Value):Prop:=∃vm vr vs vg vw,A=fD n vm vr vs vg vw/\jL w n vm vr vs vg vw
theorem fq.below{w w':World}{n:Nd}{A:Array Value}(h:fq w n A)(hb:Below w.heap.size w w'):fq w' n A:=by
 obtain⟨a,b,c,d,e,h1,h2⟩:=h;exact⟨a,b,c,d,e,h1,h2.below hb⟩
theorem fq.letters{w:World}{n:Nd}{A:Array Value}(h:fq w n A):∃t0 t1 p2 k2 c2 p3 k3 c3 p4 k4 c4 p5 k5 c5 i6 i7 i8 i9 i10 p11 k11 c11,A=SU t0 t1 p2 k2 c2 p3 k3 c3 p4 k4 c4 p5 k5 c5 i6 i7 i8 i9 i10 p11 k11 c11:=by
 obtain⟨vm,vr,vs,vg,vw,rfl,⟨pm,cm,rfl,_⟩,⟨pr,cr,rfl,_⟩,⟨ps,cs,rfl,_⟩,⟨pg,cg,rfl,_⟩,⟨pw,cw,rfl,_⟩,_,_⟩:=h;exact⟨_,_,_,_,_,_,_,_,_,_,_,_,_,_,_,_,_,_,_,_,_,_,rfl⟩
def nL:Nd:=VH ⟨#[97]⟩ ⟨#[99]⟩ 1 false
def bgB:Nd:=VH ⟨#[98]⟩ ⟨#[99]⟩ 2 true
def bgP:Pk:=⟨⟨#[98]⟩,true,bgB.ms,bgB.sv,bgB.gw,bgB.wh⟩
def bg3:Nd:=s9 nL bgP
def Xi:Nd:=Vu bg3 ⟨#[98]⟩ 2
def bgM:Mem:=⟨⟨#[98]⟩,2,1,2,true⟩
theorem Xj:nwE ⟨#[97]⟩ ⟨#[99]⟩ 1=0:=by kernel_rfl
theorem aeb:nwE ⟨#[98]⟩ ⟨#[99]⟩ 2=0:=by kernel_rfl
theorem Xk:nL.e=0:=by kernel_rfl
theorem aec:bgB.e=0:=by kernel_rfl
theorem aed:oG nL bgP=0:=by kernel_rfl
theorem aee:bg3.e=0:=by kernel_rfl
theorem aef:Ky bg3 ⟨#[98]⟩ 1 2=0:=by kernel_rfl
theorem aeg:Xi.e=0:=by kernel_rfl
theorem aeh:Xi.ms.length=2:=by kernel_rfl
theorem aei:Xi.rs=[⟨bgM,0⟩]:=by kernel_rfl
theorem VM{l:List Mem}{rest:List bE}(h:oI Xi l rest):l=[bgM]:=by
 obtain⟨told,ht,hp,_⟩:=h;rw[aei] at ht;rcases ht with⟨h,_⟩|⟨_,ord,ho,rfl,_⟩
 .cases h
 .have h1:ord=[0]:=by
   have:=ho.perm;rw[show List.range [(⟨bgM,0⟩:bE)].length=[0] from rfl] at this;exact List.perm_singleton.1 this
  subst h1;have h2:gL [(⟨bgM,0⟩:bE)] [0] (min 5 [(⟨bgM,0⟩:bE)].length)=[bgM]:=by kernel_rfl
  rw[h2] at hp;exact List.perm_singleton.1 hp
def fE(B:Nat)(w:World)(n:Nd)(A:Array Value):Prop:=∃vm vr vs vg vw,A=fD n vm vr vs vg vw/\gK B w n vm vr vs vg vw/\oE n
theorem fE.is{B:Nat}{w:World}{n:Nd}{A:Array Value}(h:fE B w n A):fq w n A:=by
 obtain⟨a,b,c,d,e,h1,h2,h3⟩:=h;exact⟨a,b,c,d,e,h1,h2.is h3⟩
theorem fE.below{B:Nat}{w w':World}{n:Nd}{A:Array Value}(h:fE B w n A)(hb:Below w.heap.size w w'):fE B w' n A:=by
 obtain⟨a,b,c,d,e,h1,h2,h3⟩:=h;exact⟨a,b,c,d,e,h1,h2.below hb,h3⟩
theorem fE.setCell{B:Nat}{w:World}{n:Nd}{A:Array Value}(h:fE B w n A){b:Nat}(hb:b<B)(j:Nat)(x:Value):fE B (w.setCell ⟨b,j,Y⟩ x) n A:=by
 obtain⟨v1,v2,v3,v4,v5,h1,h2,h3⟩:=h;exact⟨v1,v2,v3,v4,v5,h1,⟨Ik h2.ms hb _,Ik h2.rs hb _,Ik h2.sv hb _,Ik h2.gw hb _,Ik h2.wh hb _⟩,h3⟩
theorem eT.ok{ne er:Int}{n':Nd}{w w':World}{e:QI}(h:eT ne er n' w e w')(h1:ne=0)(h2:er=0):∃A,e=sh (Il #[Im A,O J 0])/\fE w.heap.size w' n' A/\Below w.heap.size w w':=by
 obtain⟨hb,⟨h3,_⟩|⟨_,h3,_⟩|⟨_,_,um,ur,us,ug,uw,rfl,ho,hk⟩⟩:=h
 .exact absurd h1 h3
 .exact absurd h2 h3
 .exact⟨_,rfl,⟨_,_,_,_,_,rfl,ho,hk⟩,hb⟩
def pkV(t0:ByteArray)(b1:Bool)(p2:Option Addr)(k2 c2:Nat)(p3:Option Addr)(k3 c3:Nat)(p4:Option Addr)(k4 c4:Nat)(p5:Option Addr)(k5 c5:Nat):Array Value:=
 #[I t0,AI b1,U p2 k2 c2,U p3 k3 c3,U p4 k4 c4,U p5 k5 c5]
def mN(w:World)(p:Pk)(A:Array Value):Prop:=∃vm vs vg vw,A=#[I p.dN,AI p.whole,vm,vs,vg,vw]/\pJ w p vm vs vg vw
theorem mN.below{w w':World}{p:Pk}{A:Array Value}(h:mN w p A)(hb:Below w.heap.size w w'):mN w' p A:=by
 obtain⟨a,b,c,d,h1,h2⟩:=h;exact⟨a,b,c,d,h1,h2.below hb⟩
theorem mN.is{w:World}{p:Pk}{A:Array Value}(h:mN w p A):aby w p A:=by
 obtain⟨a,b,c,d,h1,h2⟩:=h;exact⟨a,b,c,d,h1,h2.ms,h2.sv,h2.gw,h2.wh⟩
theorem aby.letters{w:World}{p:Pk}{A:Array Value}(h:aby w p A):∃t0 b1 p2 k2 c2 p3 k3 c3 p4 k4 c4 p5 k5 c5,A=pkV t0 b1 p2 k2 c2 p3 k3 c3 p4 k4 c4 p5 k5 c5:=by
 obtain⟨vm,vs,vg,vw,rfl,⟨pm,cm,rfl,_⟩,⟨ps,cs,rfl,_⟩,⟨pg,cg,rfl,_⟩,⟨pw,cw,rfl,_⟩⟩:=h;exact⟨_,_,_,_,_,_,_,_,_,_,_,_,_,_,rfl⟩
theorem K8{base n k:Nat}{T:TypeId}{w:World}{v:Value}{xs:List Value}(h:w.ownsRow base T k v n xs):Roomy v:=by
 obtain⟨a,c,rfl,hn⟩:=az h;exact hn
def Nd.pk(n:Nd):Pk:=⟨n.name,true,n.ms,n.sv,n.gw,n.wh⟩
theorem iW.ok{n:Nd}{ne:Int}{w w':World}{e:QI}(h:iW n ne w e w')(h1:ne=0)(hk:oE n):∃A,e=sh (Il #[Im A,O J 0])/\mN w' n.pk A/\Below w.heap.size w w':=by
 obtain⟨hb,⟨h3,_⟩|⟨_,um,us,ug,uw,rfl,o1,o2,o3,o4⟩⟩:=h
 .exact absurd h1 h3
 .exact⟨_,rfl,⟨_,_,_,_,rfl,o1.sl (cB hk.ms),o2.sl (Sv.cB hk.sv),o3.sl (Gw.cB hk.gw),o4.sl (Wh.cB hk.wh),hk.name,K8 o1⟩,hb⟩
theorem fq.ok{w:World}{n:Nd}{A:Array Value}(h:fq w n A):oE n:=by
 obtain⟨_,_,_,_,_,_,h⟩:=h;exact h.ok
theorem BN{w:World}{n:Nd}{A:Array Value}(h:fq w n A):aP 17 #[Im A] w λe w'=>iW n n.e w e w':=by
 obtain⟨_,_,_,_,_,rfl,h⟩:=h;exact KL n _ _ _ _ _ w h
theorem VN{w:World}{n:Nd}{p:Pk}{A P:Array Value}(h:fq w n A)(hp:mN w p P)(hlen:p.whole=true\/p.sv.length+p.gw.length+p.wh.length<=4611686018427387904):aP 18 #[Im A,Im P] w λe w'=>eT n.e (oG n p) (s9 n p) w e w':=by
 obtain⟨_,_,_,_,_,rfl,h⟩:=h;obtain⟨_,_,_,_,rfl,hp⟩:=hp;exact Re n p _ _ _ _ _ _ _ _ _ w h hp hlen
theorem Rr{w:World}{n:Nd}{A:Array Value}(h:fq w n A)(t:ByteArray)(ht:t.size<=Ij):aP 20 #[Im A,I t] w λe w'=>eT n.e (Ky n t 1 2) (Vu n t 2) w e w':=by
 obtain⟨_,_,_,_,_,rfl,h⟩:=h;exact KA n t _ _ _ _ _ w h ht
theorem VO{w:World}{n:Nd}{A:Array Value}(h:fq w n A):aP 21 #[Im A] w λe w'=>mM n n.e w e w':=by
 obtain⟨_,_,_,_,_,rfl,h⟩:=h;exact Rn n _ _ _ _ _ w h
theorem mM.ok{n:Nd}{ne:Int}{w w':World}{e:QI}(h:mM n ne w e w')(h1:ne=0):∃A a k c l rest,e=sh (Il #[Im A,Im #[I n.name,AI false,U a k c,U Y 0 0,U Y 0 0,U Y 0 0],O J 0])/\oI n l rest/\fE w.heap.size w' { n with rs:=rest } A/\Own w.heap.size w' (U a k c) l/\Below w.heap.size w w':=by
 obtain⟨hb,⟨h3,_⟩|⟨_,n',um,ur,us,ug,uw,a,k,c,l,rfl,hn,ht,ho,hk,hl⟩⟩:=h
 .exact absurd h1 h3
 .refine⟨_,a,k,c,l,n'.rs,rfl,ht,?_,hl,hb⟩
  rw[<- hn];exact⟨_,_,_,_,_,rfl,ho,hk⟩
theorem fE.bU{B:Nat}{w:World}{n:Nd}{A:Array Value}(h:fE B w n A){b:Nat}(hb:b<B)(L:List Value)(j:Nat):fE B (bU b L j w) n A:=by
 obtain⟨v1,v2,v3,v4,v5,h1,h2,h3⟩:=h;exact⟨v1,v2,v3,v4,v5,h1,⟨bZ hb L j h2.ms,bZ hb L j h2.rs,bZ hb L j h2.sv,bZ hb L j h2.gw,bZ hb L j h2.wh⟩,h3⟩
theorem fq.len{w:World}{n:Nd}{A:Array Value}(h:fq w n A):∃p c,A[2]?=Z (U p n.ms.length c):=by
 obtain⟨vm,vr,vs,vg,vw,rfl,⟨pm,cm,rfl,_⟩,_⟩:=h;exact⟨pm,cm,rfl⟩
theorem Rs{w:World}{n:Nd}{p:Pk}{A P:Array Value}(h:fq w n A)(hp:mN w p P)(hlen:p.whole=true\/p.sv.length+p.gw.length+p.wh.length<=4611686018427387904)(cS:n.sv=[])(iX:n.gw=[])(lN:p.sv=[])(iQ:p.gw=[])(gG:p.wh=[]):Calls be 18 #[Im A,Im P] w λe w'=>eT n.e (oG n p) (s9 n p) w e w':=by
 obtain⟨_,_,_,_,_,rfl,h⟩:=h;obtain⟨_,_,_,_,rfl,hp⟩:=hp;exact K5 n p _ _ _ _ _ _ _ _ _ w h hp hlen cS iX lN iQ gG
theorem one_le:(1:Nat)<=Ij:=by decide
theorem uU(w:World):Calls be 5 #[] w λe w'=>e=sh (AI true)/\Below w.heap.size w w':=by
 go_enter Tryz.func5,Tryz.ntmps5;go_wp2_with fail;refine(te ⟨#[97]⟩ ⟨#[99]⟩ 1 false w one_le one_le).mono ?_;intro e w1 h;obtain⟨A1,rfl,hA,al⟩:=h.ok Xj rfl;obtain⟨vI,vJ,vK,vL,vM,vN,vO,vP,vQ,vR,vS,vT,vU,vV,vW,vX,vY,vZ,jM,jN,jO,jP,rfl⟩:=hA.is.letters;simp only[SU] at hA ⊢;have Fx:Hid (fq w1 nL #[I vI,I vJ,U vK vL vM,U vN vO vP,U vQ vR vS,U vT vU vV,O J vW,O J vX,O J vY,O J vZ,O J jM,U jN jO jP]):=hA.is;have aR:Hid (Below w.heap.size w w1):=al;have cS:w.heap.size<=w1.heap.size:=al.size;clear h hA al;obtain⟨W1,e9⟩:∃W1,W1=w1.alloc (AT #[I vI,I vJ,U vK vL vM,U vN vO vP,U vQ vR vS,U vT vU vV,O J vW,O J vX,O J vY,O J vZ,O J jM,U jN jO jP] 30):=⟨_,rfl⟩;have ha1:Below w1.heap.size w1 W1:=by rw[e9];exact(Below.refl _ _).alloc (By _) _
 have jo:Hid (W1.heap[w1.heap.size]?=Z (AT #[I vI,I vJ,U vK vL vM,U vN vO vP,U vQ vR vS,U vT vU vV,O J vW,O J vX,O J vY,O J vZ,O J jM,U jN jO jP] 30 (0,0))):=by rw[e9];exact Ie w1 _
 have gI:W1.heap.size=w1.heap.size+1:=by rw[e9];simp
 have yT:Hid (fq W1 nL #[I vI,I vJ,U vK vL vM,U vN vO vP,U vQ vR vS,U vT vU vV,O J vW,O J vX,O J vY,O J vZ,O J jM,U jN jO jP]):=Fx.out.below ha1;have bw:Hid (Below w.heap.size w W1):=aR.out.trans (ha1.mono cS);clear ha1 Fx;go_upto_region 2 with fail
 rw[<- e9];clear e9;go_wp2_with fail;refine(te ⟨#[98]⟩ ⟨#[99]⟩ 2 true W1 one_le one_le).mono ?_;intro e w2 h;obtain⟨A1,rfl,hA,al⟩:=h.ok aeb rfl;obtain⟨BO,BP,BQ,BR,BS,BU,BV,BW,BZ,B0,B1,B2,B3,B4,B5,B6,B7,B8,mO,mP,mQ,mR,rfl⟩:=hA.is.letters;simp only[SU] at hA ⊢;have yI:Hid (fq w2 bgB #[I BO,I BP,U BQ BR BS,U BU BV BW,U BZ B0 B1,U B2 B3 B4,O J B5,O J B6,O J B7,O J B8,O J mO,U mP mQ mR]):=hA.is;have yU:Hid (fq w2 nL #[I vI,I vJ,U vK vL vM,U vN vO vP,U vQ vR vS,U vT vU vV,O J vW,O J vX,O J vY,O J vZ,O J jM,U jN jO jP]):=yT.out.below al;have da:Hid (Below w.heap.size w w2):=bw.out.trans (al.mono (by omega));have ai8:Hid (w2.heap[w1.heap.size]?=Z (AT #[I vI,I vJ,U vK vL vM,U vN vO vP,U vQ vR vS,U vT vU vV,O J vW,O J vX,O J vY,O J vZ,O J jM,U jN jO jP] 30 (0,0))):=(al.block _ (by omega)).trans jo.out;have iX:w1.heap.size<w2.heap.size:=by have:=al.size;omega
 clear h hA al yT;obtain⟨W2,eX⟩:∃W2,W2=w2.alloc (AT #[I BO,I BP,U BQ BR BS,U BU BV BW,U BZ B0 B1,U B2 B3 B4,O J B5,O J B6,O J B7,O J B8,O J mO,U mP mQ mR] 30):=⟨_,rfl⟩;have ha2:Below w2.heap.size w2 W2:=by rw[eX];exact(Below.refl _ _).alloc (By _) _
 have oq:Hid (W2.heap[w2.heap.size]?=Z (AT #[I BO,I BP,U BQ BR BS,U BU BV BW,U BZ B0 B1,U B2 B3 B4,O J B5,O J B6,O J B7,O J B8,O J mO,U mP mQ mR] 30 (0,0))):=by rw[eX];exact Ie w2 _
 have iZ:W2.heap.size=w2.heap.size+1:=by rw[eX];simp
 have HA4:Hid (fq W2 nL #[I vI,I vJ,U vK vL vM,U vN vO vP,U vQ vR vS,U vT vU vV,O J vW,O J vX,O J vY,O J vZ,O J jM,U jN jO jP]):=yU.out.below ha2;have Ds:Hid (fq W2 bgB #[I BO,I BP,U BQ BR BS,U BU BV BW,U BZ B0 B1,U B2 B3 B4,O J B5,O J B6,O J B7,O J B8,O J mO,U mP mQ mR]):=yI.out.below ha2;have gJ:Hid (Below w.heap.size w W2):=da.out.trans (ha2.mono (by omega));have ai9:Hid (W2.heap[w1.heap.size]?=Z (AT #[I vI,I vJ,U vK vL vM,U vN vO vP,U vQ vR vS,U vT vU vV,O J vW,O J vX,O J vY,O J vZ,O J jM,U jN jO jP] 30 (0,0))):=(ha2.block _ iX).trans ai8.out;have hg:=oq.out;obtain⟨y0,y1,y2,y3,y4,y5,y6,y7,y8,y9,y10,y11⟩:=bM hg;clear ha2 yU yI hg;go_upto_region 3 with fail
 rw[<- eX];clear eX;go_wp2_with fail;refine(BN Ds.out).mono ?_;intro e w3 h;obtain⟨A1,rfl,hP,al⟩:=h.ok aec Ds.out.ok;obtain⟨Xl,Xm,Xn,Xo,Xp,Xq,Xr,Xs,Xt,Xu,Xv,Xw,Xx,Xy,rfl⟩:=hP.is.letters;simp only[pkV] at hP ⊢;have HP1:Hid (mN w3 bgP #[I Xl,AI Xm,U Xn Xo Xp,U Xq Xr Xs,U Xt Xu Xv,U Xw Xx Xy]):=hP;have HA5:Hid (fq w3 nL #[I vI,I vJ,U vK vL vM,U vN vO vP,U vQ vR vS,U vT vU vV,O J vW,O J vX,O J vY,O J vZ,O J jM,U jN jO jP]):=HA4.out.below al;have jE:Hid (Below w.heap.size w w3):=gJ.out.trans (al.mono (by omega));have aja:Hid (w3.heap[w1.heap.size]?=Z (AT #[I vI,I vJ,U vK vL vM,U vN vO vP,U vQ vR vS,U vT vU vV,O J vW,O J vX,O J vY,O J vZ,O J jM,U jN jO jP] 30 (0,0))):=(al.block _ (by omega)).trans ai9.out;have lN:w1.heap.size<w3.heap.size:=by have:=al.size;omega
 clear h hP al HA4 Ds y0 y1 y2 y3 y4 y5 y6 y7 y8 y9 y10 y11;obtain⟨W3,kL⟩:∃W3,W3=w3.alloc (AT #[I Xl,AI Xm,U Xn Xo Xp,U Xq Xr Xs,U Xt Xu Xv,U Xw Xx Xy] 57):=⟨_,rfl⟩;have ha3:Below w3.heap.size w3 W3:=by rw[kL];exact(Below.refl _ _).alloc (By _) _
 have Nq:Hid (W3.heap[w3.heap.size]?=Z (AT #[I Xl,AI Xm,U Xn Xo Xp,U Xq Xr Xs,U Xt Xu Xv,U Xw Xx Xy] 57 (0,0))):=by rw[kL];exact Ie w3 _
 have Np:W3.heap.size=w3.heap.size+1:=by rw[kL];simp
 have HA6:Hid (fq W3 nL #[I vI,I vJ,U vK vL vM,U vN vO vP,U vQ vR vS,U vT vU vV,O J vW,O J vX,O J vY,O J vZ,O J jM,U jN jO jP]):=HA5.out.below ha3;have HP2:Hid (mN W3 bgP #[I Xl,AI Xm,U Xn Xo Xp,U Xq Xr Xs,U Xt Xu Xv,U Xw Xx Xy]):=HP1.out.below ha3;have kX:Hid (Below w.heap.size w W3):=jE.out.trans (ha3.mono (by omega));have hg:=Nq.out;have bb:W3.heap[w1.heap.size]?=Z (AT #[I vI,I vJ,U vK vL vM,U vN vO vP,U vQ vR vS,U vT vU vV,O J vW,O J vX,O J vY,O J vZ,O J jM,U jN jO jP] 30 (0,0)):=(ha3.block _ lN).trans aja.out;have ajb:Hid (W3.heap[w1.heap.size]?=Z (AT #[I vI,I vJ,U vK vL vM,U vN vO vP,U vQ vR vS,U vT vU vV,O J vW,O J vX,O J vY,O J vZ,O J jM,U jN jO jP] 30 (0,0))):=bb;obtain⟨y0,y1,y2,y3,y4,y5⟩:=gV hg;obtain⟨x0,x1,x2,x3,x4,x5,x6,x7,x8,x9,x10,x11⟩:=bM bb;clear ha3 HA5 HP1 hg bb;go_upto_region 4 with fail
 rw[<- kL];clear kL;go_wp2_with fail;refine(Rs HA6.out HP2.out (.inl rfl) rfl rfl rfl rfl rfl).mono ?_;intro e w4 h;obtain⟨A1,rfl,hA,al⟩:=h.ok Xk aed;obtain⟨K9,La,Lb,Lc,Ld,Le,Lf,Lg,Lh,Li,Lj,Lk,Ll,Lm,Ln,Lo,Lp,Lq,qX,qY,qZ,rh,rfl⟩:=hA.is.letters;simp only[SU] at hA ⊢;have HA7:Hid (fE W3.heap.size w4 bg3 #[I K9,I La,U Lb Lc Ld,U Le Lf Lg,U Lh Li Lj,U Lk Ll Lm,O J Ln,O J Lo,O J Lp,O J Lq,O J qX,U qY qZ rh]):=hA;have zS:Hid (Below w.heap.size w w4):=kX.out.trans (al.mono (by omega));have bb:w4.heap[w1.heap.size]?=Z (AT #[I vI,I vJ,U vK vL vM,U vN vO vP,U vQ vR vS,U vT vU vV,O J vW,O J vX,O J vY,O J vZ,O J jM,U jN jO jP] 30 (0,0)):=(al.block _ (by omega)).trans ajb.out;have iQ:W3.heap.size<=w4.heap.size:=al.size;clear h hA al HA6 HP2 y0 y1 y2 y3 y4 y5 x0 x1 x2 x3 x4 x5 x6 x7 x8 x9 x10 x11;obtain⟨x0,x1,x2,x3,x4,x5,x6,x7,x8,x9,x10,x11⟩:=bM bb;obtain⟨xz0,xz1,xz2,xz3,xz4,xz5,xz6,xz7,xz8,xz9,abB,abC⟩:=mK bb;obtain⟨W4,Cz⟩:∃W4,W4=((((((((((((w4.setCell ⟨w1.heap.size,0,Y⟩ (I K9)).setCell ⟨w1.heap.size,1,Y⟩ (I La)).setCell ⟨w1.heap.size,2,Y⟩ (U Lb Lc Ld)).setCell ⟨w1.heap.size,3,Y⟩ (U Le Lf Lg)).setCell ⟨w1.heap.size,4,Y⟩ (U Lh Li Lj)).setCell ⟨w1.heap.size,5,Y⟩ (U Lk Ll Lm)).setCell ⟨w1.heap.size,6,Y⟩ (O J Ln)).setCell ⟨w1.heap.size,7,Y⟩ (O J Lo)).setCell ⟨w1.heap.size,8,Y⟩ (O J Lp)).setCell ⟨w1.heap.size,9,Y⟩ (O J Lq)).setCell ⟨w1.heap.size,10,Y⟩ (O J qX)).setCell ⟨w1.heap.size,11,Y⟩ (U qY qZ rh)):=⟨_,rfl⟩;have hF4:W4=bU w1.heap.size [I K9,I La,U Lb Lc Ld,U Le Lf Lg,U Lh Li Lj,U Lk Ll Lm,O J Ln,O J Lo,O J Lp,O J Lq,O J qX,U qY qZ rh] 0 w4:=by rw[Cz];simp only[bU,IM,OV]
 have iL:W4.heap[w1.heap.size]?=Z (AT #[I K9,I La,U Lb Lc Ld,U Le Lf Lg,U Lh Li Lj,U Lk Ll Lm,O J Ln,O J Lo,O J Lp,O J Lq,O J qX,U qY qZ rh] 30 (0,0)):=by rw[hF4];exact kI bb _ _ _ _ _ _ _ _ _ _ _ _
 have ajl:Hid (W4.heap[w1.heap.size]?=Z (AT #[I K9,I La,U Lb Lc Ld,U Le Lf Lg,U Lh Li Lj,U Lk Ll Lm,O J Ln,O J Lo,O J Lp,O J Lq,O J qX,U qY qZ rh] 30 (0,0))):=iL;have HB8:Hid (Below w.heap.size w W4):=by rw[hF4];exact cz cS _ _ zS.out
 have HA8:Hid (fq W4 bg3 #[I K9,I La,U Lb Lc Ld,U Le Lf Lg,U Lh Li Lj,U Lk Ll Lm,O J Ln,O J Lo,O J Lp,O J Lq,O J qX,U qY qZ rh]):=by rw[hF4];exact(HA7.out.bU (by omega) _ _).is
 have Db:W4.heap.size=w4.heap.size:=by rw[hF4];exact mL _ _ _ _
 obtain⟨u0,u1,u2,u3,u4,u5,u6,u7,u8,u9,u10,u11⟩:=bM iL;clear hF4 bb iL HA7;go_upto_region 5 with fail
 rw[<- Cz];clear Cz x0 xz0 x1 xz1 x2 xz2 x3 xz3 x4 xz4 x5 xz5 x6 xz6 x7 xz7 x8 xz8 x9 xz9 x10 abB x11 abC;go_wp2_with fail;refine(Rr HA8.out ⟨#[98]⟩ one_le).mono ?_;intro e w5 h;obtain⟨A1,rfl,hA,al⟩:=h.ok aee aef;obtain⟨Lr,Ls,Ez,CE,EA,Lt,Lu,Lv,Lw,Lx,Ly,Lz,LA,LB,LC,LD,LF,LG,ri,rj,rm,rq,rfl⟩:=hA.is.letters;simp only[SU] at hA ⊢;have HA9:Hid (fE W4.heap.size w5 Xi #[I Lr,I Ls,U Ez CE EA,U Lt Lu Lv,U Lw Lx Ly,U Lz LA LB,O J LC,O J LD,O J LF,O J LG,O J ri,U rj rm rq]):=hA;have sg:CE=2:=by
  obtain⟨p,c,hp⟩:=hA.is.len;have Sk:Z (U Ez CE EA)=Z (U p Xi.ms.length c):=hp;rw[aeh] at Sk;injection Sk with Sk;injection Sk
 have qi:Hid (Below w.heap.size w w5):=HB8.out.trans (al.mono (by omega));have bb:w5.heap[w1.heap.size]?=Z (AT #[I K9,I La,U Lb Lc Ld,U Le Lf Lg,U Lh Li Lj,U Lk Ll Lm,O J Ln,O J Lo,O J Lp,O J Lq,O J qX,U qY qZ rh] 30 (0,0)):=(al.block _ (by omega)).trans ajl.out;have gG:W4.heap.size<=w5.heap.size:=al.size;clear h hA al HA8 u0 u1 u2 u3 u4 u5 u6 u7 u8 u9 u10 u11;obtain⟨x0,x1,x2,x3,x4,x5,x6,x7,x8,x9,x10,x11⟩:=bM bb;obtain⟨xz0,xz1,xz2,xz3,xz4,xz5,xz6,xz7,xz8,xz9,abB,abC⟩:=mK bb;obtain⟨W5,pL⟩:∃W5,W5=((((((((((((w5.setCell ⟨w1.heap.size,0,Y⟩ (I Lr)).setCell ⟨w1.heap.size,1,Y⟩ (I Ls)).setCell ⟨w1.heap.size,2,Y⟩ (U Ez CE EA)).setCell ⟨w1.heap.size,3,Y⟩ (U Lt Lu Lv)).setCell ⟨w1.heap.size,4,Y⟩ (U Lw Lx Ly)).setCell ⟨w1.heap.size,5,Y⟩ (U Lz LA LB)).setCell ⟨w1.heap.size,6,Y⟩ (O J LC)).setCell ⟨w1.heap.size,7,Y⟩ (O J LD)).setCell ⟨w1.heap.size,8,Y⟩ (O J LF)).setCell ⟨w1.heap.size,9,Y⟩ (O J LG)).setCell ⟨w1.heap.size,10,Y⟩ (O J ri)).setCell ⟨w1.heap.size,11,Y⟩ (U rj rm rq)):=⟨_,rfl⟩;have hF5:W5=bU w1.heap.size [I Lr,I Ls,U Ez CE EA,U Lt Lu Lv,U Lw Lx Ly,U Lz LA LB,O J LC,O J LD,O J LF,O J LG,O J ri,U rj rm rq] 0 w5:=by rw[pL];simp only[bU,IM,OV]
 have iL:W5.heap[w1.heap.size]?=Z (AT #[I Lr,I Ls,U Ez CE EA,U Lt Lu Lv,U Lw Lx Ly,U Lz LA LB,O J LC,O J LD,O J LF,O J LG,O J ri,U rj rm rq] 30 (0,0)):=by rw[hF5];exact kI bb _ _ _ _ _ _ _ _ _ _ _ _
 have ajm:Hid (W5.heap[w1.heap.size]?=Z (AT #[I Lr,I Ls,U Ez CE EA,U Lt Lu Lv,U Lw Lx Ly,U Lz LA LB,O J LC,O J LD,O J LF,O J LG,O J ri,U rj rm rq] 30 (0,0))):=iL;have yO:Hid (Below w.heap.size w W5):=by rw[hF5];exact cz cS _ _ qi.out
 have EB:Hid (fq W5 Xi #[I Lr,I Ls,U Ez CE EA,U Lt Lu Lv,U Lw Lx Ly,U Lz LA LB,O J LC,O J LD,O J LF,O J LG,O J ri,U rj rm rq]):=by rw[hF5];exact(HA9.out.bU (by omega) _ _).is
 have WI:W5.heap.size=w5.heap.size:=by rw[hF5];exact mL _ _ _ _
 obtain⟨u0,u1,u2,u3,u4,u5,u6,u7,u8,u9,u10,u11⟩:=bM iL;clear hF5 bb iL HA9;have Wr:=sg;clear sg;have j3:Hid (CE=2):=Wr;clear Wr;go_upto_region 6 with fail
 rw[<- pL];clear pL x0 xz0 x1 xz1 x2 xz2 x3 xz3 x4 xz4 x5 xz5 x6 xz6 x7 xz7 x8 xz8 x9 xz9 x10 abB x11 abC;go_wp2_with fail;refine(VO EB.out).mono ?_;intro e w6 h;obtain⟨A1,ta,tk,tc,l,rest,rfl,hT,hA,hol,al⟩:=h.ok aeg;obtain⟨t0e,t1e,p2e,k2e,c2e,p3e,k3e,c3e,p4e,k4e,c4e,p5e,k5e,c5e,i6e,i7e,i8e,i9e,aer,aes,aet,aeu,rfl⟩:=hA.is.letters;simp only[SU] at hA ⊢;have hl:=VM hT;subst hl;have ix:w1.heap.size<w6.heap.size:=by have:=al.size;omega
 have bb:w6.heap[w1.heap.size]?=Z (AT #[I Lr,I Ls,U Ez CE EA,U Lt Lu Lv,U Lw Lx Ly,U Lz LA LB,O J LC,O J LD,O J LF,O J LG,O J ri,U rj rm rq] 30 (0,0)):=(al.block _ (by omega)).trans ajm.out;have yP:Hid (Below w.heap.size w w6):=yO.out.trans (al.mono (by omega));obtain⟨a,cap,hv,_,dL⟩:=hol.sl (cB (by intro m hm;rw[List.mem_singleton.1 hm];exact one_le));injection hv with Wj hv2 GB;rcases dL with h0|⟨g,off,hp,aL,dL⟩
 .cases h0
 have hc:=(dL 0 (by simp)).2.1;have hc2:w6.cell? ⟨g,off+1,Y⟩=Z (O J 2):=by simpa[bgM] using hc
 have HC:Hid (w6.cell? ⟨g,off+1,Y⟩=Z (O J 2)):=hc2;clear hc2;subst Wj hp;have ajo:tk=1:=hv2;subst ajo;clear hv2 GB dL hc hT hA hol h al EB u0 u1 u2 u3 u4 u5 u6 u7 u8 u9 u10 u11;generalize Xi.name=qn at *;obtain⟨W6,hW6⟩:∃W6,W6=(w6.alloc (AT #[I t0e,I t1e,U p2e k2e c2e,U p3e k3e c3e,U p4e k4e c4e,U p5e k5e c5e,O J i6e,O J i7e,O J i8e,O J i9e,O J aer,U aes aet aeu] 30)).alloc (AT #[I qn,AI false,U (Z ⟨g,off,Y⟩) 1 tc,U Y 0 0,U Y 0 0,U Y 0 0] 57):=⟨_,rfl⟩;have wG:Below w6.heap.size w6 W6:=by rw[hW6];exact((Below.refl _ _).alloc (By _) _).alloc (by simp) _
 have Cv:W6.heap[w6.heap.size+1]?=Z (AT #[I qn,AI false,U (Z ⟨g,off,Y⟩) 1 tc,U Y 0 0,U Y 0 0,U Y 0 0] 57 (0,0)):=by
  have h:=Ie (w6.alloc (AT #[I t0e,I t1e,U p2e k2e c2e,U p3e k3e c3e,U p4e k4e c4e,U p5e k5e c5e,O J i6e,O J i7e,O J i8e,O J i9e,O J aer,U aes aet aeu] 30)) (AT #[I qn,AI false,U (Z ⟨g,off,Y⟩) 1 tc,U Y 0 0,U Y 0 0,U Y 0 0] 57);rw[hW6];simpa using h
 have hgd:W6.heap[w1.heap.size]?=Z (AT #[I Lr,I Ls,U Ez CE EA,U Lt Lu Lv,U Lw Lx Ly,U Lz LA LB,O J LC,O J LD,O J LF,O J LG,O J ri,U rj rm rq] 30 (0,0)):=(wG.block _ ix).trans bb;have z1:W6.cell? ⟨w1.heap.size,2,Y⟩=Z (U Ez 2 EA):=(af hgd 2).trans (by rw[j3.out];rfl);have z2:W6.cell? ⟨w6.heap.size+1,2,Y⟩=Z (U (Z ⟨g,off,Y⟩) 1 tc):=af Cv 2;have z3:W6.cell? ⟨g,off+1,Y⟩=Z (O J 2):=(wG.cell aL).trans HC.out;have mS:Hid (Below w.heap.size w W6):=yP.out.trans (wG.mono yP.out.size);clear wG Cv hgd bb aL;go_upto_region 7 with fail
 rw[<- hW6];clear hW6;go_wp2_with fail;go_ret;exact⟨rfl,mS.out⟩
def EC(c n:Int):Int:=if c<0 then(-(c+1)).tmod n else c.tmod n
theorem Rt(c:Int){n:Int}(hn:0<n):0<=EC c n/\EC c n<n:=by
 unfold EC;split
 .exact⟨Int.tmod_nonneg _ (by omega),Int.tmod_lt_of_pos _ hn⟩
 .exact⟨Int.tmod_nonneg _ (by omega),Int.tmod_lt_of_pos _ hn⟩
theorem ED(c:Int)(w:World)(hc : -9223372036854775808<=c)(hc2:c<=9223372036854775807) :
 Calls be 10 #[O J c,O J 65536] w λe w'=>e=sh (O J (EC c 65536))/\w'=w:=by
 have hb:=Rt c (show(0:Int)<65536 by decide);unfold EC at hb ⊢;by_cases h:c<0
 .rw[if_pos h] at hb ⊢
  have h1:IntKind.i64.wrap (c+1)=c+1:=by rw[IK];omega
  have h2:IntKind.i64.wrap (-(c+1)) = -(c+1):=by rw[IK];omega
  have h5:IntKind.i64.wrap ((-(c+1)).tmod 65536)=(-(c+1)).tmod 65536:=by rw[IK];omega
  have h3:=decide_eq_true h;go_enter Tryz.func10,Tryz.ntmps10;go_wp2_with fail;go_ret;exact⟨by first|rfl|(rw[Int.neg_tmod];rfl),rfl⟩
 .rw[if_neg h] at hb ⊢
  have h5:IntKind.i64.wrap (c.tmod 65536)=c.tmod 65536:=by rw[IK];omega
  have h3:=decide_eq_false h;go_enter Tryz.func10,Tryz.ntmps10;go_wp2_with fail;go_ret;exact⟨by first|rfl|(rw[Int.tmod_eq_emod_of_nonneg (by omega)];rfl),rfl⟩
theorem zy{name:ByteArray}(h:bT name=0){c:Int}(hc:0<=c/\c<65536):zO c 0 1 false false name []=0:=by
 have h1:within c 0 65535=true:=by unfold within;simp;omega
 have h2:bn c 0 1 name []=0:=by
  unfold bn;rw[h1];simp[h,within,gz,gA]
 unfold zO;rw[if_pos h2];have h3:=Bb c 0 1 false false h 0;unfold cL;rw[if_neg (by simp;omega)]
theorem VP{q:Qu}(h:jk q=0)(bu:q.ai≠Ih):aN q.ai=true:=by
 have hq:=(nA h).1;unfold fo at hq;split at hq
 .cases hq
 .split at hq
  .cases hq
  .rename_i h1
   have h2:[q.service,q.tag,q.node,q.ai].all fF=true:=by simpa using h1
   simp only[List.all_cons,List.all_nil,Bool.and_true,Bool.and_eq_true] at h2;have h3:=h2.2.2.2;unfold fF at h3;simpa[bu] using h3
theorem Ru{n:Nd}{q:Qu}{c:Int}(h0:n.e=0)(hq:jk q=0){r:Option Int}(hr:zx n (Z ⟨c,0,1,false,false,iy q,[]⟩) r){a:Int}(hA:Gw.AtI n.gw q.ai a) : (q.ai=Ih\/q.ai=n.ai\/a<0)/\r=Y\/q.ai≠Ih/\q.ai≠n.ai/\∃k:Nat,a=k/\k<n.gw.length/\r=Z (n.gw.getD k Gw.dm).addr:=by
 obtain⟨b1,b2⟩:=B9 hq;have hp:=Nd.parts (Nd.gx h0).1;unfold zx at hr;simp only[JI,true_and] at hr;rw[if_pos b1,b2] at hr;obtain⟨p,f,cA,rfl⟩:=hr;obtain⟨g1,g2⟩:=Gw.abl hA cA (Gw.aF hp.gw).2.1;unfold Gw.gi;by_cases e1:q.ai=Ih
 .left
  refine⟨.inl e1,?_⟩
  have:aN q.ai=false:=by rw[e1];decide
  rw[this];simp
 by_cases e2:q.ai=n.ai
 .left
  refine⟨.inr (.inl e2),?_⟩;rw[e2];simp[hp.ai]
 have e3:=VP hq e1;rw[hp.ai,e3];have e4:¬ n.ai=q.ai:=λh=>e2 h.symm;simp only[Bool.and_self,if_true,if_neg e4];cases f with
 |false=>
  left;have:=g2 rfl;exact⟨.inr (.inr (by omega)),by simp⟩
 |true=>
  right;have ha:=g1 rfl;refine⟨e1,e2,p,ha,?_,by simp[Gw.mm]⟩;rcases hA with⟨k,hk,rfl,_⟩|⟨rfl,_⟩
  .omega
  .omega
theorem Rv{P:Program}{f:FuncId}{args:Array Value}{w:World}{R1 R2:Value->World->Prop}(hi:P.inits.idxOf? f=Y)(h1:Calls P f args w λe w'=>∃v,e=sh v/\R1 v w')(h2:Calls P f args w λe w'=>∃v,e=sh v/\R2 v w'):∃v w',R1 v w'/\R2 v w':=by
 obtain⟨e1,w1,f1,⟨v1,rfl,r1⟩,c1,g1,l1⟩:=h1 [];obtain⟨e2,w2,f2,⟨v2,rfl,r2⟩,c2,g2,l2⟩:=h2 [];have d1:=step_leave_done l1 (by rw[g1];exact hi);have d2:=step_leave_done l2 (by rw[g2];exact hi);obtain⟨n,hn⟩:Steps P _ _:=c1;obtain⟨m,hm⟩:Steps P _ _:=c2;have ft:n=m:=by
  rcases Nat.lt_trichotomy n m with h|h|h
  .exfalso
   obtain⟨k,rfl⟩:∃k,m=n+(k+1):=⟨m-n-1,by omega⟩;rw[runN_add,hn] at hm;simp only[runN,d1] at hm;cases hm
  .exact h
  .exfalso
   obtain⟨k,rfl⟩:∃k,n=m+(k+1):=⟨n-m-1,by omega⟩;rw[runN_add,hm] at hn;simp only[runN,d2] at hn;cases hn
 subst ft;rw[hn] at hm;injection hm with hm;have hw:w1=w2:=congrArg Machine.world hm;have hf:f1=f2:=by
  unfold lone at hm;simp at hm;exact hm.2
 subst hw hf;obtain⟨_,_,_,fn1,q1,s1⟩:=l1;obtain⟨_,_,_,fn2,q2,s2⟩:=l2;obtain rfl:=Option.some.inj (q1.symm.trans q2);rw[s1] at s2;injection s2 with s2;subst s2;exact⟨v1,w1,r1,r2⟩
theorem Rw{s:ByteArray}(h:vH s=Y):Cx s≠0:=by
 unfold Cx;by_cases h1:s.size<=512
 .rw[if_pos h1]
  by_cases h2:pZ s=0
  .exfalso
   unfold vH at h;rw[if_pos ⟨h1,h2⟩] at h;unfold pZ at h2;rw[h] at h2;exact absurd h2 (by decide)
  .rw[if_neg h2];decide
 .rw[if_neg h1];decide
theorem abE{id code an:Int}{aB cut:Bool}{R:ByteArray}(h:zO id code an aB cut R []=0)(w:World):vH (ow id code an aB cut R [])=Z ⟨id,code,an,aB,cut,R,[]⟩:=by
 have h1:Calls be 19 #[I (ow id code an aB cut R [])] w λe w'=>∃v,e=sh v/\∃x,v=Il #[Im x,O J (Cx (ow id code an aB cut R []))]/\MsV w' (vH (ow id code an aB cut R [])) x:=by
  refine(Pt _ w).mono ?_;intro e w' hp;obtain⟨i,a,c,o,r,y,p,l,k,he,hm,_⟩:=Pv hp;exact⟨_,he,_,rfl,hm.out⟩
 have h2:Calls be 19 #[I (ow id code an aB cut R [])] w λe w'=>∃v,e=sh v/\∃v',v=Il #[Im #[O J id,AI aB,AI cut,O J code,I R,O J an,v'],O J 0]/\Rc.Own w.heap.size w' v' []:=by
  refine(oz h w).mono ?_;rintro e w' ⟨v,he,_,ho⟩;exact⟨_,he,v,rfl,ho.out⟩
 obtain⟨v,w',⟨x,rfl,hx⟩,v',hv,ho⟩:=Rv (by kernel_rfl) h1 h2;simp only[Value.tuple.injEq,Array.mk.injEq,Uv,Value.agg.injEq,Value.int.injEq,and_true,true_and] at hv;obtain⟨rfl,hX⟩:=hv;cases hm:vH (ow id code an aB cut R []) with
 |none=>exact absurd hX (Rw hm)
 |some M=>
  rw[hm] at hx;obtain⟨u,hu,_,he⟩:=hx;simp only[Array.mk.injEq,Uv,Value.int.injEq,Value.bool.injEq,Value.string.injEq,true_and,and_true] at he;obtain⟨e0,e1,e2,e3,e4,e5,e6⟩:=he;obtain⟨p,k,hq,_⟩:=hu;have hl:M.rs=[]:=by
   rcases ho.2 with⟨hv,_⟩|⟨g,c,cur,hv,_⟩
   .rw[e6,hq] at hv
    simp only[IN] at hv;exact IX hv.2.1
   .rw[e6,hq] at hv
    simp only[IN] at hv;exact IX hv.2.1
  obtain⟨M0,M1,M2,M3,M4,M5,M6⟩:=M;simp only at e0 e1 e2 e3 e4 e5 hl;subst e0 e1 e2 e3 e4 e5 hl;rfl
theorem Rz:∀l:List UInt8,(((gN l).map mk).flatMap il).length=l.length+1
 |[]=>by simp[gN,il,fC,jQ]
 |c::r=>by
  have ih:=Rz r;by_cases h:c=46
  .subst h
   rw[sK];simp only[OU,JY,Ii,ih,IY];simp[il,fC,jQ];omega
  .obtain⟨x,xs,hr⟩:=List.exists_cons_of_ne_nil (ye r)
   rw[ma h hr];rw[hr] at ih;simp only[OU,JY,Ii,IY] at ih ⊢;simp only[il,fC,jQ,Ii,IY,JI] at ih ⊢;omega
theorem Ca{s:ByteArray}(h:bT s=0):(cG s).length<=122:=by
 have h1:=(gh h).1;unfold cG gB;rw[Ii,bo];split
 .simp
 .rw[Rz]
  have:s.data.toList.length=s.size:=rfl
  omega
theorem VQ{id:Int}{name:ByteArray}{r:Rc.Rec}(hr:r.an=1)(hn:r.name=name)(hc:bT name=0)(hm:bn id 0 1 name [r]=0):pd id 0 1 true false name [r] 512=ow id 0 1 true false name [r]/\zO id 0 1 true false name [r]=0:=by
 have h1:=Ca hc;have hl:(cL id 0 1 true false name [r]).length<=512:=by
  unfold cL mx;simp only[Ii,bo,JY,List.flatMap_nil,Qx];unfold dv fj;rw[if_pos hr,hn];simp only[Ii,bo];omega
 unfold pd ow zO;rw[if_neg (by decide),if_pos hm,if_pos hm,if_pos hm,if_neg (by omega),if_neg (by omega)]
 have:nK (sy id 0 1 true false name [r]) 512 [r].length=Z (cL id 0 1 true false name [r]):=by
  show nK _ 512 1=_;rw[nK,if_pos]
  .unfold sy;simp
  .unfold sy;simp only[IY,JI,Nat.lt_irrefl,decide_false,Bool.or_false,List.take_succ_cons,List.take_zero]
   omega
 rw[this];exact⟨rfl,rfl⟩
theorem RA{p:Pl}{wh:List Wh.bC}{ms:List Mem}{s:Sv.aI}(h:tL ms s.node=false):ib p wh ms [s]=[s]:=by
 unfold ib;have h1:bQ ms [s]=[s]:=by simp[bQ,h]
 have h2:bP [s]=[s.node]:=by simp[bP,GI]
 have h3:GH p wh [s.node]=[s.node]:=rfl;rw[h1,h2,h3];simp[gl,jU]
theorem VR{q:Qu}{here:ByteArray}{ms:List Mem}{p:Pl}{wh:List Wh.bC}{s:Sv.aI}(hq:jk q=0)(h1:q.service=s.name)(h2:q.tag=s.tag)(h3:q.node=⟨#[]⟩)(h4:q.ai=⟨#[]⟩)(ho:tL ms s.node=false)(hp:s.au=true)(hg:s.gone=false) :
 lI q 1 here [s] ms p wh=⟨[⟨iy q,1,0,s.addr,⟨#[]⟩,0,⟨#[]⟩⟩],0,0⟩:=by
 unfold lI;rw[if_pos hq,if_neg (by rw[h4];exact λh=>h.1 rfl),if_neg (by rw[h3];exact λh=>h rfl)];unfold ky;have e0:(JZ #[]).toList=[]:=by rw[Lib.toList_data]
 have f1:Sv.bV [s] q.service ⟨#[]⟩=[s]:=by simp[Sv.bV,Sv.keep,h1,hp,hg,e0]
 have f2:Sv.bV [s] q.service q.tag=[s]:=by simp[Sv.bV,Sv.keep,h1,h2,hp,hg]
 rw[f1,f2,RA ho];rfl
theorem FN{n:Nd}{X:List Sv.aI}(h:n.e=0)(hX:Sv.ba X=0):({ n with sv:=X }:Nd).e=0:=by
 have hz:=Nd.gx h;have hp:=Nd.parts hz.1;have e1:({ n with sv:=X }:Nd).pE=0:=by
  unfold Nd.pE;simp only[hp.name,hp.ai,Bool.and_self,if_true,hp.ms,hp.rs,hX,hp.gw,hp.p,hp.wh]
 unfold Nd.e;rw[if_pos e1];exact hz.2
theorem FO{x:Int}(h:0<=x/\x<256):(x.toNat.toUInt8.toNat:Int)=x:=by
 simp;omega
theorem abF{c:Int}(h:0<=c/\c<65536):256*((bt c 1).toNat.toUInt8.toNat:Int)+((bt c 0).toNat.toUInt8.toNat:Int)=c:=by
 rw[FO (zz c 1),FO (zz c 0)];unfold bt;rw[QR,QR];have e1:(2:Int)^(8*((1:Nat):Int)).toNat=256:=by decide
 have e0:(2:Int)^(8*((0:Nat):Int)).toNat=1:=by decide
 rw[e1,e0];omega
theorem LH{c:Int}{name:ByteArray}(h:0<=c/\c<65536)(hc:bT name=0):dX (ow c 0 1 false false name [])=false/\lD (ow c 0 1 false false name [])=c:=by
 have hw:=zy hc h;obtain⟨g1,g2,g3⟩:=yV hw;rw[g3];unfold dX lD;have hl:(cL c 0 1 false false name []).length=16+(cG name).length:=by
  unfold cL mx;simp only[Ii,bo,List.flatMap_nil,Qx];omega
 have e:∀k,(JZ (cL c 0 1 false false name []).toArray).data.toList.getD k 0=(cL c 0 1 false false name []).getD k 0:=λk=>by simp
 have hs:(JZ (cL c 0 1 false false name []).toArray).size=(cL c 0 1 false false name []).length:=by simp[JJ]
 rw[hs,e,e,e];have e0:(cL c 0 1 false false name []).getD 0 0=(bt c 1).toNat.toUInt8:=rfl;have e1:(cL c 0 1 false false name []).getD 1 0=(bt c 0).toNat.toUInt8:=rfl;have e2:(cL c 0 1 false false name []).getD 2 0=(bt (pc false false) 0).toNat.toUInt8:=rfl;rw[e0,e1,e2];refine⟨?_,abF h⟩;have f2:(bt (pc false false) 0).toNat.toUInt8=0:=by decide
 rw[f2];simp only[Bool.or_eq_false_iff,decide_eq_false_iff_not];exact⟨by omega,by decide⟩
end Go.Proofs.YtfidjlcdlakceaaGreatDoor
