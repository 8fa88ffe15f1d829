import Derived.Test.YtfidhgjmifendaaGreatDoorng46
set_option maxHeartbeats 25600000
set_option maxRecDepth 100000
open Nat renaming le_trans→Ir,zero_add→ID,reduceAdd→Jg,le_refl→Ic
open Go.Obj renaming cells→By
open Option renaming some→AI,none→be
open Go.RowKit.Below renaming heap_setCell→IX,refl→Ib
open Go renaming ownsRow_setCell_other→Iu,bodyPost_ret→IL,Ending→OR,TypeId→I4,heap_alloc_new→Ii
open Go.Joins renaming block_setCell→IC
open Go.Value renaming pointer→If,agg→Ik,string→Y,bool→Ia,slice→J,int→U,tuple→Im
open Go.Ending renaming returned→AT
open Array renaming getElem?_eq_some_iff→BY
open Go.RowKit renaming ownsRow_setCell_below→Il
open Go.IntKind renaming i64→O
namespace Go.Proofs.YtfidhgjmifendaaGreatDoor
open Go.RowKit
theorem zN{ms:List Mem}(h:ms.length<=20):(eC ms).length<=20:=by
 unfold eC;rw[List.length_map];exact Ir (List.length_filter_le _ _) h
theorem Wk.pk{L b c:Nat}{W:World}{n:Nd}(h:Wk L W b n)(hc:∃cs,W.heap[c]?=AI (By cs 53 (0,0)))(i:Nat)(x:Value):Wk L (W.setCell ⟨c,i,be⟩ x) b n/\∃cs,(W.setCell ⟨c,i,be⟩ x).heap[c]?=AI (By cs 53 (0,0)):=by
 obtain⟨cs,hc⟩:=hc;obtain⟨vm,vr,vs,vg,vw,h1,h2,h3,h4⟩:=h;have aT:b≠c:=by
  intro e;rw[e,hc] at h1;injection h1 with h1;injection h1 with _ h1;exact absurd h1 (by decide)
 exact⟨⟨vm,vr,vs,vg,vw,(IX W _ x b aT).trans h1,⟨Iu h2.ms (eL h2.ms hc (by decide)) _,Iu h2.rs (eL h2.rs hc (by decide)) _,Iu h2.sv (eL h2.sv hc (by decide)) _,Iu h2.gw (eL h2.gw hc (by decide)) _,Iu h2.wh (eL h2.wh hc (by decide)) _⟩,h3,h4⟩,_,IC (i:=i) hc x⟩
theorem Fu(L b:Nat)(n:Nd)(w:World)(h:Wk L w b n)(hL:L<=b)(uT:Sp n) :
 aF 31 #[If (AI ⟨b,0,be⟩)] w λe w'=>∃a k c l rest,e=AT (Ik #[Y n.name,Ia false,J a k c,J be 0 0,J be 0 0,J be 0 0])/\Hid (jT n l rest)/\Own (w.heap.size+1) w' (J a k c) l/\Sh (λk=>k=b) w w'/\Wk L w' b { n with rs:=rest }:=by
 have pD:Hid (Wk L w b n):=h;have aN:=h.lt;have Aw:Hid _:=uT;obtain⟨vm,vr,vs,vg,vw,h1,h2,h3,h4⟩:=h;have l9:Hid _:=h2.is h4;obtain⟨am,cm,nF,_⟩:=aA h2.ms;obtain⟨ar,cr,uR,_⟩:=aA h2.rs;subst nF uR;have Pp:=(af uT.ms).1;have DU:Hid _:=zN Pp;have HX:Hid (∀W,Below w.heap.size w W->W.heap[b]?=AI (By (dw n (J am n.ms.length cm) (J ar n.rs.length cr) vs vg vw) 90 (0,0))):=λW hW=>(hW.block _ aN).trans h1;have aeU:Hid _:=h4.rs;obtain⟨W0,bA,bM,eE,dd⟩:=bV w #[Y ⟨#[]⟩,Ia false,J be 0 0,J be 0 0,J be 0 0,J be 0 0] 53;have y2:=ae (HX.out W0 bM) 2;have cY:Hid _:=bM;have nE:Hid _:=dd;clear h1 h2 h3 h4 uT;go_enter Tryz.func31,Tryz.ntmps31;go_upto_region 1 with fail
 rw[<- bA];clear bA;go_wp2_with fail;refine(EV n.ms _ W0 (l9.out.ms.below cY.out) Aw.out.ms).mono ?_;rintro e w1 ⟨v1,rfl,yN,aB⟩;obtain⟨a1,c1,Ap,_⟩:=aA yN.out;subst Ap;have aY:Hid _:=aB;have iM:Hid _:=cY.out.trans (aB.mono (by omega));clear yN aB y2 bM dd;have aeV:within ((eC n.ms).length:Int) 0 20=true:=Q2.2 ⟨by omega,by have:=DU.out;omega⟩;go_wp2_with fail;refine(DZ _ w1 aeV).mono ?_;rintro e w2 ⟨rfl,sJ⟩;have PY:=sJ.symm;subst PY;have y3:=ae (HX.out w1 iM.out) 3;go_wp2_with fail;have htm:within (T2 n) 1 100=true:=by
  have aN:∀m,m<21->Lib.bitLen m<=5:=by decide
  have h1:=aN (eC n.ms).length (by have:=DU.out;omega);refine Q2.2 ⟨?_,?_⟩<;>(unfold T2;omega)
 refine(EZ n.rs _ (T2 n) w1 (l9.out.rs.below iM.out) Aw.out.rs htm).mono ?_;rintro e w3 ⟨a3,k3,c3,a4,k4,c4,told,rest,rfl,HT,kZ,V8,bU⟩;have dY:Hid (Own _ _ _ _):=kZ;have nD:Hid (cE _ _ _ _):=V8;have cF:Hid _:=bU;have aeW:=bU.size;clear kZ V8 bU y3;go_wp2_with fail;refine(EP w1.heap.size told _ w3 dY.out aeW (by have:=tN HT.out;omega)).mono ?_;rintro e w4 ⟨rfl,l,hp,hs,PG,jz,Ku⟩;have uL:Hid (Own _ _ _ _):=PG;have HTL:Hid (jT n l rest):=⟨told,HT.out,hp,hs⟩;have gX:Hid _:=cF.out.trans jz;have xM:Hid _:=iM.out.trans (gX.out.mono iM.out.size);have yc:Hid (cE w1.heap.size w4 (J a4 k4 c4) rest):=by
  rcases nD.out.2 with hq|⟨g,c,cur,e1,e2,e3,e4⟩
  .exact⟨nD.out.1,.inl hq⟩
  .refine⟨nD.out.1,.inr ⟨g,c,cur,e1,e2,(Ku.block g (BY.1 e3).1 (λe=>?_)).trans e3,e4⟩⟩
   exact eL dY.out e3 (by decide) e
 have hL2:L<=w.heap.size:=by omega
 have fh:w.heap.size+1<=w1.heap.size:=by have:=aY.out.size;omega
 have mj:=(gX.out.block _ (by omega)).trans ((aY.out.block _ (by omega)).trans nE.out);have PA:Hid _:=mj;have hx4:=HX.out w4 xM.out;have x0:=ae hx4 0;have x3:=ae hx4 3;have xz3:=an hx4 3;have hbs:b<w4.heap.size:=by have:=xM.out.size;omega
 have aT:b≠w.heap.size:=by omega
 have SO:w.heap.size≠b:=by omega
 have Xh:w.heap.size<w4.heap.size:=by have:=gX.out.size;omega
 obtain⟨q0,q1,q2,q3,q4,q5⟩:=fo mj;obtain⟨vI,vJ,xa,xb,xc,xd⟩:=Hz mj;clear mj hx4 PG jz Ku hp hs;go_wp2_with fail;refine IL (v:=Ik #[Y n.name,Ia false,J a3 k3 c3,J be 0 0,J be 0 0,J be 0 0]) ?_ rfl ?_
 .simp[results,Tryz.results31,go_sem,q0,q1,q2,q3,q4,q5]
 .have k0:=pD.out.H6 hL2 xM.out (v:=J a4 k4 c4) (l:=rest) (yc.out.base (by omega)) (vW HT.out aeU.out).2
  have z0:∃cs,(w4.setCell ⟨b,3,be⟩ (J a4 k4 c4)).heap[w.heap.size]?=AI (By cs 53 (0,0)):=⟨_,(IX w4 _ _ w.heap.size SO).trans PA.out⟩;obtain⟨k1,z1⟩:=k0.pk z0 0 (Y n.name);obtain⟨k2,z2⟩:=k1.pk z1 1 (Ia false);obtain⟨k3',z3⟩:=k2.pk z2 2 (J a3 k3 c3);obtain⟨k4',z4⟩:=k3'.pk z3 3 (J be 0 0);obtain⟨k5,z5⟩:=k4'.pk z4 4 (J be 0 0);obtain⟨k6,z6⟩:=k5.pk z5 5 (J be 0 0);have rK:=(((((((Ib w.heap.size (w4.setCell ⟨b,3,be⟩ (J a4 k4 c4))).setCell (p:=⟨w.heap.size,0,be⟩) (by simp) (Y n.name)).setCell (p:=⟨w.heap.size,1,be⟩) (by simp) (Ia false)).setCell (p:=⟨w.heap.size,2,be⟩) (by simp) (J a3 k3 c3)).setCell (p:=⟨w.heap.size,3,be⟩) (by simp) (J be 0 0)).setCell (p:=⟨w.heap.size,4,be⟩) (by simp) (J be 0 0)).setCell (p:=⟨w.heap.size,5,be⟩) (by simp) (J be 0 0));have s0:Sh (λk=>k=b) w (w4.setCell ⟨b,3,be⟩ (J a4 k4 c4)):=Sh.setCell (S:=λk=>k=b) (Sh.of xM.out) (b:=b) (i:=3) rfl _;refine⟨a3,k3,c3,l,rest,rfl,HTL,?_,⟨rK.os.trans s0.os,rK.tape.trans s0.tape,rK.output.trans s0.output,Ir s0.size rK.size,λi hi hn=>(rK.block i hi).trans (s0.block i hi hn)⟩,k6⟩;exact(Il (Il (Il (Il (Il (Il (Il (uL.out.mono fh) (a:=⟨b,3,be⟩) (by simp only;omega) _) (a:=⟨w.heap.size,0,be⟩) (by simp only;omega) _) (a:=⟨w.heap.size,1,be⟩) (by simp only;omega) _) (a:=⟨w.heap.size,2,be⟩) (by simp only;omega) _) (a:=⟨w.heap.size,3,be⟩) (by simp only;omega) _) (a:=⟨w.heap.size,4,be⟩) (by simp only;omega) _) (a:=⟨w.heap.size,5,be⟩) (by simp only;omega) _)
theorem Fv(L b tb:Nat)(n:Nd)(w:World)(h:Wk L w b n)(hL:L<=b)(uT:Sp n)(hc:w.heap[tb]?=AI (By #[Y ⟨#[]⟩,Ia false,J be 0 0,J be 0 0,J be 0 0,J be 0 0] 53 (0,0))) :
 aF 30 #[If (AI ⟨b,0,be⟩),If (AI ⟨tb,0,be⟩)] w λe w'=>e=AT (U O 0)/\Sh (λk=>k=b\/k=tb) w w'/\∃a k c l rest,Hid (jT n l rest)/\w'.heap[tb]?=AI (By #[Y n.name,Ia false,J a k c,J be 0 0,J be 0 0,J be 0 0] 53 (0,0))/\Own (w.heap.size+1) w' (J a k c) l/\Wk L w' b { n with rs:=rest }:=by
 have HC:=Fu L b n w h hL uT;have Sb:=(BY.1 hc).1;have aT:tb≠b:=by
  intro e;obtain⟨_,_,_,_,_,h1,_⟩:=h;rw[<- e,hc] at h1;injection h1 with h1;injection h1 with _ h1;exact absurd h1 (by decide)
 have HCB:Hid _:=hc;clear h uT hc;go_enter Tryz.func30,Tryz.ntmps30;go_wp2_with fail;refine HC.mono ?_;rintro e w1 ⟨a,k,c,l,rest,rfl,HT,ho,hs,hk⟩;have cX:=(hs.block _ Sb aT).trans HCB.out;have Gs:Hid _:=cX;have HO:Hid (Own _ _ _ _):=ho;have xi:Hid _:=hs;have HK:Hid (Wk _ _ _ _):=hk;have BK:=(BY.1 cX).1;obtain⟨q0,q1,q2,q3,q4,q5⟩:=fo cX;obtain⟨vI,vJ,xa,xb,xc,xd⟩:=Hz cX;clear cX ho hs hk HC;go_wp2_with fail;go_ret;have g0:=HK.out;have z0:∃cs,w1.heap[tb]?=AI (By cs 53 (0,0)):=⟨_,Gs.out⟩;obtain⟨g1,z1⟩:=g0.pk z0 0 (Y n.name);obtain⟨g2,z2⟩:=g1.pk z1 1 (Ia false);obtain⟨g3,z3⟩:=g2.pk z2 2 (J a k c);obtain⟨g4,z4⟩:=g3.pk z3 3 (J be 0 0);obtain⟨g5,z5⟩:=g4.pk z4 4 (J be 0 0);obtain⟨g6,z6⟩:=g5.pk z5 5 (J be 0 0);exact⟨rfl,(Sh.setCell (S:=λk=>k=b\/k=tb) (Sh.setCell (S:=λk=>k=b\/k=tb) (Sh.setCell (S:=λk=>k=b\/k=tb) (Sh.setCell (S:=λk=>k=b\/k=tb) (Sh.setCell (S:=λk=>k=b\/k=tb) (Sh.setCell (S:=λk=>k=b\/k=tb) (xi.out.mono (λk hk=>.inl hk)) (b:=tb) (i:=0) (.inr rfl) (Y n.name)) (b:=tb) (i:=1) (.inr rfl) (Ia false)) (b:=tb) (i:=2) (.inr rfl) (J a k c)) (b:=tb) (i:=3) (.inr rfl) (J be 0 0)) (b:=tb) (i:=4) (.inr rfl) (J be 0 0)) (b:=tb) (i:=5) (.inr rfl) (J be 0 0)),a,k,c,l,rest,HT,(IC (i:=5) (IC (i:=4) (IC (i:=3) (IC (i:=2) (IC (i:=1) (IC (i:=0) Gs.out (Y n.name)) (Ia false)) (J a k c)) (J be 0 0)) (J be 0 0)) (J be 0 0)),(Il ((Il ((Il ((Il ((Il ((Il (HO.out) (a:=⟨tb,0,be⟩) (by simp only;omega) (Y n.name))) (a:=⟨tb,1,be⟩) (by simp only;omega) (Ia false))) (a:=⟨tb,2,be⟩) (by simp only;omega) (J a k c))) (a:=⟨tb,3,be⟩) (by simp only;omega) (J be 0 0))) (a:=⟨tb,4,be⟩) (by simp only;omega) (J be 0 0))) (a:=⟨tb,5,be⟩) (by simp only;omega) (J be 0 0)),g6⟩
def mU(n:Nd)(ne:Int)(w:World)(e:OR)(w':World):Prop:=Below w.heap.size w w' /\
 ((ne≠0/\e=AT (Im #[Ik #[Y ⟨#[]⟩,Y ⟨#[]⟩,J be 0 0,J be 0 0,J be 0 0,J be 0 0,U O 0,U O 0,U O 0,U O 0,U O 0,J be 0 0],Ik #[Y ⟨#[]⟩,Ia false,J be 0 0,J be 0 0,J be 0 0,J be 0 0],U O ne])) \/
 (ne=0/\∃n' um ur us ug uw a k c l,e=AT (Im #[Ik (dw n' um ur us ug uw),Ik #[Y n.name,Ia false,J a k c,J be 0 0,J be 0 0,J be 0 0],U O 0])/\n'={ n with rs:=n'.rs }/\jT n l n'.rs/\cJ w.heap.size w' n' um ur us ug uw/\iq n'/\Own w.heap.size w' (J a k c) l))
def Dy(n:Nd)(tb B:Nat)(n':Nd)(W:World):Prop:=∃a k c l,n'={ n with rs:=n'.rs }/\jT n l n'.rs/\W.heap[tb]?=AI (By #[Y n.name,Ia false,J a k c,J be 0 0,J be 0 0,J be 0 0] 53 (0,0))/\Own B W (J a k c) l
theorem zO(n:Nd)(vm vr vs vg vw:Value)(w:World)(h:eT w n vm vr vs vg vw) :
 aF 18 #[Ik (dw n vm vr vs vg vw)] w λe w'=>mU n n.e w e w':=by
 have l9:Hid _:=h;have lC:Hid (∀W0,Below w.heap.size w W0->W0.heap.size=w.heap.size+4->W0.heap[w.heap.size+3]?=AI (By #[Y ⟨#[]⟩,Ia false,J be 0 0,J be 0 0,J be 0 0,J be 0 0] 53 (0,0))->aF 29 #[Ik (dw n vm vr vs vg vw),.func (.func 30) #[] #[If (AI ⟨w.heap.size+3,0,be⟩)]] W0 λe w'=>kR n.e 0 (λk=>k=w.heap.size+3) (Dy n (w.heap.size+3) (W0.heap.size+2)) W0 e w'):=λW0 hb hs hc=>
  vR 30 #[If (AI ⟨w.heap.size+3,0,be⟩)] (enters_of Tryz.func30 (by kernel_rfl) rfl) n vm vr vs vg vw W0 (h.below hb) (λk=>k=w.heap.size+3) 0 (Dy n (w.heap.size+3) (W0.heap.size+2))
   (λhe W b hW aI hk=>by
    refine(Fv (W0.heap.size+2) b (w.heap.size+3) n W hk (by omega) (Nd.sp he) ((hW.block _ (by omega)).trans hc)).mono ?_;rintro e w' ⟨rfl,iU,a,k,c,l,rest,HT,rm,ho,C5⟩;have qV:=hk.lt;exact⟨rfl,iU.mono (λk hk=>by omega),λ_=>⟨_,C5,a,k,c,l,rfl,HT.out,rm,ho.mono (by omega)⟩⟩)
   (λn' W j x hR=>by
    obtain⟨a,k,c,l,h1,h2,h3,h4⟩:=hR;exact⟨a,k,c,l,h1,h2,(IX _ _ _ _ (by simp only;omega)).trans h3,Il h4 (by simp only;omega) _⟩)
   (λ_ hk=>by omega)
 have MU:Hid (∀nd:Nd,nd=n->nd.name=n.name):=λ_ h=>by rw[h]
 generalize DN:n.e=ne at *;clear DN;have HN:Hid (∃n0,n0=n):=⟨_,rfl⟩;obtain⟨N,hN⟩:∃N,N=n:=⟨_,rfl⟩;rw[<- hN] at lC ⊢;have SH:Hid (N.name=n.name):=by rw[hN];rfl
 obtain⟨nm,ct,ms,rs,sv,gw,⟨px,py,pz,ph,pq⟩,wh⟩:=n;obtain⟨⟨em,cm,rfl,_,_⟩,⟨qG,cr,rfl,_,_⟩,⟨es,qH,rfl,_,_⟩,⟨qI,cg,rfl,_,_⟩,⟨eh,ch,rfl,_,_⟩,_,_⟩:=h;have hA:dw N (J em ms.length cm) (J qG rs.length cr) (J es sv.length qH) (J qI gw.length cg) (J eh wh.length ch)=#[Y nm,Y ct,J em ms.length cm,J qG rs.length cr,J es sv.length qH,J qI gw.length cg,U O px,U O py,U O pz,U O ph,U O pq,J eh wh.length ch]:=by rw[hN]
 simp only[hA] at lC ⊢;clear hA hN HN MU;simp only at SH;generalize ms.length=km at *;generalize rs.length=kr at *;generalize sv.length=ks at *;generalize gw.length=kg at *;generalize wh.length=kh at *;obtain⟨W0,bA,bM,eE,vu,dd,hy0,ht0⟩:=RQ w #[Y nm,Y ct,J em km cm,J qG kr cr,J es ks qH,J qI kg cg,U O px,U O py,U O pz,U O ph,U O pq,J eh kh ch] #[Y ⟨#[]⟩,Y ⟨#[]⟩,J be 0 0,J be 0 0,J be 0 0,J be 0 0,U O 0,U O 0,U O 0,U O 0,U O 0,J be 0 0] #[Y ⟨#[]⟩,Ia false,J be 0 0,J be 0 0,J be 0 0,J be 0 0] #[Y ⟨#[]⟩,Ia false,J be 0 0,J be 0 0,J be 0 0,J be 0 0] 42 42 53 53;have rh:=lC.out W0 bM eE ht0;have cY:Hid _:=bM;have nE:Hid _:=dd;have HY0:Hid _:=hy0;have HT0:Hid _:=ht0;clear bM dd hy0 ht0 vu lC;go_enter Tryz.func18,Tryz.ntmps18;go_wp2_with fail;rw[<- bA];refine rh.mono ?_;rintro e w1 ⟨Am,LZ⟩;have fh:w.heap.size+4<=w1.heap.size:=by have:=Am.size;omega
 have aY:Hid _:=cY.out.trans (Am.below (by omega) (λk hk=>by omega));have Gs:Hid _:=(Am.block _ (by omega) (by omega)).trans nE.out;have HY1:Hid _:=(Am.block _ (by omega) (by omega)).trans HY0.out;clear Am rh bA;obtain⟨u0,u1,b2,m2,e2,b3,m3,e3,b4,m4,e4,b5,m5,e5,u6,u7,u8,u9,u10,b11,m11,e11,r,s0,ta,tk,tc,rfl,HT1,tq⟩:∃u0 u1 b2 m2 e2 b3 m3 e3 b4 m4 e4 b5 m5 e5 u6 u7 u8 u9 u10 b11 m11 e11 r s0 ta tk tc,e=AT (Im #[Ik #[Y u0,Y u1,J b2 m2 e2,J b3 m3 e3,J b4 m4 e4,J b5 m5 e5,U O u6,U O u7,U O u8,U O u9,U O u10,J b11 m11 e11],U O r])/\Hid (w1.heap[w.heap.size+3]?=AI (By #[Y s0,Ia false,J ta tk tc,J be 0 0,J be 0 0,J be 0 0] 53 (0,0)))/\Hid (∀WF:World,Below w.heap.size w WF->(∀{base n k:Nat} {T:I4} {v:Value} {xs:List Value},w.heap.size+1+1<base->w1.ownsRow base T k v n xs->WF.ownsRow base T k v n xs)->mU N ne w (AT (Im #[Ik #[Y u0,Y u1,J b2 m2 e2,J b3 m3 e3,J b4 m4 e4,J b5 m5 e5,U O u6,U O u7,U O u8,U O u9,U O u10,J b11 m11 e11],Ik #[Y s0,Ia false,J ta tk tc,J be 0 0,J be 0 0,J be 0 0],U O r])) WF):=by
  rcases LZ with⟨aT,Ay,rfl⟩|⟨_,KA,_⟩|⟨aT,_,n',um,ur,us,ug,uw,rfl,hown,hY,ta,tk,tc,l,hn',hT,rm,PZ⟩
  .exact⟨_,_,_,_,_,_,_,_,_,_,_,_,_,_,_,_,_,_,_,_,_,_,_,_,_,_,_,rfl,(Ay.block _ (by omega)).trans HT0.out,λWF hb _=>⟨hb,.inl ⟨aT,rfl⟩⟩⟩
  .exact absurd rfl KA
  .have hf:∀WF:World,(∀{base n k:Nat} {T:I4} {v:Value} {xs:List Value},w.heap.size+1+1<base->w1.ownsRow base T k v n xs->WF.ownsRow base T k v n xs)->cJ w.heap.size WF n' um ur us ug uw/\Own w.heap.size WF (J ta tk tc) l:=λWF how=>⟨⟨Own.mono (how (by omega) hown.ms) (by omega),cE.base (how (by omega) hown.rs) (by omega),Sv.Own.mono (how (by omega) hown.sv) (by omega),Gw.Own.mono (how (by omega) hown.gw) (by omega),Wh.Own.mono (how (by omega) hown.wh) (by omega)⟩,Own.mono (how (by omega) PZ) (by omega)⟩
   obtain⟨im2,jm2,nF,_⟩:=aA hown.ms;obtain⟨ir2,jr2,uR,_⟩:=aA hown.rs;obtain⟨is2,js2,tF,_⟩:=aA hown.sv;obtain⟨ig2,jg2,zt,_⟩:=aA hown.gw;obtain⟨ih2,jh2,EA,_⟩:=aA hown.wh;subst nF uR tF zt EA;exact⟨_,_,_,_,_,_,_,_,_,_,_,_,_,_,_,_,_,_,_,_,_,_,_,_,ta,tk,tc,rfl,rm,λWF hb how=>⟨hb,.inr ⟨aT,n',_,_,_,_,_,ta,tk,tc,l,rfl,hn',hT,(hf WF how).1,hY,(hf WF how).2⟩⟩⟩
 clear LZ;obtain⟨W5,iV,jz,-,mQ⟩:=bV w1 #[Y u0,Y u1,J b2 m2 e2,J b3 m3 e3,J b4 m4 e4,J b5 m5 e5,U O u6,U O u7,U O u8,U O u9,U O u10,J b11 m11 e11] 42;have iY:=(jz.block _ (by omega)).trans Gs.out;have hy5:=(jz.block _ (by omega)).trans HY1.out;have ht5:=(jz.block _ (by omega)).trans HT1.out;have HU:w1.heap.size<W5.heap.size:=by rw[iV];simp
 have gX:Hid _:=aY.out.trans (jz.mono aY.out.size);have VR:Hid _:=iY;have HY5:Hid _:=hy5;have Xi:Hid _:=jz;obtain⟨p0,p1,p2,p3,p4,p5,p6,p7,p8,p9,p10,p11⟩:=bu mQ;obtain⟨q0,q1,q2,q3,q4,q5,q6,q7,q8,q9,q10,q11⟩:=bu iY;obtain⟨vI,vJ,xa,xb,xc,xd,CV,CW,CX,CY,pA,pB⟩:=jS iY;obtain⟨r0,r1,r2,r3,r4,r5⟩:=fo hy5;obtain⟨rz0,rz1,rz2,rz3,rz4,rz5⟩:=Hz hy5;obtain⟨t0,t1,t2,t3,t4,t5⟩:=fo ht5;clear jz mQ iY hy5 ht5;have Ss:w.heap.size+1≠w1.heap.size:=by omega
 have Su:w.heap.size+2≠w1.heap.size:=by omega
 have Xj:w.heap.size+1≠w.heap.size+3:=by omega
 have Xk:w.heap.size+2≠w.heap.size+3:=by omega
 go_upto_region 3 with fail
 rw[<- iV];clear iV;go_region_held3 (λw'=>w'.cell? ⟨w1.heap.size,0,be⟩=AI (Y u0)/\w'.cell? ⟨w1.heap.size,1,be⟩=AI (Y u1)/\w'.cell? ⟨w1.heap.size,2,be⟩=AI (J b2 m2 e2)/\w'.cell? ⟨w1.heap.size,3,be⟩=AI (J b3 m3 e3)/\w'.cell? ⟨w1.heap.size,4,be⟩=AI (J b4 m4 e4)/\w'.cell? ⟨w1.heap.size,5,be⟩=AI (J b5 m5 e5)/\w'.cell? ⟨w1.heap.size,6,be⟩=AI (U O u6)/\w'.cell? ⟨w1.heap.size,7,be⟩=AI (U O u7)/\w'.cell? ⟨w1.heap.size,8,be⟩=AI (U O u8)/\w'.cell? ⟨w1.heap.size,9,be⟩=AI (U O u9)/\w'.cell? ⟨w1.heap.size,10,be⟩=AI (U O u10)/\w'.cell? ⟨w1.heap.size,11,be⟩=AI (J b11 m11 e11)/\w'.cell? ⟨w.heap.size+3,0,be⟩=AI (Y s0)/\w'.cell? ⟨w.heap.size+3,1,be⟩=AI (Ia false)/\w'.cell? ⟨w.heap.size+3,2,be⟩=AI (J ta tk tc)/\w'.cell? ⟨w.heap.size+3,3,be⟩=AI (J be 0 0)/\w'.cell? ⟨w.heap.size+3,4,be⟩=AI (J be 0 0)/\w'.cell? ⟨w.heap.size+3,5,be⟩=AI (J be 0 0)) (simp only[World.cell?_setCell_far,World.cell?_drew,ne_eq,Ss,Su,Xj,Xk,not_false_eq_true,p0,p1,p2,p3,p4,p5,p6,p7,p8,p9,p10,p11,t0,t1,t2,t3,t4,t5,and_self]) (fail)
 all_goals go_wp2_with fail
 all_goals
  clear q0 vI q1 vJ q2 xa q3 xb q4 xc q5 xd q6 CV q7 CW q8 CX q9 CY q10 pA q11 pB r0 rz0 r1 rz1 r2 rz2 r3 rz3 r4 rz4 r5 rz5 p0 p1 p2 p3 p4 p5 p6 p7 p8 p9 p10 p11 t0 t1 t2 t3 t4 t5;first
  |(obtain⟨WF,Tl⟩:∃WF,WF=World.drew ((((((((((((((((((W5.setCell ⟨w.heap.size+1,0,be⟩ (Y u0)).setCell ⟨w.heap.size+1,1,be⟩ (Y u1)).setCell ⟨w.heap.size+1,2,be⟩ (J b2 m2 e2)).setCell ⟨w.heap.size+1,3,be⟩ (J b3 m3 e3)).setCell ⟨w.heap.size+1,4,be⟩ (J b4 m4 e4)).setCell ⟨w.heap.size+1,5,be⟩ (J b5 m5 e5)).setCell ⟨w.heap.size+1,6,be⟩ (U O u6)).setCell ⟨w.heap.size+1,7,be⟩ (U O u7)).setCell ⟨w.heap.size+1,8,be⟩ (U O u8)).setCell ⟨w.heap.size+1,9,be⟩ (U O u9)).setCell ⟨w.heap.size+1,10,be⟩ (U O u10)).setCell ⟨w.heap.size+1,11,be⟩ (J b11 m11 e11)).setCell ⟨w.heap.size+1+1,0,be⟩ (Y s0)).setCell ⟨w.heap.size+1+1,1,be⟩ (Ia false)).setCell ⟨w.heap.size+1+1,2,be⟩ (J ta tk tc)).setCell ⟨w.heap.size+1+1,3,be⟩ (J be 0 0)).setCell ⟨w.heap.size+1+1,4,be⟩ (J be 0 0)).setCell ⟨w.heap.size+1+1,5,be⟩ (J be 0 0)):=⟨_,rfl⟩
    rw[<- Tl];have K7:WF=World.drew (aD (w.heap.size+1+1) [Y s0,Ia false,J ta tk tc,J be 0 0,J be 0 0,J be 0 0] 0 (aD (w.heap.size+1) [Y u0,Y u1,J b2 m2 e2,J b3 m3 e3,J b4 m4 e4,J b5 m5 e5,U O u6,U O u7,U O u8,U O u9,U O u10,J b11 m11 e11] 0 W5)):=by rw[Tl];simp only[aD,ID,Jg]
    clear Tl;have hz:WF.heap[w.heap.size+1]?=AI (By #[Y u0,Y u1,J b2 m2 e2,J b3 m3 e3,J b4 m4 e4,J b5 m5 e5,U O u6,U O u7,U O u8,U O u9,U O u10,J b11 m11 e11] 42 (0,0)):=by rw[K7];rw[dA,aV (by omega)];exact(kK VR.out _ _ _ _ _ _ _ _ _ _ _ _)
    have hy:WF.heap[w.heap.size+1+1]?=AI (By #[Y s0,Ia false,J ta tk tc,J be 0 0,J be 0 0,J be 0 0] 53 (0,0)):=by rw[K7];rw[dA];exact oX ((aV (by omega) _ _ _).trans HY5.out) _ _ _ _ _ _
    have rD:Hid (Below w.heap.size w WF):=by rw[K7];exact cA (aP (by omega) _ _ (aP (by omega) _ _ gX.out))
    have Bi:Hid (∀{base n k:Nat} {T:I4} {v:Value} {xs:List Value},w.heap.size+1+1<base->w1.ownsRow base T k v n xs->WF.ownsRow base T k v n xs):=λhbs h=>by rw[K7];exact vz (cz (by omega) _ _ (cz (by omega) _ _ (sM h Xi.out)))
    clear K7)
  |(obtain⟨WF,Tl⟩:∃WF,WF=World.drew ((((((((((((((((((W5.setCell ⟨w.heap.size+1+1,0,be⟩ (Y s0)).setCell ⟨w.heap.size+1+1,1,be⟩ (Ia false)).setCell ⟨w.heap.size+1+1,2,be⟩ (J ta tk tc)).setCell ⟨w.heap.size+1+1,3,be⟩ (J be 0 0)).setCell ⟨w.heap.size+1+1,4,be⟩ (J be 0 0)).setCell ⟨w.heap.size+1+1,5,be⟩ (J be 0 0)).setCell ⟨w.heap.size+1,0,be⟩ (Y u0)).setCell ⟨w.heap.size+1,1,be⟩ (Y u1)).setCell ⟨w.heap.size+1,2,be⟩ (J b2 m2 e2)).setCell ⟨w.heap.size+1,3,be⟩ (J b3 m3 e3)).setCell ⟨w.heap.size+1,4,be⟩ (J b4 m4 e4)).setCell ⟨w.heap.size+1,5,be⟩ (J b5 m5 e5)).setCell ⟨w.heap.size+1,6,be⟩ (U O u6)).setCell ⟨w.heap.size+1,7,be⟩ (U O u7)).setCell ⟨w.heap.size+1,8,be⟩ (U O u8)).setCell ⟨w.heap.size+1,9,be⟩ (U O u9)).setCell ⟨w.heap.size+1,10,be⟩ (U O u10)).setCell ⟨w.heap.size+1,11,be⟩ (J b11 m11 e11)):=⟨_,rfl⟩
    rw[<- Tl];have K7:WF=World.drew (aD (w.heap.size+1) [Y u0,Y u1,J b2 m2 e2,J b3 m3 e3,J b4 m4 e4,J b5 m5 e5,U O u6,U O u7,U O u8,U O u9,U O u10,J b11 m11 e11] 0 (aD (w.heap.size+1+1) [Y s0,Ia false,J ta tk tc,J be 0 0,J be 0 0,J be 0 0] 0 W5)):=by rw[Tl];simp only[aD,ID,Jg]
    clear Tl;have hz:WF.heap[w.heap.size+1]?=AI (By #[Y u0,Y u1,J b2 m2 e2,J b3 m3 e3,J b4 m4 e4,J b5 m5 e5,U O u6,U O u7,U O u8,U O u9,U O u10,J b11 m11 e11] 42 (0,0)):=by rw[K7];rw[dA];exact kK ((aV (by omega) _ _ _).trans VR.out) _ _ _ _ _ _ _ _ _ _ _ _
    have hy:WF.heap[w.heap.size+1+1]?=AI (By #[Y s0,Ia false,J ta tk tc,J be 0 0,J be 0 0,J be 0 0] 53 (0,0)):=by rw[K7];rw[dA,aV (by omega)];exact(oX HY5.out _ _ _ _ _ _)
    have rD:Hid (Below w.heap.size w WF):=by rw[K7];exact cA (aP (by omega) _ _ (aP (by omega) _ _ gX.out))
    have Bi:Hid (∀{base n k:Nat} {T:I4} {v:Value} {xs:List Value},w.heap.size+1+1<base->w1.ownsRow base T k v n xs->WF.ownsRow base T k v n xs):=λhbs h=>by rw[K7];exact vz (cz (by omega) _ _ (cz (by omega) _ _ (sM h Xi.out)))
    clear K7)
  obtain⟨q0,q1,q2,q3,q4,q5,q6,q7,q8,q9,q10,q11⟩:=bu hz;obtain⟨r0,r1,r2,r3,r4,r5⟩:=fo hy;exact IL (v:=Im #[Ik #[Y u0,Y u1,J b2 m2 e2,J b3 m3 e3,J b4 m4 e4,J b5 m5 e5,U O u6,U O u7,U O u8,U O u9,U O u10,J b11 m11 e11],Ik #[Y s0,Ia false,J ta tk tc,J be 0 0,J be 0 0,J be 0 0],U O r]) (by simp[results,Tryz.results18,go_sem,q0,q1,q2,q3,q4,q5,q6,q7,q8,q9,q10,q11,r0,r1,r2,r3,r4,r5]) rfl (tq.out _ rD.out Bi.out)
def bgA:Nd:=Gu ⟨#[97]⟩ ⟨#[99]⟩ 1 false
def Xl:Nd:=Gu ⟨#[98]⟩ ⟨#[99]⟩ 2 true
def bgP:Pk:=⟨⟨#[98]⟩,true,Xl.ms,Xl.sv,Xl.gw,Xl.wh⟩
def bg3:Nd:=rJ bgA bgP
def Ro:Nd:=zj bg3 ⟨#[98]⟩ 2
def Tm:Mem:=⟨⟨#[98]⟩,2,1,2,true⟩
theorem Xm:M5 ⟨#[97]⟩ ⟨#[99]⟩ 1=0:=by kernel_rfl
theorem Xn:M5 ⟨#[98]⟩ ⟨#[99]⟩ 2=0:=by kernel_rfl
theorem Xo:bgA.e=0:=by kernel_rfl
theorem Xp:Xl.e=0:=by kernel_rfl
theorem Xq:pJ bgA bgP=0:=by kernel_rfl
theorem Xr:bg3.e=0:=by kernel_rfl
theorem Xs:ts bg3 ⟨#[98]⟩ 1 2=0:=by kernel_rfl
theorem Xt:Ro.e=0:=by kernel_rfl
theorem Xu:Ro.ms.length=2:=by kernel_rfl
theorem Xv:Ro.rs=[⟨Tm,0⟩]:=by kernel_rfl
theorem NU{l:List Mem}{rest:List bK}(h:jT Ro l rest):l=[Tm]:=by
 obtain⟨told,ht,hp,_⟩:=h;rw[Xv] at ht;rcases ht with⟨h,_⟩|⟨_,ord,ho,rfl,_⟩
 .cases h
 .have h1:ord=[0]:=by
   have:=ho.perm;rw[show List.range [(⟨Tm,0⟩:bK)].length=[0] from rfl] at this;exact List.perm_singleton.1 this
  subst h1;have h2:gB [(⟨Tm,0⟩:bK)] [0] (min 5 [(⟨Tm,0⟩:bK)].length)=[Tm]:=by kernel_rfl
  rw[h2] at hp;exact List.perm_singleton.1 hp
def pT(B:Nat)(w:World)(n:Nd)(A:Array Value):Prop:=∃vm vr vs vg vw,A=dw n vm vr vs vg vw/\cJ B w n vm vr vs vg vw/\iq n
theorem pT.is{B:Nat}{w:World}{n:Nd}{A:Array Value}(h:pT B w n A):fO w n A:=by
 obtain⟨a,b,c,d,e,h1,h2,h3⟩:=h;exact⟨a,b,c,d,e,h1,h2.is h3⟩
theorem dx.ok{ne er:Int}{n':Nd}{w w':World}{e:OR}(h:dx ne er n' w e w')(h1:ne=0)(h2:er=0):∃A,e=AT (Im #[Ik A,U O 0])/\pT w.heap.size w' n' A/\Below w.heap.size w w':=by
 obtain⟨hb,⟨h3,_⟩|⟨_,h3,_⟩|⟨_,_,um,ur,us,ug,uw,rfl,ho,hk⟩⟩:=h
 .exact absurd h1 h3
 .exact absurd h2 h3
 .exact⟨_,rfl,⟨_,_,_,_,_,rfl,ho,hk⟩,hb⟩
def pkV(t0:ByteArray)(b1:Bool)(p2:Option Addr)(k2 c2:Nat)(p3:Option Addr)(k3 c3:Nat)(p4:Option Addr)(k4 c4:Nat)(p5:Option Addr)(k5 c5:Nat):Array Value:=
 #[Y t0,Ia b1,J p2 k2 c2,J p3 k3 c3,J p4 k4 c4,J p5 k5 c5]
def pU(w:World)(p:Pk)(A:Array Value):Prop:=∃vm vs vg vw,A=#[Y p.cT,Ia p.whole,vm,vs,vg,vw]/\jY w p vm vs vg vw
theorem pU.below{w w':World}{p:Pk}{A:Array Value}(h:pU w p A)(hb:Below w.heap.size w w'):pU w' p A:=by
 obtain⟨a,b,c,d,h1,h2⟩:=h;exact⟨a,b,c,d,h1,h2.below hb⟩
theorem pU.is{w:World}{p:Pk}{A:Array Value}(h:pU w p A):Sd w p A:=by
 obtain⟨a,b,c,d,h1,h2⟩:=h;exact⟨a,b,c,d,h1,h2.ms,h2.sv,h2.gw,h2.wh⟩
theorem Sd.letters{w:World}{p:Pk}{A:Array Value}(h:Sd w p A):∃t0 b1 p2 k2 c2 p3 k3 c3 p4 k4 c4 p5 k5 c5,A=pkV t0 b1 p2 k2 c2 p3 k3 c3 p4 k4 c4 p5 k5 c5:=by
 obtain⟨vm,vs,vg,vw,rfl,⟨pm,cm,rfl,_⟩,⟨ps,cs,rfl,_⟩,⟨pg,cg,rfl,_⟩,⟨pw,cw,rfl,_⟩⟩:=h;exact⟨_,_,_,_,_,_,_,_,_,_,_,_,_,_,rfl⟩
theorem Fw{base n k:Nat}{T:I4}{w:World}{v:Value}{xs:List Value}(h:w.ownsRow base T k v n xs):Roomy v:=by
 obtain⟨a,c,rfl,hn⟩:=aA h;exact hn
def Nd.pk(n:Nd):Pk:=⟨n.name,true,n.ms,n.sv,n.gw,n.wh⟩
theorem jD.ok{n:Nd}{ne:Int}{w w':World}{e:OR}(h:jD n ne w e w')(h1:ne=0)(hk:iq n):∃A,e=AT (Im #[Ik A,U O 0])/\pU w' n.pk A/\Below w.heap.size w w':=by
 obtain⟨hb,⟨h3,_⟩|⟨_,um,us,ug,uw,rfl,o1,o2,o3,o4⟩⟩:=h
 .exact absurd h1 h3
 .exact⟨_,rfl,⟨_,_,_,_,rfl,o1.sl (cy hk.ms),o2.sl (Sv.cy hk.sv),o3.sl (Gw.cy hk.gw),o4.sl (Wh.cy hk.wh),hk.name,Fw o1⟩,hb⟩
theorem fO.ok{w:World}{n:Nd}{A:Array Value}(h:fO w n A):iq n:=by
 obtain⟨_,_,_,_,_,_,h⟩:=h;exact h.ok
theorem K8{w:World}{n:Nd}{A:Array Value}(h:fO w n A):aF 23 #[Ik A] w λe w'=>jD n n.e w e w':=by
 obtain⟨_,_,_,_,_,rfl,h⟩:=h;exact vT n _ _ _ _ _ w h
theorem NV{w:World}{n:Nd}{p:Pk}{A P:Array Value}(h:fO w n A)(hp:pU w p P)(hlen:p.whole=true\/p.sv.length+p.gw.length+p.wh.length<=4611686018427387904):aF 24 #[Ik A,Ik P] w λe w'=>dx n.e (pJ n p) (rJ n p) w e w':=by
 obtain⟨_,_,_,_,_,rfl,h⟩:=h;obtain⟨_,_,_,_,rfl,hp⟩:=hp;exact tH n p _ _ _ _ _ _ _ _ _ w h hp hlen
theorem K9{w:World}{n:Nd}{A:Array Value}(h:fO w n A)(t:ByteArray)(ht:t.size<=maxLen):aF 25 #[Ik A,Y t] w λe w'=>dx n.e (ts n t 1 2) (zj n t 2) w e w':=by
 obtain⟨_,_,_,_,_,rfl,h⟩:=h;exact vS n t _ _ _ _ _ w h ht
theorem NW{w:World}{n:Nd}{A:Array Value}(h:fO w n A):aF 18 #[Ik A] w λe w'=>mU n n.e w e w':=by
 obtain⟨_,_,_,_,_,rfl,h⟩:=h;exact zO n _ _ _ _ _ w h
theorem mU.ok{n:Nd}{ne:Int}{w w':World}{e:OR}(h:mU n ne w e w')(h1:ne=0):∃A a k c l rest,e=AT (Im #[Ik A,Ik #[Y n.name,Ia false,J a k c,J be 0 0,J be 0 0,J be 0 0],U O 0])/\jT n l rest/\pT w.heap.size w' { n with rs:=rest } A/\Own w.heap.size w' (J a k c) l/\Below w.heap.size w w':=by
 obtain⟨hb,⟨h3,_⟩|⟨_,n',um,ur,us,ug,uw,a,k,c,l,rfl,hn,ht,ho,hk,hl⟩⟩:=h
 .exact absurd h1 h3
 .refine⟨_,a,k,c,l,n'.rs,rfl,ht,?_,hl,hb⟩
  rw[<- hn];exact⟨_,_,_,_,_,rfl,ho,hk⟩
theorem pT.aD{B:Nat}{w:World}{n:Nd}{A:Array Value}(h:pT B w n A){b:Nat}(hb:b<B)(L:List Value)(j:Nat):pT B (aD b L j w) n A:=by
 obtain⟨v1,v2,v3,v4,v5,h1,h2,h3⟩:=h;exact⟨v1,v2,v3,v4,v5,h1,⟨cz hb L j h2.ms,cz hb L j h2.rs,cz hb L j h2.sv,cz hb L j h2.gw,cz hb L j h2.wh⟩,h3⟩
theorem fO.len{w:World}{n:Nd}{A:Array Value}(h:fO w n A):∃p c,A[2]?=AI (J p n.ms.length c):=by
 obtain⟨vm,vr,vs,vg,vw,rfl,⟨pm,cm,rfl,_⟩,_⟩:=h;exact⟨pm,cm,rfl⟩
theorem one_le:(1:Nat)<=maxLen:=by decide
theorem vc(w:World):Calls Tryz.prog 7 #[] w λe w'=>e=AT (Ia true)/\Below w.heap.size w w':=by
 go_enter Tryz.func7,Tryz.ntmps7;go_wp2_with fail;refine(si ⟨#[97]⟩ ⟨#[99]⟩ 1 false w one_le one_le).mono ?_;intro e w1 h;obtain⟨A1,rfl,hA,aB⟩:=h.ok Xm rfl;obtain⟨Gz,NF,NG,AB,NH,NI,NJ,NK,NL,AD,NM,P6,Cg,P7,P8,P9,Ra,Rb,zI,xJ,xK,xL,rfl⟩:=hA.is.letters;simp only[P5] at hA ⊢;have Xw:Hid (fO _ _ _):=hA.is;have aY:Hid _:=aB;have cX:=aB.size;clear h hA aB;obtain⟨W1,cQ⟩:∃W1,W1=w1.alloc (By #[Y Gz,Y NF,J NG AB NH,J NI NJ NK,J NL AD NM,J P6 Cg P7,U O P8,U O P9,U O Ra,U O Rb,U O zI,J xJ xK xL] 42):=⟨_,rfl⟩;have ha1:Below w1.heap.size w1 W1:=by rw[cQ];exact(Ib _ _).alloc (Ic _) _
 have uJ:Hid (W1.heap[w1.heap.size]?=AI (By #[Y Gz,Y NF,J NG AB NH,J NI NJ NK,J NL AD NM,J P6 Cg P7,U O P8,U O P9,U O Ra,U O Rb,U O zI,J xJ xK xL] 42 (0,0))):=by rw[cQ];exact Ii w1 _
 have fh:W1.heap.size=w1.heap.size+1:=by rw[cQ];simp
 have Xx:Hid (fO _ _ _):=Xw.out.below ha1;have bp:Hid _:=aY.out.trans (ha1.mono cX);clear ha1 Xw;go_upto_region 2 with fail
 rw[<- cQ];clear cQ;go_wp2_with fail;refine(si ⟨#[98]⟩ ⟨#[99]⟩ 2 true W1 one_le one_le).mono ?_;intro e w2 h;obtain⟨A1,rfl,hA,aB⟩:=h.ok Xn rfl;obtain⟨Rc,NO,Ma,Du,KZ,NP,NQ,NR,Mb,Dv,K0,NT,Fs,Mc,Re,Rf,Rg,Rh,zJ,zK,zL,zM,rfl⟩:=hA.is.letters;simp only[P5] at hA ⊢;have LW:Hid (fO _ _ _):=hA.is;have Xy:Hid (fO _ _ _):=Xx.out.below aB;have cF:Hid _:=bp.out.trans (aB.mono (by omega));have ae0:Hid _:=(aB.block _ (by omega)).trans uJ.out;have ny:w1.heap.size<w2.heap.size:=by have:=aB.size;omega
 clear h hA aB Xx;obtain⟨W2,bL⟩:∃W2,W2=w2.alloc (By #[Y Rc,Y NO,J Ma Du KZ,J NP NQ NR,J Mb Dv K0,J NT Fs Mc,U O Re,U O Rf,U O Rg,U O Rh,U O zJ,J zK zL zM] 42):=⟨_,rfl⟩;have Xz:Below w2.heap.size w2 W2:=by rw[bL];exact(Ib _ _).alloc (Ic _) _
 have wC:Hid (W2.heap[w2.heap.size]?=AI (By #[Y Rc,Y NO,J Ma Du KZ,J NP NQ NR,J Mb Dv K0,J NT Fs Mc,U O Re,U O Rf,U O Rg,U O Rh,U O zJ,J zK zL zM] 42 (0,0))):=by rw[bL];exact Ii w2 _
 have iU:W2.heap.size=w2.heap.size+1:=by rw[bL];simp
 have XA:Hid (fO _ _ _):=Xy.out.below Xz;have T9:Hid (fO _ _ _):=LW.out.below Xz;have fE:Hid _:=cF.out.trans (Xz.mono (by omega));have ae1:Hid _:=(Xz.block _ ny).trans ae0.out;have hg:=wC.out;obtain⟨y0,y1,y2,y3,y4,y5,y6,y7,y8,y9,y10,y11⟩:=bu hg;clear Xz Xy LW hg;go_upto_region 3 with fail
 rw[<- bL];clear bL;go_wp2_with fail;refine(K8 T9.out).mono ?_;intro e w3 h;obtain⟨A1,rfl,hP,aB⟩:=h.ok Xp T9.out.ok;obtain⟨t0p,b1p,p2p,k2p,c2p,p3p,k3p,c3p,p4p,k4p,c4p,p5p,k5p,c5p,rfl⟩:=hP.is.letters;simp only[pkV] at hP ⊢;have lZ:Hid (pU _ _ _):=hP;have HA5:Hid (fO _ _ _):=XA.out.below aB;have gX:Hid _:=fE.out.trans (aB.mono (by omega));have ae2:Hid _:=(aB.block _ (by omega)).trans ae1.out;have qb:w1.heap.size<w3.heap.size:=by have:=aB.size;omega
 clear h hP aB XA T9 y0 y1 y2 y3 y4 y5 y6 y7 y8 y9 y10 y11;obtain⟨W3,ep⟩:∃W3,W3=w3.alloc (By #[Y t0p,Ia b1p,J p2p k2p c2p,J p3p k3p c3p,J p4p k4p c4p,J p5p k5p c5p] 53):=⟨_,rfl⟩;have R9:Below w3.heap.size w3 W3:=by rw[ep];exact(Ib _ _).alloc (Ic _) _
 have Sf:Hid (W3.heap[w3.heap.size]?=AI (By #[Y t0p,Ia b1p,J p2p k2p c2p,J p3p k3p c3p,J p4p k4p c4p,J p5p k5p c5p] 53 (0,0))):=by rw[ep];exact Ii w3 _
 have rI:W3.heap.size=w3.heap.size+1:=by rw[ep];simp
 have HA6:Hid (fO _ _ _):=HA5.out.below R9;have nZ:Hid (pU _ _ _):=lZ.out.below R9;have rD:Hid _:=gX.out.trans (R9.mono (by omega));have hg:=Sf.out;have cI:=(R9.block _ qb).trans ae2.out;have ae3:Hid _:=cI;obtain⟨y0,y1,y2,y3,y4,y5⟩:=fo hg;obtain⟨x0,x1,x2,x3,x4,x5,x6,x7,x8,x9,x10,x11⟩:=bu cI;clear R9 HA5 lZ hg cI;go_upto_region 4 with fail
 rw[<- ep];clear ep;go_wp2_with fail;refine(NV HA6.out nZ.out (.inl rfl)).mono ?_;intro e w4 h;obtain⟨A1,rfl,hA,aB⟩:=h.ok Xo Xq;obtain⟨t0c,t1c,p2c,k2c,c2c,p3c,k3c,c3c,p4c,k4c,c4c,p5c,k5c,c5c,i6c,i7c,i8c,i9c,NX,NY,NZ,N0,rfl⟩:=hA.is.letters;simp only[P5] at hA ⊢;have HA7:Hid (pT _ _ _ _):=hA;have DQ:Hid _:=rD.out.trans (aB.mono (by omega));have cI:=(aB.block _ (by omega)).trans ae3.out;have mj:=aB.size;clear h hA aB HA6 nZ y0 y1 y2 y3 y4 y5 x0 x1 x2 x3 x4 x5 x6 x7 x8 x9 x10 x11;obtain⟨x0,x1,x2,x3,x4,x5,x6,x7,x8,x9,x10,x11⟩:=bu cI;obtain⟨xz0,xz1,xz2,xz3,xz4,xz5,xz6,xz7,xz8,xz9,Tn,To⟩:=jS cI;obtain⟨W4,nL⟩:∃W4,W4=((((((((((((w4.setCell ⟨w1.heap.size,0,be⟩ (Y t0c)).setCell ⟨w1.heap.size,1,be⟩ (Y t1c)).setCell ⟨w1.heap.size,2,be⟩ (J p2c k2c c2c)).setCell ⟨w1.heap.size,3,be⟩ (J p3c k3c c3c)).setCell ⟨w1.heap.size,4,be⟩ (J p4c k4c c4c)).setCell ⟨w1.heap.size,5,be⟩ (J p5c k5c c5c)).setCell ⟨w1.heap.size,6,be⟩ (U O i6c)).setCell ⟨w1.heap.size,7,be⟩ (U O i7c)).setCell ⟨w1.heap.size,8,be⟩ (U O i8c)).setCell ⟨w1.heap.size,9,be⟩ (U O i9c)).setCell ⟨w1.heap.size,10,be⟩ (U O NX)).setCell ⟨w1.heap.size,11,be⟩ (J NY NZ N0)):=⟨_,rfl⟩;have XB:W4=aD w1.heap.size [Y t0c,Y t1c,J p2c k2c c2c,J p3c k3c c3c,J p4c k4c c4c,J p5c k5c c5c,U O i6c,U O i7c,U O i8c,U O i9c,U O NX,J NY NZ N0] 0 w4:=by rw[nL];simp only[aD,ID,Jg]
 have dS:W4.heap[w1.heap.size]?=AI (By #[Y t0c,Y t1c,J p2c k2c c2c,J p3c k3c c3c,J p4c k4c c4c,J p5c k5c c5c,U O i6c,U O i7c,U O i8c,U O i9c,U O NX,J NY NZ N0] 42 (0,0)):=by rw[XB];exact kK cI _ _ _ _ _ _ _ _ _ _ _ _
 have afd:Hid _:=dS;have HB8:Hid (Below w.heap.size w W4):=by rw[XB];exact aP cX _ _ DQ.out
 have HA8:Hid (fO W4 bg3 #[Y t0c,Y t1c,J p2c k2c c2c,J p3c k3c c3c,J p4c k4c c4c,J p5c k5c c5c,U O i6c,U O i7c,U O i8c,U O i9c,U O NX,J NY NZ N0]):=by rw[XB];exact(HA7.out.aD (by omega) _ _).is
 have D8:W4.heap.size=w4.heap.size:=by rw[XB];exact ff _ _ _ _
 obtain⟨u0,u1,u2,u3,u4,u5,u6,u7,u8,u9,u10,u11⟩:=bu dS;clear XB cI dS HA7;go_upto_region 5 with fail
 rw[<- nL];clear nL x0 xz0 x1 xz1 x2 xz2 x3 xz3 x4 xz4 x5 xz5 x6 xz6 x7 xz7 x8 xz8 x9 xz9 x10 Tn x11 To;go_wp2_with fail;refine(K9 HA8.out ⟨#[98]⟩ one_le).mono ?_;intro e w5 h;obtain⟨A1,rfl,hA,aB⟩:=h.ok Xr Xs;obtain⟨XC,XD,Tp,Tq,Tr,XE,XF,XG,XH,XI,XJ,XK,XL,XM,XN,XO,XP,XQ,La,Lb,Lc,Ld,rfl⟩:=hA.is.letters;simp only[P5] at hA ⊢;have HA9:Hid (pT W4.heap.size w5 Ro #[Y XC,Y XD,J Tp Tq Tr,J XE XF XG,J XH XI XJ,J XK XL XM,U O XN,U O XO,U O XP,U O XQ,U O La,J Lb Lc Ld]):=hA;have jd:Tq=2:=by
  obtain⟨p,c,hp⟩:=hA.is.len;have vC:AI (J Tp Tq Tr)=AI (J p Ro.ms.length c):=hp;rw[Xu] at vC;injection vC with vC;injection vC
 have VJ:Hid _:=HB8.out.trans (aB.mono (by omega));have cI:=(aB.block _ (by omega)).trans afd.out;have iY:=aB.size;clear h hA aB HA8 u0 u1 u2 u3 u4 u5 u6 u7 u8 u9 u10 u11;obtain⟨x0,x1,x2,x3,x4,x5,x6,x7,x8,x9,x10,x11⟩:=bu cI;obtain⟨xz0,xz1,xz2,xz3,xz4,xz5,xz6,xz7,xz8,xz9,Tn,To⟩:=jS cI;obtain⟨W5,iV⟩:∃W5,W5=((((((((((((w5.setCell ⟨w1.heap.size,0,be⟩ (Y XC)).setCell ⟨w1.heap.size,1,be⟩ (Y XD)).setCell ⟨w1.heap.size,2,be⟩ (J Tp Tq Tr)).setCell ⟨w1.heap.size,3,be⟩ (J XE XF XG)).setCell ⟨w1.heap.size,4,be⟩ (J XH XI XJ)).setCell ⟨w1.heap.size,5,be⟩ (J XK XL XM)).setCell ⟨w1.heap.size,6,be⟩ (U O XN)).setCell ⟨w1.heap.size,7,be⟩ (U O XO)).setCell ⟨w1.heap.size,8,be⟩ (U O XP)).setCell ⟨w1.heap.size,9,be⟩ (U O XQ)).setCell ⟨w1.heap.size,10,be⟩ (U O La)).setCell ⟨w1.heap.size,11,be⟩ (J Lb Lc Ld)):=⟨_,rfl⟩;have XR:W5=aD w1.heap.size [Y XC,Y XD,J Tp Tq Tr,J XE XF XG,J XH XI XJ,J XK XL XM,U O XN,U O XO,U O XP,U O XQ,U O La,J Lb Lc Ld] 0 w5:=by rw[iV];simp only[aD,ID,Jg]
 have dS:W5.heap[w1.heap.size]?=AI (By #[Y XC,Y XD,J Tp Tq Tr,J XE XF XG,J XH XI XJ,J XK XL XM,U O XN,U O XO,U O XP,U O XQ,U O La,J Lb Lc Ld] 42 (0,0)):=by rw[XR];exact kK cI _ _ _ _ _ _ _ _ _ _ _ _
 have afe:Hid _:=dS;have aff:Hid (Below w.heap.size w W5):=by rw[XR];exact aP cX _ _ VJ.out
 have XS:Hid (fO W5 Ro #[Y XC,Y XD,J Tp Tq Tr,J XE XF XG,J XH XI XJ,J XK XL XM,U O XN,U O XO,U O XP,U O XQ,U O La,J Lb Lc Ld]):=by rw[XR];exact(HA9.out.aD (by omega) _ _).is
 have HU:W5.heap.size=w5.heap.size:=by rw[XR];exact ff _ _ _ _
 obtain⟨u0,u1,u2,u3,u4,u5,u6,u7,u8,u9,u10,u11⟩:=bu dS;clear XR cI dS HA9;have jw:=jd;clear jd;have oQ:Hid _:=jw;clear jw;go_upto_region 6 with fail
 rw[<- iV];clear iV x0 xz0 x1 xz1 x2 xz2 x3 xz3 x4 xz4 x5 xz5 x6 xz6 x7 xz7 x8 xz8 x9 xz9 x10 Tn x11 To;go_wp2_with fail;refine(NW XS.out).mono ?_;intro e w6 h;obtain⟨A1,ta,tk,tc,l,rest,rfl,hT,hA,PZ,aB⟩:=h.ok Xt;obtain⟨t0e,t1e,p2e,k2e,c2e,p3e,k3e,c3e,p4e,k4e,c4e,p5e,k5e,c5e,i6e,i7e,i8e,i9e,XT,XU,XV,XW,rfl⟩:=hA.is.letters;simp only[P5] at hA ⊢;have hl:=NU hT;subst hl;have rK:w1.heap.size<w6.heap.size:=by have:=aB.size;omega
 have cI:=(aB.block _ (by omega)).trans afe.out;have XX:Hid _:=aff.out.trans (aB.mono (by omega));obtain⟨a,cap,hv,_,cO⟩:=PZ.sl (cy (by intro m hm;rw[List.mem_singleton.1 hm];exact one_le));injection hv with Ap PO yS;rcases cO with h0|⟨g,off,hp,aR,cO⟩
 .cases h0
 have hc:=(cO 0 (by simp)).2.1;have AA:w6.cell? ⟨g,off+1,be⟩=AI (U O 2):=by simpa[Tm] using hc
 have HC:Hid _:=AA;clear AA;subst Ap hp;have afg:=PO;subst afg;clear PO yS cO hc hT hA PZ h aB XS u0 u1 u2 u3 u4 u5 u6 u7 u8 u9 u10 u11;generalize Ro.name=qn at *;obtain⟨W6,uh⟩:∃W6,W6=(w6.alloc (By #[Y t0e,Y t1e,J p2e k2e c2e,J p3e k3e c3e,J p4e k4e c4e,J p5e k5e c5e,U O i6e,U O i7e,U O i8e,U O i9e,U O XT,J XU XV XW] 42)).alloc (By #[Y qn,Ia false,J (AI ⟨g,off,be⟩) 1 tc,J be 0 0,J be 0 0,J be 0 0] 53):=⟨_,rfl⟩;have Gk:Below w6.heap.size w6 W6:=by rw[uh];exact((Ib _ _).alloc (Ic _) _).alloc (by simp) _
 have hgq:W6.heap[w6.heap.size+1]?=AI (By #[Y qn,Ia false,J (AI ⟨g,off,be⟩) 1 tc,J be 0 0,J be 0 0,J be 0 0] 53 (0,0)):=by
  have h:=Ii (w6.alloc (By #[Y t0e,Y t1e,J p2e k2e c2e,J p3e k3e c3e,J p4e k4e c4e,J p5e k5e c5e,U O i6e,U O i7e,U O i8e,U O i9e,U O XT,J XU XV XW] 42)) (By #[Y qn,Ia false,J (AI ⟨g,off,be⟩) 1 tc,J be 0 0,J be 0 0,J be 0 0] 53);rw[uh];simpa using h
 have hgd:=(Gk.block _ rK).trans cI;have z1:W6.cell? ⟨w1.heap.size,2,be⟩=AI (J Tp 2 Tr):=(ae hgd 2).trans (by rw[oQ.out];rfl);have z2:=ae hgq 2;have z3:=(Gk.cell aR).trans HC.out;have afh:Hid _:=XX.out.trans (Gk.mono XX.out.size);clear Gk hgq hgd cI aR;go_upto_region 7 with fail
 rw[<- uh];clear uh;go_wp2_with fail;go_ret;exact⟨rfl,afh.out⟩
end Go.Proofs.YtfidhgjmifendaaGreatDoor
