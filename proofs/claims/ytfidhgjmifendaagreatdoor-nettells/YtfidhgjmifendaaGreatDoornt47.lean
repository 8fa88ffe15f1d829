import Derived.Test.YtfidhgjmifendaaGreatDoornt45
set_option maxHeartbeats 25600000
set_option maxRecDepth 100000
open Nat renaming le_trans→Iq,zero_add→IC,reduceAdd→Jh,le_refl→Ic
open Go.Obj renaming cells→AT
open Option renaming some→AI,none→be
open Go.RowKit.Below renaming heap_setCell→IX,refl→Ib
open Go renaming ownsRow_setCell_other→Iu,bodyPost_ret→IK,Ending→OT,TypeId→I4,heap_alloc_new→Ih
open Go.Joins renaming block_setCell→IB
open Go.Value renaming pointer→Ie,agg→Ij,string→Y,bool→Ia,slice→J,int→U,tuple→Ik
open Go.Ending renaming returned→By
open Array renaming getElem?_eq_some_iff→BY
open Go.RowKit renaming ownsRow_setCell_below→Ii
open Go.IntKind renaming i64→O
namespace Go.Proofs.YtfidhgjmifendaaGreatDoor
open Go.RowKit
theorem zQ{ms:List Mem}(h:ms.length<=20):(eC ms).length<=20:=by
 unfold eC;rw[List.length_map];exact Iq (List.length_filter_le _ _) h
theorem Wk.pk{L b c:Nat}{W:World}{n:Nd}(h:Wk L W b n)(hc:∃cs,W.heap[c]?=AI (AT cs 53 (0,0)))(i:Nat)(x:Value):Wk L (W.setCell ⟨c,i,be⟩ x) b n/\∃cs,(W.setCell ⟨c,i,be⟩ x).heap[c]?=AI (AT cs 53 (0,0)):=by
 obtain⟨cs,hc⟩:=hc;obtain⟨vm,vr,vs,vg,vw,h1,h2,h3,h4⟩:=h;have aM:b≠c:=by
  intro e;rw[e,hc] at h1;injection h1 with h1;injection h1 with _ h1;exact absurd h1 (by decide)
 exact⟨⟨vm,vr,vs,vg,vw,(IX W _ x b aM).trans h1,⟨Iu h2.ms (eL h2.ms hc (by decide)) _,Iu h2.rs (eL h2.rs hc (by decide)) _,Iu h2.sv (eL h2.sv hc (by decide)) _,Iu h2.gw (eL h2.gw hc (by decide)) _,Iu h2.wh (eL h2.wh hc (by decide)) _⟩,h3,h4⟩,_,IB (i:=i) hc x⟩
theorem Fu(L b:Nat)(n:Nd)(w:World)(h:Wk L w b n)(hL:L<=b)(vc:Sp n) :
 aF 31 #[Ie (AI ⟨b,0,be⟩)] w λe w'=>∃a k c l rest,e=By (Ij #[Y n.name,Ia false,J a k c,J be 0 0,J be 0 0,J be 0 0])/\Hid (jk n l rest)/\Own (w.heap.size+1) w' (J a k c) l/\Sh (λk=>k=b) w w'/\Wk L w' b { n with rs:=rest }:=by
 have pN:Hid (Wk L w b n):=h;have aN:=h.lt;have AA:Hid _:=vc;obtain⟨vm,vr,vs,vg,vw,h1,h2,h3,h4⟩:=h;have ml:Hid _:=h2.is h4;obtain⟨am,cm,nJ,_⟩:=aA h2.ms;obtain⟨ar,cr,uX,_⟩:=aA h2.rs;subst nJ uX;have Pf:=(af vc.ms).1;have DS:Hid _:=zQ Pf;have HX:Hid (∀W,Below w.heap.size w W->W.heap[b]?=AI (AT (dt n (J am n.ms.length cm) (J ar n.rs.length cr) vs vg vw) 90 (0,0))):=λW hW=>(hW.block _ aN).trans h1;have aez:Hid _:=h4.rs;obtain⟨W0,bJ,bM,eE,dh⟩:=bW w #[Y ⟨#[]⟩,Ia false,J be 0 0,J be 0 0,J be 0 0,J be 0 0] 53;have y2:=ae (HX.out W0 bM) 2;have da:Hid _:=bM;have nI:Hid _:=dh;clear h1 h2 h3 h4 vc;go_enter Tryz.func31,Tryz.ntmps31;go_upto_region 1 with fail
 rw[<- bJ];clear bJ;go_wp2_with fail;refine(Fb n.ms _ W0 (ml.out.ms.below da.out) AA.out.ms).mono ?_;rintro e w1 ⟨v1,rfl,zh,aB⟩;obtain⟨a1,c1,Av,_⟩:=aA zh.out;subst Av;have aV:Hid _:=aB;have iN:Hid _:=da.out.trans (aB.mono (by omega));clear zh aB y2 bM dh;have aeA:within ((eC n.ms).length:Int) 0 20=true:=Q2.2 ⟨by omega,by have:=DS.out;omega⟩;go_wp2_with fail;refine(D8 _ w1 aeA).mono ?_;rintro e w2 ⟨rfl,tn⟩;have PM:=tn.symm;subst PM;have y3:=ae (HX.out w1 iN.out) 3;go_wp2_with fail;have htm:within (TZ n) 1 100=true:=by
  have aN:∀m,m<21->Lib.bitLen m<=5:=by decide
  have h1:=aN (eC n.ms).length (by have:=DS.out;omega);refine Q2.2 ⟨?_,?_⟩<;>(unfold TZ;omega)
 refine(Fc n.rs _ (TZ n) w1 (ml.out.rs.below iN.out) AA.out.rs htm).mono ?_;rintro e w3 ⟨a3,k3,c3,a4,k4,c4,told,rest,rfl,HT,lh,Wd,bV⟩;have dY:Hid (Own _ _ _ _):=lh;have nH:Hid (cH _ _ _ _):=Wd;have cj:Hid _:=bV;have aeB:=bV.size;clear lh Wd bV y3;go_wp2_with fail;refine(E7 w1.heap.size told _ w3 dY.out aeB (by have:=tS HT.out;omega)).mono ?_;rintro e w4 ⟨rfl,l,hp,hs,Py,jB,Ki⟩;have uL:Hid (Own _ _ _ _):=Py;have HTL:Hid (jk n l rest):=⟨told,HT.out,hp,hs⟩;have gE:Hid _:=cj.out.trans jB;have xU:Hid _:=iN.out.trans (gE.out.mono iN.out.size);have yo:Hid (cH w1.heap.size w4 (J a4 k4 c4) rest):=by
  rcases nH.out.2 with hq|⟨g,c,cur,e1,e2,e3,e4⟩
  .exact⟨nH.out.1,.inl hq⟩
  .refine⟨nH.out.1,.inr ⟨g,c,cur,e1,e2,(Ki.block g (BY.1 e3).1 (λe=>?_)).trans e3,e4⟩⟩
   exact eL dY.out e3 (by decide) e
 have hL2:L<=w.heap.size:=by omega
 have fg:w.heap.size+1<=w1.heap.size:=by have:=aV.out.size;omega
 have mu:=(gE.out.block _ (by omega)).trans ((aV.out.block _ (by omega)).trans nI.out);have Pr:Hid _:=mu;have hx4:=HX.out w4 xU.out;have x0:=ae hx4 0;have x3:=ae hx4 3;have xz3:=an hx4 3;have hbs:b<w4.heap.size:=by have:=xU.out.size;omega
 have aM:b≠w.heap.size:=by omega
 have SE:w.heap.size≠b:=by omega
 have Xa:w.heap.size<w4.heap.size:=by have:=gE.out.size;omega
 obtain⟨q0,q1,q2,q3,q4,q5⟩:=fm mu;obtain⟨vK,vL,xc,xd,xe,xf⟩:=Hj mu;clear mu hx4 Py jB Ki hp hs;go_wp2_with fail;refine IK (v:=Ij #[Y n.name,Ia false,J a3 k3 c3,J be 0 0,J be 0 0,J be 0 0]) ?_ rfl ?_
 .simp[results,Tryz.results31,go_sem,q0,q1,q2,q3,q4,q5]
 .have k0:=pN.out.Ht hL2 xU.out (v:=J a4 k4 c4) (l:=rest) (yo.out.base (by omega)) (vZ HT.out aez.out).2
  have z0:∃cs,(w4.setCell ⟨b,3,be⟩ (J a4 k4 c4)).heap[w.heap.size]?=AI (AT cs 53 (0,0)):=⟨_,(IX w4 _ _ w.heap.size SE).trans Pr.out⟩;obtain⟨k1,z1⟩:=k0.pk z0 0 (Y n.name);obtain⟨k2,z2⟩:=k1.pk z1 1 (Ia false);obtain⟨k3',z3⟩:=k2.pk z2 2 (J a3 k3 c3);obtain⟨k4',z4⟩:=k3'.pk z3 3 (J be 0 0);obtain⟨k5,z5⟩:=k4'.pk z4 4 (J be 0 0);obtain⟨k6,z6⟩:=k5.pk z5 5 (J be 0 0);have rR:=(((((((Ib w.heap.size (w4.setCell ⟨b,3,be⟩ (J a4 k4 c4))).setCell (p:=⟨w.heap.size,0,be⟩) (by simp) (Y n.name)).setCell (p:=⟨w.heap.size,1,be⟩) (by simp) (Ia false)).setCell (p:=⟨w.heap.size,2,be⟩) (by simp) (J a3 k3 c3)).setCell (p:=⟨w.heap.size,3,be⟩) (by simp) (J be 0 0)).setCell (p:=⟨w.heap.size,4,be⟩) (by simp) (J be 0 0)).setCell (p:=⟨w.heap.size,5,be⟩) (by simp) (J be 0 0));have s0:Sh (λk=>k=b) w (w4.setCell ⟨b,3,be⟩ (J a4 k4 c4)):=Sh.setCell (S:=λk=>k=b) (Sh.of xU.out) (b:=b) (i:=3) rfl _;refine⟨a3,k3,c3,l,rest,rfl,HTL,?_,⟨rR.os.trans s0.os,rR.tape.trans s0.tape,rR.output.trans s0.output,Iq s0.size rR.size,λi hi hn=>(rR.block i hi).trans (s0.block i hi hn)⟩,k6⟩;exact(Ii (Ii (Ii (Ii (Ii (Ii (Ii (uL.out.mono fg) (a:=⟨b,3,be⟩) (by simp only;omega) _) (a:=⟨w.heap.size,0,be⟩) (by simp only;omega) _) (a:=⟨w.heap.size,1,be⟩) (by simp only;omega) _) (a:=⟨w.heap.size,2,be⟩) (by simp only;omega) _) (a:=⟨w.heap.size,3,be⟩) (by simp only;omega) _) (a:=⟨w.heap.size,4,be⟩) (by simp only;omega) _) (a:=⟨w.heap.size,5,be⟩) (by simp only;omega) _)
theorem Fv(L b tb:Nat)(n:Nd)(w:World)(h:Wk L w b n)(hL:L<=b)(vc:Sp n)(hc:w.heap[tb]?=AI (AT #[Y ⟨#[]⟩,Ia false,J be 0 0,J be 0 0,J be 0 0,J be 0 0] 53 (0,0))) :
 aF 30 #[Ie (AI ⟨b,0,be⟩),Ie (AI ⟨tb,0,be⟩)] w λe w'=>e=By (U O 0)/\Sh (λk=>k=b\/k=tb) w w'/\∃a k c l rest,Hid (jk n l rest)/\w'.heap[tb]?=AI (AT #[Y n.name,Ia false,J a k c,J be 0 0,J be 0 0,J be 0 0] 53 (0,0))/\Own (w.heap.size+1) w' (J a k c) l/\Wk L w' b { n with rs:=rest }:=by
 have HC:=Fu L b n w h hL vc;have RN:=(BY.1 hc).1;have aM:tb≠b:=by
  intro e;obtain⟨_,_,_,_,_,h1,_⟩:=h;rw[<- e,hc] at h1;injection h1 with h1;injection h1 with _ h1;exact absurd h1 (by decide)
 have HCB:Hid _:=hc;clear h vc hc;go_enter Tryz.func30,Tryz.ntmps30;go_wp2_with fail;refine HC.mono ?_;rintro e w1 ⟨a,k,c,l,rest,rfl,HT,ho,hs,hk⟩;have cZ:=(hs.block _ RN aM).trans HCB.out;have Gi:Hid _:=cZ;have HO:Hid (Own _ _ _ _):=ho;have xu:Hid _:=hs;have HK:Hid (Wk _ _ _ _):=hk;have BM:=(BY.1 cZ).1;obtain⟨q0,q1,q2,q3,q4,q5⟩:=fm cZ;obtain⟨vK,vL,xc,xd,xe,xf⟩:=Hj cZ;clear cZ ho hs hk HC;go_wp2_with fail;go_ret;have g0:=HK.out;have z0:∃cs,w1.heap[tb]?=AI (AT cs 53 (0,0)):=⟨_,Gi.out⟩;obtain⟨g1,z1⟩:=g0.pk z0 0 (Y n.name);obtain⟨g2,z2⟩:=g1.pk z1 1 (Ia false);obtain⟨g3,z3⟩:=g2.pk z2 2 (J a k c);obtain⟨g4,z4⟩:=g3.pk z3 3 (J be 0 0);obtain⟨g5,z5⟩:=g4.pk z4 4 (J be 0 0);obtain⟨g6,z6⟩:=g5.pk z5 5 (J be 0 0);exact⟨rfl,(Sh.setCell (S:=λk=>k=b\/k=tb) (Sh.setCell (S:=λk=>k=b\/k=tb) (Sh.setCell (S:=λk=>k=b\/k=tb) (Sh.setCell (S:=λk=>k=b\/k=tb) (Sh.setCell (S:=λk=>k=b\/k=tb) (Sh.setCell (S:=λk=>k=b\/k=tb) (xu.out.mono (λk hk=>.inl hk)) (b:=tb) (i:=0) (.inr rfl) (Y n.name)) (b:=tb) (i:=1) (.inr rfl) (Ia false)) (b:=tb) (i:=2) (.inr rfl) (J a k c)) (b:=tb) (i:=3) (.inr rfl) (J be 0 0)) (b:=tb) (i:=4) (.inr rfl) (J be 0 0)) (b:=tb) (i:=5) (.inr rfl) (J be 0 0)),a,k,c,l,rest,HT,(IB (i:=5) (IB (i:=4) (IB (i:=3) (IB (i:=2) (IB (i:=1) (IB (i:=0) Gi.out (Y n.name)) (Ia false)) (J a k c)) (J be 0 0)) (J be 0 0)) (J be 0 0)),(Ii ((Ii ((Ii ((Ii ((Ii ((Ii (HO.out) (a:=⟨tb,0,be⟩) (by simp only;omega) (Y n.name))) (a:=⟨tb,1,be⟩) (by simp only;omega) (Ia false))) (a:=⟨tb,2,be⟩) (by simp only;omega) (J a k c))) (a:=⟨tb,3,be⟩) (by simp only;omega) (J be 0 0))) (a:=⟨tb,4,be⟩) (by simp only;omega) (J be 0 0))) (a:=⟨tb,5,be⟩) (by simp only;omega) (J be 0 0)),g6⟩
def mZ(n:Nd)(ne:Int)(w:World)(e:OT)(w':World):Prop:=Below w.heap.size w w' /\
 ((ne≠0/\e=By (Ik #[Ij #[Y ⟨#[]⟩,Y ⟨#[]⟩,J be 0 0,J be 0 0,J be 0 0,J be 0 0,U O 0,U O 0,U O 0,U O 0,U O 0,J be 0 0],Ij #[Y ⟨#[]⟩,Ia false,J be 0 0,J be 0 0,J be 0 0,J be 0 0],U O ne])) \/
 (ne=0/\∃n' um ur us ug uw a k c l,e=By (Ik #[Ij (dt n' um ur us ug uw),Ij #[Y n.name,Ia false,J a k c,J be 0 0,J be 0 0,J be 0 0],U O 0])/\n'={ n with rs:=n'.rs }/\jk n l n'.rs/\cL w.heap.size w' n' um ur us ug uw/\il n'/\Own w.heap.size w' (J a k c) l))
def Dw(n:Nd)(tb B:Nat)(n':Nd)(W:World):Prop:=∃a k c l,n'={ n with rs:=n'.rs }/\jk n l n'.rs/\W.heap[tb]?=AI (AT #[Y n.name,Ia false,J a k c,J be 0 0,J be 0 0,J be 0 0] 53 (0,0))/\Own B W (J a k c) l
theorem zS(n:Nd)(vm vr vs vg vw:Value)(w:World)(h:eS w n vm vr vs vg vw) :
 aF 18 #[Ij (dt n vm vr vs vg vw)] w λe w'=>mZ n n.e w e w':=by
 have ml:Hid _:=h;have lR:Hid (∀W0,Below w.heap.size w W0->W0.heap.size=w.heap.size+4->W0.heap[w.heap.size+3]?=AI (AT #[Y ⟨#[]⟩,Ia false,J be 0 0,J be 0 0,J be 0 0,J be 0 0] 53 (0,0))->aF 29 #[Ij (dt n vm vr vs vg vw),.func (.func 30) #[] #[Ie (AI ⟨w.heap.size+3,0,be⟩)]] W0 λe w'=>kV n.e 0 (λk=>k=w.heap.size+3) (Dw n (w.heap.size+3) (W0.heap.size+2)) W0 e w'):=λW0 hb hs hc=>
  vT 30 #[Ie (AI ⟨w.heap.size+3,0,be⟩)] (enters_of Tryz.func30 (by kernel_rfl) rfl) n vm vr vs vg vw W0 (h.below hb) (λk=>k=w.heap.size+3) 0 (Dw n (w.heap.size+3) (W0.heap.size+2))
   (λhe W b hW aJ hk=>by
    refine(Fv (W0.heap.size+2) b (w.heap.size+3) n W hk (by omega) (Nd.sp he) ((hW.block _ (by omega)).trans hc)).mono ?_;rintro e w' ⟨rfl,gY,a,k,c,l,rest,HT,ru,ho,C8⟩;have rj:=hk.lt;exact⟨rfl,gY.mono (λk hk=>by omega),λ_=>⟨_,C8,a,k,c,l,rfl,HT.out,ru,ho.mono (by omega)⟩⟩)
   (λn' W j x hR=>by
    obtain⟨a,k,c,l,h1,h2,h3,h4⟩:=hR;exact⟨a,k,c,l,h1,h2,(IX _ _ _ _ (by simp only;omega)).trans h3,Ii h4 (by simp only;omega) _⟩)
   (λ_ hk=>by omega)
 have MD:Hid (∀nd:Nd,nd=n->nd.name=n.name):=λ_ h=>by rw[h]
 generalize DT:n.e=ne at *;clear DT;have HN:Hid (∃n0,n0=n):=⟨_,rfl⟩;obtain⟨N,hN⟩:∃N,N=n:=⟨_,rfl⟩;rw[<- hN] at lR ⊢;have Su:Hid (N.name=n.name):=by rw[hN];rfl
 obtain⟨nm,ct,ms,rs,sv,gw,⟨px,py,pz,ph,pq⟩,wh⟩:=n;obtain⟨⟨em,cm,rfl,_,_⟩,⟨qL,cr,rfl,_,_⟩,⟨es,qM,rfl,_,_⟩,⟨qN,cg,rfl,_,_⟩,⟨eh,ch,rfl,_,_⟩,_,_⟩:=h;have hA:dt N (J em ms.length cm) (J qL rs.length cr) (J es sv.length qM) (J qN gw.length cg) (J eh wh.length ch)=#[Y nm,Y ct,J em ms.length cm,J qL rs.length cr,J es sv.length qM,J qN gw.length cg,U O px,U O py,U O pz,U O ph,U O pq,J eh wh.length ch]:=by rw[hN]
 simp only[hA] at lR ⊢;clear hA hN HN MD;simp only at Su;generalize ms.length=km at *;generalize rs.length=kr at *;generalize sv.length=ks at *;generalize gw.length=kg at *;generalize wh.length=kh at *;obtain⟨W0,bJ,bM,eE,vz,dh,hy0,ht0⟩:=Rr w #[Y nm,Y ct,J em km cm,J qL kr cr,J es ks qM,J qN kg cg,U O px,U O py,U O pz,U O ph,U O pq,J eh kh ch] #[Y ⟨#[]⟩,Y ⟨#[]⟩,J be 0 0,J be 0 0,J be 0 0,J be 0 0,U O 0,U O 0,U O 0,U O 0,U O 0,J be 0 0] #[Y ⟨#[]⟩,Ia false,J be 0 0,J be 0 0,J be 0 0,J be 0 0] #[Y ⟨#[]⟩,Ia false,J be 0 0,J be 0 0,J be 0 0,J be 0 0] 42 42 53 53;have rz:=lR.out W0 bM eE ht0;have da:Hid _:=bM;have nI:Hid _:=dh;have HY0:Hid _:=hy0;have HT0:Hid _:=ht0;clear bM dh hy0 ht0 vz lR;go_enter Tryz.func18,Tryz.ntmps18;go_wp2_with fail;rw[<- bJ];refine rz.mono ?_;rintro e w1 ⟨Aq,LI⟩;have fg:w.heap.size+4<=w1.heap.size:=by have:=Aq.size;omega
 have aV:Hid _:=da.out.trans (Aq.below (by omega) (λk hk=>by omega));have Gi:Hid _:=(Aq.block _ (by omega) (by omega)).trans nI.out;have HY1:Hid _:=(Aq.block _ (by omega) (by omega)).trans HY0.out;clear Aq rz bJ;obtain⟨u0,u1,b2,m2,e2,b3,m3,e3,b4,m4,e4,b5,m5,e5,u6,u7,u8,u9,u10,b11,m11,e11,r,s0,ta,tk,tc,rfl,HT1,qG⟩:∃u0 u1 b2 m2 e2 b3 m3 e3 b4 m4 e4 b5 m5 e5 u6 u7 u8 u9 u10 b11 m11 e11 r s0 ta tk tc,e=By (Ik #[Ij #[Y u0,Y u1,J b2 m2 e2,J b3 m3 e3,J b4 m4 e4,J b5 m5 e5,U O u6,U O u7,U O u8,U O u9,U O u10,J b11 m11 e11],U O r])/\Hid (w1.heap[w.heap.size+3]?=AI (AT #[Y s0,Ia false,J ta tk tc,J be 0 0,J be 0 0,J be 0 0] 53 (0,0)))/\Hid (∀WF:World,Below w.heap.size w WF->(∀{base n k:Nat} {T:I4} {v:Value} {xs:List Value},w.heap.size+1+1<base->w1.ownsRow base T k v n xs->WF.ownsRow base T k v n xs)->mZ N ne w (By (Ik #[Ij #[Y u0,Y u1,J b2 m2 e2,J b3 m3 e3,J b4 m4 e4,J b5 m5 e5,U O u6,U O u7,U O u8,U O u9,U O u10,J b11 m11 e11],Ij #[Y s0,Ia false,J ta tk tc,J be 0 0,J be 0 0,J be 0 0],U O r])) WF):=by
  rcases LI with⟨aM,AD,rfl⟩|⟨_,Di,_⟩|⟨aM,_,n',um,ur,us,ug,uw,rfl,hown,hU,ta,tk,tc,l,hn',hT,ru,PS⟩
  .exact⟨_,_,_,_,_,_,_,_,_,_,_,_,_,_,_,_,_,_,_,_,_,_,_,_,_,_,_,rfl,(AD.block _ (by omega)).trans HT0.out,λWF hb _=>⟨hb,.inl ⟨aM,rfl⟩⟩⟩
  .exact absurd rfl Di
  .have hf:∀WF:World,(∀{base n k:Nat} {T:I4} {v:Value} {xs:List Value},w.heap.size+1+1<base->w1.ownsRow base T k v n xs->WF.ownsRow base T k v n xs)->cL w.heap.size WF n' um ur us ug uw/\Own w.heap.size WF (J ta tk tc) l:=λWF how=>⟨⟨Own.mono (how (by omega) hown.ms) (by omega),cH.base (how (by omega) hown.rs) (by omega),Sv.Own.mono (how (by omega) hown.sv) (by omega),Gw.Own.mono (how (by omega) hown.gw) (by omega),Wh.Own.mono (how (by omega) hown.wh) (by omega)⟩,Own.mono (how (by omega) PS) (by omega)⟩
   obtain⟨im2,jm2,nJ,_⟩:=aA hown.ms;obtain⟨ir2,jr2,uX,_⟩:=aA hown.rs;obtain⟨is2,js2,tK,_⟩:=aA hown.sv;obtain⟨ig2,jg2,zC,_⟩:=aA hown.gw;obtain⟨ih2,jh2,Ez,_⟩:=aA hown.wh;subst nJ uX tK zC Ez;exact⟨_,_,_,_,_,_,_,_,_,_,_,_,_,_,_,_,_,_,_,_,_,_,_,_,ta,tk,tc,rfl,ru,λWF hb how=>⟨hb,.inr ⟨aM,n',_,_,_,_,_,ta,tk,tc,l,rfl,hn',hT,(hf WF how).1,hU,(hf WF how).2⟩⟩⟩
 clear LI;obtain⟨W5,iZ,jB,-,mT⟩:=bW w1 #[Y u0,Y u1,J b2 m2 e2,J b3 m3 e3,J b4 m4 e4,J b5 m5 e5,U O u6,U O u7,U O u8,U O u9,U O u10,J b11 m11 e11] 42;have jc:=(jB.block _ (by omega)).trans Gi.out;have hy5:=(jB.block _ (by omega)).trans HY1.out;have ht5:=(jB.block _ (by omega)).trans HT1.out;have Hl:w1.heap.size<W5.heap.size:=by rw[iZ];simp
 have gE:Hid _:=aV.out.trans (jB.mono aV.out.size);have VO:Hid _:=jc;have HY5:Hid _:=hy5;have Xb:Hid _:=jB;obtain⟨p0,p1,p2,p3,p4,p5,p6,p7,p8,p9,p10,p11⟩:=bA mT;obtain⟨q0,q1,q2,q3,q4,q5,q6,q7,q8,q9,q10,q11⟩:=bA jc;obtain⟨vK,vL,xc,xd,xe,xf,CV,CW,CX,CY,pG,pH⟩:=jT jc;obtain⟨r0,r1,r2,r3,r4,r5⟩:=fm hy5;obtain⟨rz0,rz1,rz2,rz3,rz4,rz5⟩:=Hj hy5;obtain⟨t0,t1,t2,t3,t4,t5⟩:=fm ht5;clear jB mT jc hy5 ht5;have RT:w.heap.size+1≠w1.heap.size:=by omega
 have RU:w.heap.size+2≠w1.heap.size:=by omega
 have Xc:w.heap.size+1≠w.heap.size+3:=by omega
 have Xd:w.heap.size+2≠w.heap.size+3:=by omega
 go_upto_region 3 with fail
 rw[<- iZ];clear iZ;go_region_held3 (λw'=>w'.cell? ⟨w1.heap.size,0,be⟩=AI (Y u0)/\w'.cell? ⟨w1.heap.size,1,be⟩=AI (Y u1)/\w'.cell? ⟨w1.heap.size,2,be⟩=AI (J b2 m2 e2)/\w'.cell? ⟨w1.heap.size,3,be⟩=AI (J b3 m3 e3)/\w'.cell? ⟨w1.heap.size,4,be⟩=AI (J b4 m4 e4)/\w'.cell? ⟨w1.heap.size,5,be⟩=AI (J b5 m5 e5)/\w'.cell? ⟨w1.heap.size,6,be⟩=AI (U O u6)/\w'.cell? ⟨w1.heap.size,7,be⟩=AI (U O u7)/\w'.cell? ⟨w1.heap.size,8,be⟩=AI (U O u8)/\w'.cell? ⟨w1.heap.size,9,be⟩=AI (U O u9)/\w'.cell? ⟨w1.heap.size,10,be⟩=AI (U O u10)/\w'.cell? ⟨w1.heap.size,11,be⟩=AI (J b11 m11 e11)/\w'.cell? ⟨w.heap.size+3,0,be⟩=AI (Y s0)/\w'.cell? ⟨w.heap.size+3,1,be⟩=AI (Ia false)/\w'.cell? ⟨w.heap.size+3,2,be⟩=AI (J ta tk tc)/\w'.cell? ⟨w.heap.size+3,3,be⟩=AI (J be 0 0)/\w'.cell? ⟨w.heap.size+3,4,be⟩=AI (J be 0 0)/\w'.cell? ⟨w.heap.size+3,5,be⟩=AI (J be 0 0)) (simp only[World.cell?_setCell_far,World.cell?_drew,ne_eq,RT,RU,Xc,Xd,not_false_eq_true,p0,p1,p2,p3,p4,p5,p6,p7,p8,p9,p10,p11,t0,t1,t2,t3,t4,t5,and_self]) (fail)
 all_goals go_wp2_with fail
 all_goals
  clear q0 vK q1 vL q2 xc q3 xd q4 xe q5 xf q6 CV q7 CW q8 CX q9 CY q10 pG q11 pH r0 rz0 r1 rz1 r2 rz2 r3 rz3 r4 rz4 r5 rz5 p0 p1 p2 p3 p4 p5 p6 p7 p8 p9 p10 p11 t0 t1 t2 t3 t4 t5;first
  |(obtain⟨WF,SU⟩:∃WF,WF=World.drew ((((((((((((((((((W5.setCell ⟨w.heap.size+1,0,be⟩ (Y u0)).setCell ⟨w.heap.size+1,1,be⟩ (Y u1)).setCell ⟨w.heap.size+1,2,be⟩ (J b2 m2 e2)).setCell ⟨w.heap.size+1,3,be⟩ (J b3 m3 e3)).setCell ⟨w.heap.size+1,4,be⟩ (J b4 m4 e4)).setCell ⟨w.heap.size+1,5,be⟩ (J b5 m5 e5)).setCell ⟨w.heap.size+1,6,be⟩ (U O u6)).setCell ⟨w.heap.size+1,7,be⟩ (U O u7)).setCell ⟨w.heap.size+1,8,be⟩ (U O u8)).setCell ⟨w.heap.size+1,9,be⟩ (U O u9)).setCell ⟨w.heap.size+1,10,be⟩ (U O u10)).setCell ⟨w.heap.size+1,11,be⟩ (J b11 m11 e11)).setCell ⟨w.heap.size+1+1,0,be⟩ (Y s0)).setCell ⟨w.heap.size+1+1,1,be⟩ (Ia false)).setCell ⟨w.heap.size+1+1,2,be⟩ (J ta tk tc)).setCell ⟨w.heap.size+1+1,3,be⟩ (J be 0 0)).setCell ⟨w.heap.size+1+1,4,be⟩ (J be 0 0)).setCell ⟨w.heap.size+1+1,5,be⟩ (J be 0 0)):=⟨_,rfl⟩
    rw[<- SU];have KT:WF=World.drew (aC (w.heap.size+1+1) [Y s0,Ia false,J ta tk tc,J be 0 0,J be 0 0,J be 0 0] 0 (aC (w.heap.size+1) [Y u0,Y u1,J b2 m2 e2,J b3 m3 e3,J b4 m4 e4,J b5 m5 e5,U O u6,U O u7,U O u8,U O u9,U O u10,J b11 m11 e11] 0 W5)):=by rw[SU];simp only[aC,IC,Jh]
    clear SU;have hz:WF.heap[w.heap.size+1]?=AI (AT #[Y u0,Y u1,J b2 m2 e2,J b3 m3 e3,J b4 m4 e4,J b5 m5 e5,U O u6,U O u7,U O u8,U O u9,U O u10,J b11 m11 e11] 42 (0,0)):=by rw[KT];rw[dB,aX (by omega)];exact(kO VO.out _ _ _ _ _ _ _ _ _ _ _ _)
    have hy:WF.heap[w.heap.size+1+1]?=AI (AT #[Y s0,Ia false,J ta tk tc,J be 0 0,J be 0 0,J be 0 0] 53 (0,0)):=by rw[KT];rw[dB];exact o6 ((aX (by omega) _ _ _).trans HY5.out) _ _ _ _ _ _
    have rK:Hid (Below w.heap.size w WF):=by rw[KT];exact cD (aQ (by omega) _ _ (aQ (by omega) _ _ gE.out))
    have Bi:Hid (∀{base n k:Nat} {T:I4} {v:Value} {xs:List Value},w.heap.size+1+1<base->w1.ownsRow base T k v n xs->WF.ownsRow base T k v n xs):=λhbs h=>by rw[KT];exact vC (cC (by omega) _ _ (cC (by omega) _ _ (sM h Xb.out)))
    clear KT)
  |(obtain⟨WF,SU⟩:∃WF,WF=World.drew ((((((((((((((((((W5.setCell ⟨w.heap.size+1+1,0,be⟩ (Y s0)).setCell ⟨w.heap.size+1+1,1,be⟩ (Ia false)).setCell ⟨w.heap.size+1+1,2,be⟩ (J ta tk tc)).setCell ⟨w.heap.size+1+1,3,be⟩ (J be 0 0)).setCell ⟨w.heap.size+1+1,4,be⟩ (J be 0 0)).setCell ⟨w.heap.size+1+1,5,be⟩ (J be 0 0)).setCell ⟨w.heap.size+1,0,be⟩ (Y u0)).setCell ⟨w.heap.size+1,1,be⟩ (Y u1)).setCell ⟨w.heap.size+1,2,be⟩ (J b2 m2 e2)).setCell ⟨w.heap.size+1,3,be⟩ (J b3 m3 e3)).setCell ⟨w.heap.size+1,4,be⟩ (J b4 m4 e4)).setCell ⟨w.heap.size+1,5,be⟩ (J b5 m5 e5)).setCell ⟨w.heap.size+1,6,be⟩ (U O u6)).setCell ⟨w.heap.size+1,7,be⟩ (U O u7)).setCell ⟨w.heap.size+1,8,be⟩ (U O u8)).setCell ⟨w.heap.size+1,9,be⟩ (U O u9)).setCell ⟨w.heap.size+1,10,be⟩ (U O u10)).setCell ⟨w.heap.size+1,11,be⟩ (J b11 m11 e11)):=⟨_,rfl⟩
    rw[<- SU];have KT:WF=World.drew (aC (w.heap.size+1) [Y u0,Y u1,J b2 m2 e2,J b3 m3 e3,J b4 m4 e4,J b5 m5 e5,U O u6,U O u7,U O u8,U O u9,U O u10,J b11 m11 e11] 0 (aC (w.heap.size+1+1) [Y s0,Ia false,J ta tk tc,J be 0 0,J be 0 0,J be 0 0] 0 W5)):=by rw[SU];simp only[aC,IC,Jh]
    clear SU;have hz:WF.heap[w.heap.size+1]?=AI (AT #[Y u0,Y u1,J b2 m2 e2,J b3 m3 e3,J b4 m4 e4,J b5 m5 e5,U O u6,U O u7,U O u8,U O u9,U O u10,J b11 m11 e11] 42 (0,0)):=by rw[KT];rw[dB];exact kO ((aX (by omega) _ _ _).trans VO.out) _ _ _ _ _ _ _ _ _ _ _ _
    have hy:WF.heap[w.heap.size+1+1]?=AI (AT #[Y s0,Ia false,J ta tk tc,J be 0 0,J be 0 0,J be 0 0] 53 (0,0)):=by rw[KT];rw[dB,aX (by omega)];exact(o6 HY5.out _ _ _ _ _ _)
    have rK:Hid (Below w.heap.size w WF):=by rw[KT];exact cD (aQ (by omega) _ _ (aQ (by omega) _ _ gE.out))
    have Bi:Hid (∀{base n k:Nat} {T:I4} {v:Value} {xs:List Value},w.heap.size+1+1<base->w1.ownsRow base T k v n xs->WF.ownsRow base T k v n xs):=λhbs h=>by rw[KT];exact vC (cC (by omega) _ _ (cC (by omega) _ _ (sM h Xb.out)))
    clear KT)
  obtain⟨q0,q1,q2,q3,q4,q5,q6,q7,q8,q9,q10,q11⟩:=bA hz;obtain⟨r0,r1,r2,r3,r4,r5⟩:=fm hy;exact IK (v:=Ik #[Ij #[Y u0,Y u1,J b2 m2 e2,J b3 m3 e3,J b4 m4 e4,J b5 m5 e5,U O u6,U O u7,U O u8,U O u9,U O u10,J b11 m11 e11],Ij #[Y s0,Ia false,J ta tk tc,J be 0 0,J be 0 0,J be 0 0],U O r]) (by simp[results,Tryz.results18,go_sem,q0,q1,q2,q3,q4,q5,q6,q7,q8,q9,q10,q11,r0,r1,r2,r3,r4,r5]) rfl (qG.out _ rK.out Bi.out)
def bgA:Nd:=Gm ⟨#[97]⟩ ⟨#[99]⟩ 1 false
def Xe:Nd:=Gm ⟨#[98]⟩ ⟨#[99]⟩ 2 true
def bgP:Pk:=⟨⟨#[98]⟩,true,Xe.ms,Xe.sv,Xe.gw,Xe.wh⟩
def bg3:Nd:=rQ bgA bgP
def P1:Nd:=zA bg3 ⟨#[98]⟩ 2
def SV:Mem:=⟨⟨#[98]⟩,2,1,2,true⟩
theorem Xf:MV ⟨#[97]⟩ ⟨#[99]⟩ 1=0:=by kernel_rfl
theorem Xg:MV ⟨#[98]⟩ ⟨#[99]⟩ 2=0:=by kernel_rfl
theorem Xh:bgA.e=0:=by kernel_rfl
theorem Xi:Xe.e=0:=by kernel_rfl
theorem Xj:pR bgA bgP=0:=by kernel_rfl
theorem Xk:bg3.e=0:=by kernel_rfl
theorem Xl:sn bg3 ⟨#[98]⟩ 1 2=0:=by kernel_rfl
theorem Xm:P1.e=0:=by kernel_rfl
theorem Xn:P1.ms.length=2:=by kernel_rfl
theorem Xo:P1.rs=[⟨SV,0⟩]:=by kernel_rfl
theorem Np{l:List Mem}{rest:List bL}(h:jk P1 l rest):l=[SV]:=by
 obtain⟨told,ht,hp,_⟩:=h;rw[Xo] at ht;rcases ht with⟨h,_⟩|⟨_,ord,ho,rfl,_⟩
 .cases h
 .have h1:ord=[0]:=by
   have:=ho.perm;rw[show List.range [(⟨SV,0⟩:bL)].length=[0] from rfl] at this;exact List.perm_singleton.1 this
  subst h1;have h2:gv [(⟨SV,0⟩:bL)] [0] (min 5 [(⟨SV,0⟩:bL)].length)=[SV]:=by kernel_rfl
  rw[h2] at hp;exact List.perm_singleton.1 hp
def pY(B:Nat)(w:World)(n:Nd)(A:Array Value):Prop:=∃vm vr vs vg vw,A=dt n vm vr vs vg vw/\cL B w n vm vr vs vg vw/\il n
theorem pY.is{B:Nat}{w:World}{n:Nd}{A:Array Value}(h:pY B w n A):gZ w n A:=by
 obtain⟨a,b,c,d,e,h1,h2,h3⟩:=h;exact⟨a,b,c,d,e,h1,h2.is h3⟩
theorem dz.ok{ne er:Int}{n':Nd}{w w':World}{e:OT}(h:dz ne er n' w e w')(h1:ne=0)(h2:er=0):∃A,e=By (Ik #[Ij A,U O 0])/\pY w.heap.size w' n' A/\Below w.heap.size w w':=by
 obtain⟨hb,⟨h3,_⟩|⟨_,h3,_⟩|⟨_,_,um,ur,us,ug,uw,rfl,ho,hk⟩⟩:=h
 .exact absurd h1 h3
 .exact absurd h2 h3
 .exact⟨_,rfl,⟨_,_,_,_,_,rfl,ho,hk⟩,hb⟩
def pkV(t0:ByteArray)(b1:Bool)(p2:Option Addr)(k2 c2:Nat)(p3:Option Addr)(k3 c3:Nat)(p4:Option Addr)(k4 c4:Nat)(p5:Option Addr)(k5 c5:Nat):Array Value:=
 #[Y t0,Ia b1,J p2 k2 c2,J p3 k3 c3,J p4 k4 c4,J p5 k5 c5]
def pZ(w:World)(p:Pk)(A:Array Value):Prop:=∃vm vs vg vw,A=#[Y p.cU,Ia p.whole,vm,vs,vg,vw]/\jY w p vm vs vg vw
theorem pZ.below{w w':World}{p:Pk}{A:Array Value}(h:pZ w p A)(hb:Below w.heap.size w w'):pZ w' p A:=by
 obtain⟨a,b,c,d,h1,h2⟩:=h;exact⟨a,b,c,d,h1,h2.below hb⟩
theorem pZ.is{w:World}{p:Pk}{A:Array Value}(h:pZ w p A):RG w p A:=by
 obtain⟨a,b,c,d,h1,h2⟩:=h;exact⟨a,b,c,d,h1,h2.ms,h2.sv,h2.gw,h2.wh⟩
theorem RG.letters{w:World}{p:Pk}{A:Array Value}(h:RG w p A):∃t0 b1 p2 k2 c2 p3 k3 c3 p4 k4 c4 p5 k5 c5,A=pkV t0 b1 p2 k2 c2 p3 k3 c3 p4 k4 c4 p5 k5 c5:=by
 obtain⟨vm,vs,vg,vw,rfl,⟨pm,cm,rfl,_⟩,⟨ps,cs,rfl,_⟩,⟨pg,cg,rfl,_⟩,⟨pw,cw,rfl,_⟩⟩:=h;exact⟨_,_,_,_,_,_,_,_,_,_,_,_,_,_,rfl⟩
theorem Fw{base n k:Nat}{T:I4}{w:World}{v:Value}{xs:List Value}(h:w.ownsRow base T k v n xs):Roomy v:=by
 obtain⟨a,c,rfl,hn⟩:=aA h;exact hn
def Nd.pk(n:Nd):Pk:=⟨n.name,true,n.ms,n.sv,n.gw,n.wh⟩
theorem jE.ok{n:Nd}{ne:Int}{w w':World}{e:OT}(h:jE n ne w e w')(h1:ne=0)(hk:il n):∃A,e=By (Ik #[Ij A,U O 0])/\pZ w' n.pk A/\Below w.heap.size w w':=by
 obtain⟨hb,⟨h3,_⟩|⟨_,um,us,ug,uw,rfl,o1,o2,o3,o4⟩⟩:=h
 .exact absurd h1 h3
 .exact⟨_,rfl,⟨_,_,_,_,rfl,o1.sl (cB hk.ms),o2.sl (Sv.cB hk.sv),o3.sl (Gw.cB hk.gw),o4.sl (Wh.cB hk.wh),hk.name,Fw o1⟩,hb⟩
theorem gZ.ok{w:World}{n:Nd}{A:Array Value}(h:gZ w n A):il n:=by
 obtain⟨_,_,_,_,_,_,h⟩:=h;exact h.ok
theorem KU{w:World}{n:Nd}{A:Array Value}(h:gZ w n A):aF 23 #[Ij A] w λe w'=>jE n n.e w e w':=by
 obtain⟨_,_,_,_,_,rfl,h⟩:=h;exact vV n _ _ _ _ _ w h
theorem Nq{w:World}{n:Nd}{p:Pk}{A P:Array Value}(h:gZ w n A)(hp:pZ w p P)(hlen:p.whole=true\/p.sv.length+p.gw.length+p.wh.length<=4611686018427387904):aF 24 #[Ij A,Ij P] w λe w'=>dz n.e (pR n p) (rQ n p) w e w':=by
 obtain⟨_,_,_,_,_,rfl,h⟩:=h;obtain⟨_,_,_,_,rfl,hp⟩:=hp;exact tN n p _ _ _ _ _ _ _ _ _ w h hp hlen
theorem KV{w:World}{n:Nd}{A:Array Value}(h:gZ w n A)(t:ByteArray)(ht:t.size<=maxLen):aF 25 #[Ij A,Y t] w λe w'=>dz n.e (sn n t 1 2) (zA n t 2) w e w':=by
 obtain⟨_,_,_,_,_,rfl,h⟩:=h;exact vU n t _ _ _ _ _ w h ht
theorem Nr{w:World}{n:Nd}{A:Array Value}(h:gZ w n A):aF 18 #[Ij A] w λe w'=>mZ n n.e w e w':=by
 obtain⟨_,_,_,_,_,rfl,h⟩:=h;exact zS n _ _ _ _ _ w h
theorem mZ.ok{n:Nd}{ne:Int}{w w':World}{e:OT}(h:mZ n ne w e w')(h1:ne=0):∃A a k c l rest,e=By (Ik #[Ij A,Ij #[Y n.name,Ia false,J a k c,J be 0 0,J be 0 0,J be 0 0],U O 0])/\jk n l rest/\pY w.heap.size w' { n with rs:=rest } A/\Own w.heap.size w' (J a k c) l/\Below w.heap.size w w':=by
 obtain⟨hb,⟨h3,_⟩|⟨_,n',um,ur,us,ug,uw,a,k,c,l,rfl,hn,ht,ho,hk,hl⟩⟩:=h
 .exact absurd h1 h3
 .refine⟨_,a,k,c,l,n'.rs,rfl,ht,?_,hl,hb⟩
  rw[<- hn];exact⟨_,_,_,_,_,rfl,ho,hk⟩
theorem pY.aC{B:Nat}{w:World}{n:Nd}{A:Array Value}(h:pY B w n A){b:Nat}(hb:b<B)(L:List Value)(j:Nat):pY B (aC b L j w) n A:=by
 obtain⟨v1,v2,v3,v4,v5,h1,h2,h3⟩:=h;exact⟨v1,v2,v3,v4,v5,h1,⟨cC hb L j h2.ms,cC hb L j h2.rs,cC hb L j h2.sv,cC hb L j h2.gw,cC hb L j h2.wh⟩,h3⟩
theorem gZ.len{w:World}{n:Nd}{A:Array Value}(h:gZ w n A):∃p c,A[2]?=AI (J p n.ms.length c):=by
 obtain⟨vm,vr,vs,vg,vw,rfl,⟨pm,cm,rfl,_⟩,_⟩:=h;exact⟨pm,cm,rfl⟩
theorem one_le:(1:Nat)<=maxLen:=by decide
theorem vi(w:World):Calls Tryz.prog 7 #[] w λe w'=>e=By (Ia true)/\Below w.heap.size w w':=by
 go_enter Tryz.func7,Tryz.ntmps7;go_wp2_with fail;refine(su ⟨#[97]⟩ ⟨#[99]⟩ 1 false w one_le one_le).mono ?_;intro e w1 h;obtain⟨A1,rfl,hA,aB⟩:=h.ok Xf rfl;obtain⟨Ns,Nu,KW,Gr,KX,Nv,Nw,Ny,Nz,yx,NA,NB,NC,ND,NF,NG,NH,NI,xV,xW,xX,xY,rfl⟩:=hA.is.letters;simp only[Nk] at hA ⊢;have Xp:Hid (gZ _ _ _):=hA.is;have aV:Hid _:=aB;have cZ:=aB.size;clear h hA aB;obtain⟨W1,cM⟩:∃W1,W1=w1.alloc (AT #[Y Ns,Y Nu,J KW Gr KX,J Nv Nw Ny,J Nz yx NA,J NB NC ND,U O NF,U O NG,U O NH,U O NI,U O xV,J xW xX xY] 42):=⟨_,rfl⟩;have ha1:Below w1.heap.size w1 W1:=by rw[cM];exact(Ib _ _).alloc (Ic _) _
 have uS:Hid (W1.heap[w1.heap.size]?=AI (AT #[Y Ns,Y Nu,J KW Gr KX,J Nv Nw Ny,J Nz yx NA,J NB NC ND,U O NF,U O NG,U O NH,U O NI,U O xV,J xW xX xY] 42 (0,0))):=by rw[cM];exact Ih w1 _
 have fg:W1.heap.size=w1.heap.size+1:=by rw[cM];simp
 have Xq:Hid (gZ _ _ _):=Xp.out.below ha1;have bp:Hid _:=aV.out.trans (ha1.mono cZ);clear ha1 Xp;go_upto_region 2 with fail
 rw[<- cM];clear cM;go_wp2_with fail;refine(su ⟨#[98]⟩ ⟨#[99]⟩ 2 true W1 one_le one_le).mono ?_;intro e w2 h;obtain⟨A1,rfl,hA,aB⟩:=h.ok Xg rfl;obtain⟨yy,SX,NJ,LS,NK,SY,SZ,S5,P2,LU,P3,S6,S7,S8,S9,Ta,Tb,Tc,Cd,Ce,Cf,Cg,rfl⟩:=hA.is.letters;simp only[Nk] at hA ⊢;have LF:Hid (gZ _ _ _):=hA.is;have Xr:Hid (gZ _ _ _):=Xq.out.below aB;have cj:Hid _:=bp.out.trans (aB.mono (by omega));have aeF:Hid _:=(aB.block _ (by omega)).trans uS.out;have nF:w1.heap.size<w2.heap.size:=by have:=aB.size;omega
 clear h hA aB Xq;obtain⟨W2,bF⟩:∃W2,W2=w2.alloc (AT #[Y yy,Y SX,J NJ LS NK,J SY SZ S5,J P2 LU P3,J S6 S7 S8,U O S9,U O Ta,U O Tb,U O Tc,U O Cd,J Ce Cf Cg] 42):=⟨_,rfl⟩;have Xs:Below w2.heap.size w2 W2:=by rw[bF];exact(Ib _ _).alloc (Ic _) _
 have wK:Hid (W2.heap[w2.heap.size]?=AI (AT #[Y yy,Y SX,J NJ LS NK,J SY SZ S5,J P2 LU P3,J S6 S7 S8,U O S9,U O Ta,U O Tb,U O Tc,U O Cd,J Ce Cf Cg] 42 (0,0))):=by rw[bF];exact Ih w2 _
 have gY:W2.heap.size=w2.heap.size+1:=by rw[bF];simp
 have Xt:Hid (gZ _ _ _):=Xr.out.below Xs;have qW:Hid (gZ _ _ _):=LF.out.below Xs;have eP:Hid _:=cj.out.trans (Xs.mono (by omega));have aeG:Hid _:=(Xs.block _ nF).trans aeF.out;have hg:=wK.out;obtain⟨y0,y1,y2,y3,y4,y5,y6,y7,y8,y9,y10,y11⟩:=bA hg;clear Xs Xr LF hg;go_upto_region 3 with fail
 rw[<- bF];clear bF;go_wp2_with fail;refine(KU qW.out).mono ?_;intro e w3 h;obtain⟨A1,rfl,hP,aB⟩:=h.ok Xi qW.out.ok;obtain⟨t0p,b1p,p2p,k2p,c2p,p3p,k3p,c3p,p4p,k4p,c4p,p5p,k5p,c5p,rfl⟩:=hP.is.letters;simp only[pkV] at hP ⊢;have mf:Hid (pZ _ _ _):=hP;have HA5:Hid (gZ _ _ _):=Xt.out.below aB;have gE:Hid _:=eP.out.trans (aB.mono (by omega));have aeH:Hid _:=(aB.block _ (by omega)).trans aeG.out;have qi:w1.heap.size<w3.heap.size:=by have:=aB.size;omega
 clear h hP aB Xt qW y0 y1 y2 y3 y4 y5 y6 y7 y8 y9 y10 y11;obtain⟨W3,ea⟩:∃W3,W3=w3.alloc (AT #[Y t0p,Ia b1p,J p2p k2p c2p,J p3p k3p c3p,J p4p k4p c4p,J p5p k5p c5p] 53):=⟨_,rfl⟩;have RF:Below w3.heap.size w3 W3:=by rw[ea];exact(Ib _ _).alloc (Ic _) _
 have RQ:Hid (W3.heap[w3.heap.size]?=AI (AT #[Y t0p,Ia b1p,J p2p k2p c2p,J p3p k3p c3p,J p4p k4p c4p,J p5p k5p c5p] 53 (0,0))):=by rw[ea];exact Ih w3 _
 have rP:W3.heap.size=w3.heap.size+1:=by rw[ea];simp
 have HA6:Hid (gZ _ _ _):=HA5.out.below RF;have od:Hid (pZ _ _ _):=mf.out.below RF;have rK:Hid _:=gE.out.trans (RF.mono (by omega));have hg:=RQ.out;have cK:=(RF.block _ qi).trans aeH.out;have aeI:Hid _:=cK;obtain⟨y0,y1,y2,y3,y4,y5⟩:=fm hg;obtain⟨x0,x1,x2,x3,x4,x5,x6,x7,x8,x9,x10,x11⟩:=bA cK;clear RF HA5 mf hg cK;go_upto_region 4 with fail
 rw[<- ea];clear ea;go_wp2_with fail;refine(Nq HA6.out od.out (.inl rfl)).mono ?_;intro e w4 h;obtain⟨A1,rfl,hA,aB⟩:=h.ok Xh Xj;obtain⟨t0c,t1c,p2c,k2c,c2c,p3c,k3c,c3c,p4c,k4c,c4c,p5c,k5c,c5c,i6c,i7c,i8c,i9c,NL,NM,NO,NP,rfl⟩:=hA.is.letters;simp only[Nk] at hA ⊢;have HA7:Hid (pY _ _ _ _):=hA;have DW:Hid _:=rK.out.trans (aB.mono (by omega));have cK:=(aB.block _ (by omega)).trans aeI.out;have mu:=aB.size;clear h hA aB HA6 od y0 y1 y2 y3 y4 y5 x0 x1 x2 x3 x4 x5 x6 x7 x8 x9 x10 x11;obtain⟨x0,x1,x2,x3,x4,x5,x6,x7,x8,x9,x10,x11⟩:=bA cK;obtain⟨xz0,xz1,xz2,xz3,xz4,xz5,xz6,xz7,xz8,xz9,Td,Te⟩:=jT cK;obtain⟨W4,nQ⟩:∃W4,W4=((((((((((((w4.setCell ⟨w1.heap.size,0,be⟩ (Y t0c)).setCell ⟨w1.heap.size,1,be⟩ (Y t1c)).setCell ⟨w1.heap.size,2,be⟩ (J p2c k2c c2c)).setCell ⟨w1.heap.size,3,be⟩ (J p3c k3c c3c)).setCell ⟨w1.heap.size,4,be⟩ (J p4c k4c c4c)).setCell ⟨w1.heap.size,5,be⟩ (J p5c k5c c5c)).setCell ⟨w1.heap.size,6,be⟩ (U O i6c)).setCell ⟨w1.heap.size,7,be⟩ (U O i7c)).setCell ⟨w1.heap.size,8,be⟩ (U O i8c)).setCell ⟨w1.heap.size,9,be⟩ (U O i9c)).setCell ⟨w1.heap.size,10,be⟩ (U O NL)).setCell ⟨w1.heap.size,11,be⟩ (J NM NO NP)):=⟨_,rfl⟩;have Xu:W4=aC w1.heap.size [Y t0c,Y t1c,J p2c k2c c2c,J p3c k3c c3c,J p4c k4c c4c,J p5c k5c c5c,U O i6c,U O i7c,U O i8c,U O i9c,U O NL,J NM NO NP] 0 w4:=by rw[nQ];simp only[aC,IC,Jh]
 have dQ:W4.heap[w1.heap.size]?=AI (AT #[Y t0c,Y t1c,J p2c k2c c2c,J p3c k3c c3c,J p4c k4c c4c,J p5c k5c c5c,U O i6c,U O i7c,U O i8c,U O i9c,U O NL,J NM NO NP] 42 (0,0)):=by rw[Xu];exact kO cK _ _ _ _ _ _ _ _ _ _ _ _
 have aeS:Hid _:=dQ;have HB8:Hid (Below w.heap.size w W4):=by rw[Xu];exact aQ cZ _ _ DW.out
 have HA8:Hid (gZ W4 bg3 #[Y t0c,Y t1c,J p2c k2c c2c,J p3c k3c c3c,J p4c k4c c4c,J p5c k5c c5c,U O i6c,U O i7c,U O i8c,U O i9c,U O NL,J NM NO NP]):=by rw[Xu];exact(HA7.out.aC (by omega) _ _).is
 have D7:W4.heap.size=w4.heap.size:=by rw[Xu];exact fe _ _ _ _
 obtain⟨u0,u1,u2,u3,u4,u5,u6,u7,u8,u9,u10,u11⟩:=bA dQ;clear Xu cK dQ HA7;go_upto_region 5 with fail
 rw[<- nQ];clear nQ x0 xz0 x1 xz1 x2 xz2 x3 xz3 x4 xz4 x5 xz5 x6 xz6 x7 xz7 x8 xz8 x9 xz9 x10 Td x11 Te;go_wp2_with fail;refine(KV HA8.out ⟨#[98]⟩ one_le).mono ?_;intro e w5 h;obtain⟨A1,rfl,hA,aB⟩:=h.ok Xk Xl;obtain⟨Xv,Xw,Tf,Tg,Th,Xx,Xy,Xz,XA,XB,XC,XD,XE,XF,XG,XH,XI,XJ,KY,KZ,K0,K1,rfl⟩:=hA.is.letters;simp only[Nk] at hA ⊢;have HA9:Hid (pY W4.heap.size w5 P1 #[Y Xv,Y Xw,J Tf Tg Th,J Xx Xy Xz,J XA XB XC,J XD XE XF,U O XG,U O XH,U O XI,U O XJ,U O KY,J KZ K0 K1]):=hA;have jz:Tg=2:=by
  obtain⟨p,c,hp⟩:=hA.is.len;have vG:AI (J Tf Tg Th)=AI (J p P1.ms.length c):=hp;rw[Xn] at vG;injection vG with vG;injection vG
 have VG:Hid _:=HB8.out.trans (aB.mono (by omega));have cK:=(aB.block _ (by omega)).trans aeS.out;have jc:=aB.size;clear h hA aB HA8 u0 u1 u2 u3 u4 u5 u6 u7 u8 u9 u10 u11;obtain⟨x0,x1,x2,x3,x4,x5,x6,x7,x8,x9,x10,x11⟩:=bA cK;obtain⟨xz0,xz1,xz2,xz3,xz4,xz5,xz6,xz7,xz8,xz9,Td,Te⟩:=jT cK;obtain⟨W5,iZ⟩:∃W5,W5=((((((((((((w5.setCell ⟨w1.heap.size,0,be⟩ (Y Xv)).setCell ⟨w1.heap.size,1,be⟩ (Y Xw)).setCell ⟨w1.heap.size,2,be⟩ (J Tf Tg Th)).setCell ⟨w1.heap.size,3,be⟩ (J Xx Xy Xz)).setCell ⟨w1.heap.size,4,be⟩ (J XA XB XC)).setCell ⟨w1.heap.size,5,be⟩ (J XD XE XF)).setCell ⟨w1.heap.size,6,be⟩ (U O XG)).setCell ⟨w1.heap.size,7,be⟩ (U O XH)).setCell ⟨w1.heap.size,8,be⟩ (U O XI)).setCell ⟨w1.heap.size,9,be⟩ (U O XJ)).setCell ⟨w1.heap.size,10,be⟩ (U O KY)).setCell ⟨w1.heap.size,11,be⟩ (J KZ K0 K1)):=⟨_,rfl⟩;have XK:W5=aC w1.heap.size [Y Xv,Y Xw,J Tf Tg Th,J Xx Xy Xz,J XA XB XC,J XD XE XF,U O XG,U O XH,U O XI,U O XJ,U O KY,J KZ K0 K1] 0 w5:=by rw[iZ];simp only[aC,IC,Jh]
 have dQ:W5.heap[w1.heap.size]?=AI (AT #[Y Xv,Y Xw,J Tf Tg Th,J Xx Xy Xz,J XA XB XC,J XD XE XF,U O XG,U O XH,U O XI,U O XJ,U O KY,J KZ K0 K1] 42 (0,0)):=by rw[XK];exact kO cK _ _ _ _ _ _ _ _ _ _ _ _
 have aeT:Hid _:=dQ;have aeU:Hid (Below w.heap.size w W5):=by rw[XK];exact aQ cZ _ _ VG.out
 have XL:Hid (gZ W5 P1 #[Y Xv,Y Xw,J Tf Tg Th,J Xx Xy Xz,J XA XB XC,J XD XE XF,U O XG,U O XH,U O XI,U O XJ,U O KY,J KZ K0 K1]):=by rw[XK];exact(HA9.out.aC (by omega) _ _).is
 have Hl:W5.heap.size=w5.heap.size:=by rw[XK];exact fe _ _ _ _
 obtain⟨u0,u1,u2,u3,u4,u5,u6,u7,u8,u9,u10,u11⟩:=bA dQ;clear XK cK dQ HA9;have jO:=jz;clear jz;have oV:Hid _:=jO;clear jO;go_upto_region 6 with fail
 rw[<- iZ];clear iZ x0 xz0 x1 xz1 x2 xz2 x3 xz3 x4 xz4 x5 xz5 x6 xz6 x7 xz7 x8 xz8 x9 xz9 x10 Td x11 Te;go_wp2_with fail;refine(Nr XL.out).mono ?_;intro e w6 h;obtain⟨A1,ta,tk,tc,l,rest,rfl,hT,hA,PS,aB⟩:=h.ok Xm;obtain⟨t0e,t1e,p2e,k2e,c2e,p3e,k3e,c3e,p4e,k4e,c4e,p5e,k5e,c5e,i6e,i7e,i8e,i9e,XM,XN,XO,XP,rfl⟩:=hA.is.letters;simp only[Nk] at hA ⊢;have hl:=Np hT;subst hl;have rR:w1.heap.size<w6.heap.size:=by have:=aB.size;omega
 have cK:=(aB.block _ (by omega)).trans aeT.out;have XQ:Hid _:=aeU.out.trans (aB.mono (by omega));obtain⟨a,cap,hv,_,cQ⟩:=PS.sl (cB (by intro m hm;rw[List.mem_singleton.1 hm];exact one_le));injection hv with Av PG zd;rcases cQ with h0|⟨g,off,hp,aW,cQ⟩
 .cases h0
 have hc:=(cQ 0 (by simp)).2.1;have Dv:w6.cell? ⟨g,off+1,be⟩=AI (U O 2):=by simpa[SV] using hc
 have HC:Hid _:=Dv;clear Dv;subst Av hp;have aeV:=PG;subst aeV;clear PG zd cQ hc hT hA PS h aB XL u0 u1 u2 u3 u4 u5 u6 u7 u8 u9 u10 u11;generalize P1.name=qn at *;obtain⟨W6,uo⟩:∃W6,W6=(w6.alloc (AT #[Y t0e,Y t1e,J p2e k2e c2e,J p3e k3e c3e,J p4e k4e c4e,J p5e k5e c5e,U O i6e,U O i7e,U O i8e,U O i9e,U O XM,J XN XO XP] 42)).alloc (AT #[Y qn,Ia false,J (AI ⟨g,off,be⟩) 1 tc,J be 0 0,J be 0 0,J be 0 0] 53):=⟨_,rfl⟩;have Gc:Below w6.heap.size w6 W6:=by rw[uo];exact((Ib _ _).alloc (Ic _) _).alloc (by simp) _
 have hgq:W6.heap[w6.heap.size+1]?=AI (AT #[Y qn,Ia false,J (AI ⟨g,off,be⟩) 1 tc,J be 0 0,J be 0 0,J be 0 0] 53 (0,0)):=by
  have h:=Ih (w6.alloc (AT #[Y t0e,Y t1e,J p2e k2e c2e,J p3e k3e c3e,J p4e k4e c4e,J p5e k5e c5e,U O i6e,U O i7e,U O i8e,U O i9e,U O XM,J XN XO XP] 42)) (AT #[Y qn,Ia false,J (AI ⟨g,off,be⟩) 1 tc,J be 0 0,J be 0 0,J be 0 0] 53);rw[uo];simpa using h
 have hgd:=(Gc.block _ rR).trans cK;have z1:W6.cell? ⟨w1.heap.size,2,be⟩=AI (J Tf 2 Th):=(ae hgd 2).trans (by rw[oV.out];rfl);have z2:=ae hgq 2;have z3:=(Gc.cell aW).trans HC.out;have aeW:Hid _:=XQ.out.trans (Gc.mono XQ.out.size);clear Gc hgq hgd cK aW;go_upto_region 7 with fail
 rw[<- uo];clear uo;go_wp2_with fail;go_ret;exact⟨rfl,aeW.out⟩
end Go.Proofs.YtfidhgjmifendaaGreatDoor
