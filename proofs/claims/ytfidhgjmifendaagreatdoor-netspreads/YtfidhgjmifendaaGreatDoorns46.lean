import Derived.Test.YtfidhgjmifendaaGreatDoorns45
set_option maxHeartbeats 25600000
set_option maxRecDepth 100000
open Nat renaming le_trans→Ir,zero_add→IC,reduceAdd→Jf,le_refl→Ic
open Go.Obj renaming cells→By
open Option renaming some→AI,none→be
open Go.RowKit.Below renaming heap_setCell→IY,refl→Ib
open Go renaming ownsRow_setCell_other→Iu,bodyPost_ret→IK,Ending→OS,TypeId→I5,heap_alloc_new→Ih
open Go.Joins renaming block_setCell→IB
open Go.Value renaming pointer→Ie,agg→Ij,string→Y,bool→Ia,slice→J,int→U,tuple→Ik
open Go.Ending renaming returned→AT
open Array renaming getElem?_eq_some_iff→BY
open Go.RowKit renaming ownsRow_setCell_below→Ii
open Go.IntKind renaming i64→O
namespace Go.Proofs.YtfidhgjmifendaaGreatDoor
open Go.RowKit
theorem Af{ms:List Mem}(h:ms.length<=20):(eH ms).length<=20:=by
 unfold eH;rw[List.length_map];exact Ir (List.length_filter_le _ _) h
theorem Wk.pk{L b c:Nat}{W:World}{n:Nd}(h:Wk L W b n)(hc:∃cs,W.heap[c]?=AI (By cs 53 (0,0)))(i:Nat)(x:Value):Wk L (W.setCell ⟨c,i,be⟩ x) b n/\∃cs,(W.setCell ⟨c,i,be⟩ x).heap[c]?=AI (By cs 53 (0,0)):=by
 obtain⟨cs,hc⟩:=hc;obtain⟨vm,vr,vs,vg,vw,h1,h2,h3,h4⟩:=h;have aQ:b≠c:=by
  intro e;rw[e,hc] at h1;injection h1 with h1;injection h1 with _ h1;exact absurd h1 (by decide)
 exact⟨⟨vm,vr,vs,vg,vw,(IY W _ x b aQ).trans h1,⟨Iu h2.ms (eS h2.ms hc (by decide)) _,Iu h2.rs (eS h2.rs hc (by decide)) _,Iu h2.sv (eS h2.sv hc (by decide)) _,Iu h2.gw (eS h2.gw hc (by decide)) _,Iu h2.wh (eS h2.wh hc (by decide)) _⟩,h3,h4⟩,_,IB (i:=i) hc x⟩
theorem FM(L b:Nat)(n:Nd)(w:World)(h:Wk L w b n)(hL:L<=b)(tZ:Sp n) :
 aI 31 #[Ie (AI ⟨b,0,be⟩)] w λe w'=>∃a k c l rest,e=AT (Ij #[Y n.name,Ia false,J a k c,J be 0 0,J be 0 0,J be 0 0])/\Hid (fj n l rest)/\Own (w.heap.size+1) w' (J a k c) l/\Sh (λk=>k=b) w w'/\Wk L w' b { n with rs:=rest }:=by
 have qj:Hid (Wk L w b n):=h;have aR:=h.lt;have A3:Hid _:=tZ;obtain⟨vm,vr,vs,vg,vw,h1,h2,h3,h4⟩:=h;have mC:Hid _:=h2.is h4;obtain⟨am,cm,od,_⟩:=aA h2.ms;obtain⟨ar,cr,vA,_⟩:=aA h2.rs;subst od vA;have Bg:=(af tZ.ms).1;have Ef:Hid _:=Af Bg;have HX:Hid (∀W,Below w.heap.size w W->W.heap[b]?=AI (By (dv n (J am n.ms.length cm) (J ar n.rs.length cr) vs vg vw) 90 (0,0))):=λW hW=>(hW.block _ aR).trans h1;have afk:Hid _:=h4.rs;obtain⟨W0,bN,bO,eK,di⟩:=bY w #[Y ⟨#[]⟩,Ia false,J be 0 0,J be 0 0,J be 0 0,J be 0 0] 53;have y2:=ae (HX.out W0 bO) 2;have db:Hid _:=bO;have nY:Hid _:=di;clear h1 h2 h3 h4 tZ;go_enter Tryz.func31,Tryz.ntmps31;go_upto_region 1 with fail
 rw[<- bN];clear bN;go_wp2_with fail;refine(Fp n.ms _ W0 (mC.out.ms.below db.out) A3.out.ms).mono ?_;rintro e w1 ⟨v1,rfl,zF,aB⟩;obtain⟨a1,c1,AW,_⟩:=aA zF.out;subst AW;have ba:Hid _:=aB;have iZ:Hid _:=db.out.trans (aB.mono (by omega));clear zF aB y2 bO di;have afl:within ((eH n.ms).length:Int) 0 20=true:=within_iff.2 ⟨by omega,by have:=Ef.out;omega⟩;go_wp2_with fail;refine(Ey _ w1 afl).mono ?_;rintro e w2 ⟨rfl,tl⟩;have Rc:=tl.symm;subst Rc;have y3:=ae (HX.out w1 iZ.out) 3;go_wp2_with fail;have htm:within (Vp n) 1 100=true:=by
  have aR:∀m,m<21->Lib.bitLen m<=5:=by decide
  have h1:=aR (eH n.ms).length (by have:=Ef.out;omega);refine within_iff.2 ⟨?_,?_⟩<;>(unfold Vp;omega)
 refine(Fs n.rs _ (Vp n) w1 (mC.out.rs.below iZ.out) A3.out.rs htm).mono ?_;rintro e w3 ⟨a3,k3,c3,a4,k4,c4,told,rest,rfl,HT,lE,Wz,bX⟩;have ec:Hid (Own _ _ _ _):=lE;have nX:Hid (cL _ _ _ _):=Wz;have cJ:Hid _:=bX;have afm:=bX.size;clear lE Wz bX y3;go_wp2_with fail;refine(Fk w1.heap.size told _ w3 ec.out afm (by have:=pc HT.out;omega)).mono ?_;rintro e w4 ⟨rfl,l,hp,hs,PZ,jD,KL⟩;have vv:Hid (Own _ _ _ _):=PZ;have NZ:Hid (fj n l rest):=⟨told,HT.out,hp,hs⟩;have iy:Hid _:=cJ.out.trans jD;have yq:Hid _:=iZ.out.trans (iy.out.mono iZ.out.size);have yM:Hid (cL w1.heap.size w4 (J a4 k4 c4) rest):=by
  rcases nX.out.2 with hq|⟨g,c,cur,e1,e2,e3,e4⟩
  .exact⟨nX.out.1,.inl hq⟩
  .refine⟨nX.out.1,.inr ⟨g,c,cur,e1,e2,(KL.block g (BY.1 e3).1 (λe=>?_)).trans e3,e4⟩⟩
   exact eS ec.out e3 (by decide) e
 have hL2:L<=w.heap.size:=by omega
 have ft:w.heap.size+1<=w1.heap.size:=by have:=ba.out.size;omega
 have mH:=(iy.out.block _ (by omega)).trans ((ba.out.block _ (by omega)).trans nY.out);have PN:Hid _:=mH;have hx4:=HX.out w4 yq.out;have x0:=ae hx4 0;have x3:=ae hx4 3;have xz3:=aj hx4 3;have hbs:b<w4.heap.size:=by have:=yq.out.size;omega
 have aQ:b≠w.heap.size:=by omega
 have SR:w.heap.size≠b:=by omega
 have Xm:w.heap.size<w4.heap.size:=by have:=iy.out.size;omega
 obtain⟨q0,q1,q2,q3,q4,q5⟩:=fx mH;obtain⟨wi,wj,xA,xB,xC,xD⟩:=H8 mH;clear mH hx4 PZ jD KL hp hs;go_wp2_with fail;refine IK (v:=Ij #[Y n.name,Ia false,J a3 k3 c3,J be 0 0,J be 0 0,J be 0 0]) ?_ rfl ?_
 .simp[results,Tryz.results31,go_sem,q0,q1,q2,q3,q4,q5]
 .have k0:=qj.out.Ko hL2 yq.out (v:=J a4 k4 c4) (l:=rest) (yM.out.base (by omega)) (wM HT.out afk.out).2
  have z0:∃cs,(w4.setCell ⟨b,3,be⟩ (J a4 k4 c4)).heap[w.heap.size]?=AI (By cs 53 (0,0)):=⟨_,(IY w4 _ _ w.heap.size SR).trans PN.out⟩;obtain⟨k1,z1⟩:=k0.pk z0 0 (Y n.name);obtain⟨k2,z2⟩:=k1.pk z1 1 (Ia false);obtain⟨k3',z3⟩:=k2.pk z2 2 (J a3 k3 c3);obtain⟨k4',z4⟩:=k3'.pk z3 3 (J be 0 0);obtain⟨k5,z5⟩:=k4'.pk z4 4 (J be 0 0);obtain⟨k6,z6⟩:=k5.pk z5 5 (J be 0 0);have sy:=(((((((Ib w.heap.size (w4.setCell ⟨b,3,be⟩ (J a4 k4 c4))).setCell (p:=⟨w.heap.size,0,be⟩) (by simp) (Y n.name)).setCell (p:=⟨w.heap.size,1,be⟩) (by simp) (Ia false)).setCell (p:=⟨w.heap.size,2,be⟩) (by simp) (J a3 k3 c3)).setCell (p:=⟨w.heap.size,3,be⟩) (by simp) (J be 0 0)).setCell (p:=⟨w.heap.size,4,be⟩) (by simp) (J be 0 0)).setCell (p:=⟨w.heap.size,5,be⟩) (by simp) (J be 0 0));have s0:Sh (λk=>k=b) w (w4.setCell ⟨b,3,be⟩ (J a4 k4 c4)):=Sh.setCell (S:=λk=>k=b) (Sh.of yq.out) (b:=b) (i:=3) rfl _;refine⟨a3,k3,c3,l,rest,rfl,NZ,?_,⟨sy.os.trans s0.os,sy.tape.trans s0.tape,sy.output.trans s0.output,Ir s0.size sy.size,λi hi hn=>(sy.block i hi).trans (s0.block i hi hn)⟩,k6⟩;exact(Ii (Ii (Ii (Ii (Ii (Ii (Ii (vv.out.mono ft) (a:=⟨b,3,be⟩) (by simp only;omega) _) (a:=⟨w.heap.size,0,be⟩) (by simp only;omega) _) (a:=⟨w.heap.size,1,be⟩) (by simp only;omega) _) (a:=⟨w.heap.size,2,be⟩) (by simp only;omega) _) (a:=⟨w.heap.size,3,be⟩) (by simp only;omega) _) (a:=⟨w.heap.size,4,be⟩) (by simp only;omega) _) (a:=⟨w.heap.size,5,be⟩) (by simp only;omega) _)
theorem FN(L b tb:Nat)(n:Nd)(w:World)(h:Wk L w b n)(hL:L<=b)(tZ:Sp n)(hc:w.heap[tb]?=AI (By #[Y ⟨#[]⟩,Ia false,J be 0 0,J be 0 0,J be 0 0,J be 0 0] 53 (0,0))) :
 aI 30 #[Ie (AI ⟨b,0,be⟩),Ie (AI ⟨tb,0,be⟩)] w λe w'=>e=AT (U O 0)/\Sh (λk=>k=b\/k=tb) w w'/\∃a k c l rest,Hid (fj n l rest)/\w'.heap[tb]?=AI (By #[Y n.name,Ia false,J a k c,J be 0 0,J be 0 0,J be 0 0] 53 (0,0))/\Own (w.heap.size+1) w' (J a k c) l/\Wk L w' b { n with rs:=rest }:=by
 have HC:=FM L b n w h hL tZ;have R0:=(BY.1 hc).1;have aQ:tb≠b:=by
  intro e;obtain⟨_,_,_,_,_,h1,_⟩:=h;rw[<- e,hc] at h1;injection h1 with h1;injection h1 with _ h1;exact absurd h1 (by decide)
 have HCB:Hid _:=hc;clear h tZ hc;go_enter Tryz.func30,Tryz.ntmps30;go_wp2_with fail;refine HC.mono ?_;rintro e w1 ⟨a,k,c,l,rest,rfl,HT,ho,hs,hk⟩;have da:=(hs.block _ R0 aQ).trans HCB.out;have GK:Hid _:=da;have HO:Hid (Own _ _ _ _):=ho;have xQ:Hid _:=hs;have HK:Hid (Wk _ _ _ _):=hk;have Ca:=(BY.1 da).1;obtain⟨q0,q1,q2,q3,q4,q5⟩:=fx da;obtain⟨wi,wj,xA,xB,xC,xD⟩:=H8 da;clear da ho hs hk HC;go_wp2_with fail;go_ret;have g0:=HK.out;have z0:∃cs,w1.heap[tb]?=AI (By cs 53 (0,0)):=⟨_,GK.out⟩;obtain⟨g1,z1⟩:=g0.pk z0 0 (Y n.name);obtain⟨g2,z2⟩:=g1.pk z1 1 (Ia false);obtain⟨g3,z3⟩:=g2.pk z2 2 (J a k c);obtain⟨g4,z4⟩:=g3.pk z3 3 (J be 0 0);obtain⟨g5,z5⟩:=g4.pk z4 4 (J be 0 0);obtain⟨g6,z6⟩:=g5.pk z5 5 (J be 0 0);exact⟨rfl,(Sh.setCell (S:=λk=>k=b\/k=tb) (Sh.setCell (S:=λk=>k=b\/k=tb) (Sh.setCell (S:=λk=>k=b\/k=tb) (Sh.setCell (S:=λk=>k=b\/k=tb) (Sh.setCell (S:=λk=>k=b\/k=tb) (Sh.setCell (S:=λk=>k=b\/k=tb) (xQ.out.mono (λk hk=>.inl hk)) (b:=tb) (i:=0) (.inr rfl) (Y n.name)) (b:=tb) (i:=1) (.inr rfl) (Ia false)) (b:=tb) (i:=2) (.inr rfl) (J a k c)) (b:=tb) (i:=3) (.inr rfl) (J be 0 0)) (b:=tb) (i:=4) (.inr rfl) (J be 0 0)) (b:=tb) (i:=5) (.inr rfl) (J be 0 0)),a,k,c,l,rest,HT,(IB (i:=5) (IB (i:=4) (IB (i:=3) (IB (i:=2) (IB (i:=1) (IB (i:=0) GK.out (Y n.name)) (Ia false)) (J a k c)) (J be 0 0)) (J be 0 0)) (J be 0 0)),(Ii ((Ii ((Ii ((Ii ((Ii ((Ii (HO.out) (a:=⟨tb,0,be⟩) (by simp only;omega) (Y n.name))) (a:=⟨tb,1,be⟩) (by simp only;omega) (Ia false))) (a:=⟨tb,2,be⟩) (by simp only;omega) (J a k c))) (a:=⟨tb,3,be⟩) (by simp only;omega) (J be 0 0))) (a:=⟨tb,4,be⟩) (by simp only;omega) (J be 0 0))) (a:=⟨tb,5,be⟩) (by simp only;omega) (J be 0 0)),g6⟩
def nu(n:Nd)(ne:Int)(w:World)(e:OS)(w':World):Prop:=Below w.heap.size w w' /\
 ((ne≠0/\e=AT (Ik #[Ij #[Y ⟨#[]⟩,Y ⟨#[]⟩,J be 0 0,J be 0 0,J be 0 0,J be 0 0,U O 0,U O 0,U O 0,U O 0,U O 0,J be 0 0],Ij #[Y ⟨#[]⟩,Ia false,J be 0 0,J be 0 0,J be 0 0,J be 0 0],U O ne])) \/
 (ne=0/\∃n' um ur us ug uw a k c l,e=AT (Ik #[Ij (dv n' um ur us ug uw),Ij #[Y n.name,Ia false,J a k c,J be 0 0,J be 0 0,J be 0 0],U O 0])/\n'={ n with rs:=n'.rs }/\fj n l n'.rs/\cP w.heap.size w' n' um ur us ug uw/\iw n'/\Own w.heap.size w' (J a k c) l))
def DS(n:Nd)(tb B:Nat)(n':Nd)(W:World):Prop:=∃a k c l,n'={ n with rs:=n'.rs }/\fj n l n'.rs/\W.heap[tb]?=AI (By #[Y n.name,Ia false,J a k c,J be 0 0,J be 0 0,J be 0 0] 53 (0,0))/\Own B W (J a k c) l
theorem uA(n:Nd)(vm vr vs vg vw:Value)(w:World)(h:eY w n vm vr vs vg vw) :
 aI 18 #[Ij (dv n vm vr vs vg vw)] w λe w'=>nu n n.e w e w':=by
 have mC:Hid _:=h;have mg:Hid (∀W0,Below w.heap.size w W0->W0.heap.size=w.heap.size+4->W0.heap[w.heap.size+3]?=AI (By #[Y ⟨#[]⟩,Ia false,J be 0 0,J be 0 0,J be 0 0,J be 0 0] 53 (0,0))->aI 29 #[Ij (dv n vm vr vs vg vw),.func (.func 30) #[] #[Ie (AI ⟨w.heap.size+3,0,be⟩)]] W0 λe w'=>lv n.e 0 (λk=>k=w.heap.size+3) (DS n (w.heap.size+3) (W0.heap.size+2)) W0 e w'):=λW0 hb hs hc=>
  wF 30 #[Ie (AI ⟨w.heap.size+3,0,be⟩)] (enters_of Tryz.func30 (by kernel_rfl) rfl) n vm vr vs vg vw W0 (h.below hb) (λk=>k=w.heap.size+3) 0 (DS n (w.heap.size+3) (W0.heap.size+2))
   (λhe W b hW aK hk=>by
    refine(FN (W0.heap.size+2) b (w.heap.size+3) n W hk (by omega) (Nd.sp he) ((hW.block _ (by omega)).trans hc)).mono ?_;rintro e w' ⟨rfl,iv,a,k,c,l,rest,HT,rU,ho,Du⟩;have rL:=hk.lt;exact⟨rfl,iv.mono (λk hk=>by omega),λ_=>⟨_,Du,a,k,c,l,rfl,HT.out,rU,ho.mono (by omega)⟩⟩)
   (λn' W j x hR=>by
    obtain⟨a,k,c,l,h1,h2,h3,h4⟩:=hR;exact⟨a,k,c,l,h1,h2,(IY _ _ _ _ (by simp only;omega)).trans h3,Ii h4 (by simp only;omega) _⟩)
   (λ_ hk=>by omega)
 have Nf:Hid (∀nd:Nd,nd=n->nd.name=n.name):=λ_ h=>by rw[h]
 generalize Eg:n.e=ne at *;clear Eg;have HN:Hid (∃n0,n0=n):=⟨_,rfl⟩;obtain⟨N,hN⟩:∃N,N=n:=⟨_,rfl⟩;rw[<- hN] at mg ⊢;have SN:Hid (N.name=n.name):=by rw[hN];rfl
 obtain⟨nm,ct,ms,rs,sv,gw,⟨px,py,pz,ph,pq⟩,wh⟩:=n;obtain⟨⟨em,cm,rfl,_,_⟩,⟨rm,cr,rfl,_,_⟩,⟨es,rn,rfl,_,_⟩,⟨rq,cg,rfl,_,_⟩,⟨eh,ch,rfl,_,_⟩,_,_⟩:=h;have hA:dv N (J em ms.length cm) (J rm rs.length cr) (J es sv.length rn) (J rq gw.length cg) (J eh wh.length ch)=#[Y nm,Y ct,J em ms.length cm,J rm rs.length cr,J es sv.length rn,J rq gw.length cg,U O px,U O py,U O pz,U O ph,U O pq,J eh wh.length ch]:=by rw[hN]
 simp only[hA] at mg ⊢;clear hA hN HN Nf;simp only at SN;generalize ms.length=km at *;generalize rs.length=kr at *;generalize sv.length=ks at *;generalize gw.length=kg at *;generalize wh.length=kh at *;obtain⟨W0,bN,bO,eK,vR,di,hy0,ht0⟩:=R8 w #[Y nm,Y ct,J em km cm,J rm kr cr,J es ks rn,J rq kg cg,U O px,U O py,U O pz,U O ph,U O pq,J eh kh ch] #[Y ⟨#[]⟩,Y ⟨#[]⟩,J be 0 0,J be 0 0,J be 0 0,J be 0 0,U O 0,U O 0,U O 0,U O 0,U O 0,J be 0 0] #[Y ⟨#[]⟩,Ia false,J be 0 0,J be 0 0,J be 0 0,J be 0 0] #[Y ⟨#[]⟩,Ia false,J be 0 0,J be 0 0,J be 0 0,J be 0 0] 42 42 53 53;have rQ:=mg.out W0 bO eK ht0;have db:Hid _:=bO;have nY:Hid _:=di;have HY0:Hid _:=hy0;have HT0:Hid _:=ht0;clear bO di hy0 ht0 vR mg;go_enter Tryz.func18,Tryz.ntmps18;go_wp2_with fail;rw[<- bN];refine rQ.mono ?_;rintro e w1 ⟨AR,Mh⟩;have ft:w.heap.size+4<=w1.heap.size:=by have:=AR.size;omega
 have ba:Hid _:=db.out.trans (AR.below (by omega) (λk hk=>by omega));have GK:Hid _:=(AR.block _ (by omega) (by omega)).trans nY.out;have HY1:Hid _:=(AR.block _ (by omega) (by omega)).trans HY0.out;clear AR rQ bN;obtain⟨u0,u1,b2,m2,e2,b3,m3,e3,b4,m4,e4,b5,m5,e5,u6,u7,u8,u9,u10,b11,m11,e11,r,s0,ta,tk,tc,rfl,HT1,tP⟩:∃u0 u1 b2 m2 e2 b3 m3 e3 b4 m4 e4 b5 m5 e5 u6 u7 u8 u9 u10 b11 m11 e11 r s0 ta tk tc,e=AT (Ik #[Ij #[Y u0,Y u1,J b2 m2 e2,J b3 m3 e3,J b4 m4 e4,J b5 m5 e5,U O u6,U O u7,U O u8,U O u9,U O u10,J b11 m11 e11],U O r])/\Hid (w1.heap[w.heap.size+3]?=AI (By #[Y s0,Ia false,J ta tk tc,J be 0 0,J be 0 0,J be 0 0] 53 (0,0)))/\Hid (∀WF:World,Below w.heap.size w WF->(∀{base n k:Nat} {T:I5} {v:Value} {xs:List Value},w.heap.size+1+1<base->w1.ownsRow base T k v n xs->WF.ownsRow base T k v n xs)->nu N ne w (AT (Ik #[Ij #[Y u0,Y u1,J b2 m2 e2,J b3 m3 e3,J b4 m4 e4,J b5 m5 e5,U O u6,U O u7,U O u8,U O u9,U O u10,J b11 m11 e11],Ij #[Y s0,Ia false,J ta tk tc,J be 0 0,J be 0 0,J be 0 0],U O r])) WF):=by
  rcases Mh with⟨aQ,A5,rfl⟩|⟨_,DC,_⟩|⟨aQ,_,n',um,ur,us,ug,uw,rfl,hown,gR,ta,tk,tc,l,hn',hT,rU,Re⟩
  .exact⟨_,_,_,_,_,_,_,_,_,_,_,_,_,_,_,_,_,_,_,_,_,_,_,_,_,_,_,rfl,(A5.block _ (by omega)).trans HT0.out,λWF hb _=>⟨hb,.inl ⟨aQ,rfl⟩⟩⟩
  .exact absurd rfl DC
  .have hf:∀WF:World,(∀{base n k:Nat} {T:I5} {v:Value} {xs:List Value},w.heap.size+1+1<base->w1.ownsRow base T k v n xs->WF.ownsRow base T k v n xs)->cP w.heap.size WF n' um ur us ug uw/\Own w.heap.size WF (J ta tk tc) l:=λWF how=>⟨⟨Own.mono (how (by omega) hown.ms) (by omega),cL.base (how (by omega) hown.rs) (by omega),Sv.Own.mono (how (by omega) hown.sv) (by omega),Gw.Own.mono (how (by omega) hown.gw) (by omega),Wh.Own.mono (how (by omega) hown.wh) (by omega)⟩,Own.mono (how (by omega) Re) (by omega)⟩
   obtain⟨im2,jm2,od,_⟩:=aA hown.ms;obtain⟨ir2,jr2,vA,_⟩:=aA hown.rs;obtain⟨is2,js2,uc,_⟩:=aA hown.sv;obtain⟨ig2,jg2,zO,_⟩:=aA hown.gw;obtain⟨ih2,jh2,EU,_⟩:=aA hown.wh;subst od vA uc zO EU;exact⟨_,_,_,_,_,_,_,_,_,_,_,_,_,_,_,_,_,_,_,_,_,_,_,_,ta,tk,tc,rfl,rU,λWF hb how=>⟨hb,.inr ⟨aQ,n',_,_,_,_,_,ta,tk,tc,l,rfl,hn',hT,(hf WF how).1,gR,(hf WF how).2⟩⟩⟩
 clear Mh;obtain⟨W5,jo,jD,-,kX⟩:=bY w1 #[Y u0,Y u1,J b2 m2 e2,J b3 m3 e3,J b4 m4 e4,J b5 m5 e5,U O u6,U O u7,U O u8,U O u9,U O u10,J b11 m11 e11] 42;have ju:=(jD.block _ (by omega)).trans GK.out;have hy5:=(jD.block _ (by omega)).trans HY1.out;have ht5:=(jD.block _ (by omega)).trans HT1.out;have Kb:w1.heap.size<W5.heap.size:=by rw[jo];simp
 have iy:Hid _:=ba.out.trans (jD.mono ba.out.size);have Wf:Hid _:=ju;have HY5:Hid _:=hy5;have Xn:Hid _:=jD;obtain⟨p0,p1,p2,p3,p4,p5,p6,p7,p8,p9,p10,p11⟩:=bB kX;obtain⟨q0,q1,q2,q3,q4,q5,q6,q7,q8,q9,q10,q11⟩:=bB ju;obtain⟨wi,wj,xA,xB,xC,xD,Dh,Di,Dj,Dk,pZ,qb⟩:=kd ju;obtain⟨r0,r1,r2,r3,r4,r5⟩:=fx hy5;obtain⟨rz0,rz1,rz2,rz3,rz4,rz5⟩:=H8 hy5;obtain⟨t0,t1,t2,t3,t4,t5⟩:=fx ht5;clear jD kX ju hy5 ht5;have Sg:w.heap.size+1≠w1.heap.size:=by omega
 have Si:w.heap.size+2≠w1.heap.size:=by omega
 have Xo:w.heap.size+1≠w.heap.size+3:=by omega
 have Xp:w.heap.size+2≠w.heap.size+3:=by omega
 go_upto_region 3 with fail
 rw[<- jo];clear jo;go_region_held3 (λw'=>w'.cell? ⟨w1.heap.size,0,be⟩=AI (Y u0)/\w'.cell? ⟨w1.heap.size,1,be⟩=AI (Y u1)/\w'.cell? ⟨w1.heap.size,2,be⟩=AI (J b2 m2 e2)/\w'.cell? ⟨w1.heap.size,3,be⟩=AI (J b3 m3 e3)/\w'.cell? ⟨w1.heap.size,4,be⟩=AI (J b4 m4 e4)/\w'.cell? ⟨w1.heap.size,5,be⟩=AI (J b5 m5 e5)/\w'.cell? ⟨w1.heap.size,6,be⟩=AI (U O u6)/\w'.cell? ⟨w1.heap.size,7,be⟩=AI (U O u7)/\w'.cell? ⟨w1.heap.size,8,be⟩=AI (U O u8)/\w'.cell? ⟨w1.heap.size,9,be⟩=AI (U O u9)/\w'.cell? ⟨w1.heap.size,10,be⟩=AI (U O u10)/\w'.cell? ⟨w1.heap.size,11,be⟩=AI (J b11 m11 e11)/\w'.cell? ⟨w.heap.size+3,0,be⟩=AI (Y s0)/\w'.cell? ⟨w.heap.size+3,1,be⟩=AI (Ia false)/\w'.cell? ⟨w.heap.size+3,2,be⟩=AI (J ta tk tc)/\w'.cell? ⟨w.heap.size+3,3,be⟩=AI (J be 0 0)/\w'.cell? ⟨w.heap.size+3,4,be⟩=AI (J be 0 0)/\w'.cell? ⟨w.heap.size+3,5,be⟩=AI (J be 0 0)) (simp only[World.cell?_setCell_far,World.cell?_drew,ne_eq,Sg,Si,Xo,Xp,not_false_eq_true,p0,p1,p2,p3,p4,p5,p6,p7,p8,p9,p10,p11,t0,t1,t2,t3,t4,t5,and_self]) (fail)
 all_goals go_wp2_with fail
 all_goals
  clear q0 wi q1 wj q2 xA q3 xB q4 xC q5 xD q6 Dh q7 Di q8 Dj q9 Dk q10 pZ q11 qb r0 rz0 r1 rz1 r2 rz2 r3 rz3 r4 rz4 r5 rz5 p0 p1 p2 p3 p4 p5 p6 p7 p8 p9 p10 p11 t0 t1 t2 t3 t4 t5;first
  |(obtain⟨WF,Tn⟩:∃WF,WF=World.drew ((((((((((((((((((W5.setCell ⟨w.heap.size+1,0,be⟩ (Y u0)).setCell ⟨w.heap.size+1,1,be⟩ (Y u1)).setCell ⟨w.heap.size+1,2,be⟩ (J b2 m2 e2)).setCell ⟨w.heap.size+1,3,be⟩ (J b3 m3 e3)).setCell ⟨w.heap.size+1,4,be⟩ (J b4 m4 e4)).setCell ⟨w.heap.size+1,5,be⟩ (J b5 m5 e5)).setCell ⟨w.heap.size+1,6,be⟩ (U O u6)).setCell ⟨w.heap.size+1,7,be⟩ (U O u7)).setCell ⟨w.heap.size+1,8,be⟩ (U O u8)).setCell ⟨w.heap.size+1,9,be⟩ (U O u9)).setCell ⟨w.heap.size+1,10,be⟩ (U O u10)).setCell ⟨w.heap.size+1,11,be⟩ (J b11 m11 e11)).setCell ⟨w.heap.size+1+1,0,be⟩ (Y s0)).setCell ⟨w.heap.size+1+1,1,be⟩ (Ia false)).setCell ⟨w.heap.size+1+1,2,be⟩ (J ta tk tc)).setCell ⟨w.heap.size+1+1,3,be⟩ (J be 0 0)).setCell ⟨w.heap.size+1+1,4,be⟩ (J be 0 0)).setCell ⟨w.heap.size+1+1,5,be⟩ (J be 0 0)):=⟨_,rfl⟩
    rw[<- Tn];have Ll:WF=World.drew (aC (w.heap.size+1+1) [Y s0,Ia false,J ta tk tc,J be 0 0,J be 0 0,J be 0 0] 0 (aC (w.heap.size+1) [Y u0,Y u1,J b2 m2 e2,J b3 m3 e3,J b4 m4 e4,J b5 m5 e5,U O u6,U O u7,U O u8,U O u9,U O u10,J b11 m11 e11] 0 W5)):=by rw[Tn];simp only[aC,IC,Jf]
    clear Tn;have hz:WF.heap[w.heap.size+1]?=AI (By #[Y u0,Y u1,J b2 m2 e2,J b3 m3 e3,J b4 m4 e4,J b5 m5 e5,U O u6,U O u7,U O u8,U O u9,U O u10,J b11 m11 e11] 42 (0,0)):=by rw[Ll];rw[dD,aV (by omega)];exact(lq Wf.out _ _ _ _ _ _ _ _ _ _ _ _)
    have hy:WF.heap[w.heap.size+1+1]?=AI (By #[Y s0,Ia false,J ta tk tc,J be 0 0,J be 0 0,J be 0 0] 53 (0,0)):=by rw[Ll];rw[dD];exact pX ((aV (by omega) _ _ _).trans HY5.out) _ _ _ _ _ _
    have pD:Hid (Below w.heap.size w WF):=by rw[Ll];exact cF (aT (by omega) _ _ (aT (by omega) _ _ iy.out))
    have BP:Hid (∀{base n k:Nat} {T:I5} {v:Value} {xs:List Value},w.heap.size+1+1<base->w1.ownsRow base T k v n xs->WF.ownsRow base T k v n xs):=λhbs h=>by rw[Ll];exact wa (cE (by omega) _ _ (cE (by omega) _ _ (tA h Xn.out)))
    clear Ll)
  |(obtain⟨WF,Tn⟩:∃WF,WF=World.drew ((((((((((((((((((W5.setCell ⟨w.heap.size+1+1,0,be⟩ (Y s0)).setCell ⟨w.heap.size+1+1,1,be⟩ (Ia false)).setCell ⟨w.heap.size+1+1,2,be⟩ (J ta tk tc)).setCell ⟨w.heap.size+1+1,3,be⟩ (J be 0 0)).setCell ⟨w.heap.size+1+1,4,be⟩ (J be 0 0)).setCell ⟨w.heap.size+1+1,5,be⟩ (J be 0 0)).setCell ⟨w.heap.size+1,0,be⟩ (Y u0)).setCell ⟨w.heap.size+1,1,be⟩ (Y u1)).setCell ⟨w.heap.size+1,2,be⟩ (J b2 m2 e2)).setCell ⟨w.heap.size+1,3,be⟩ (J b3 m3 e3)).setCell ⟨w.heap.size+1,4,be⟩ (J b4 m4 e4)).setCell ⟨w.heap.size+1,5,be⟩ (J b5 m5 e5)).setCell ⟨w.heap.size+1,6,be⟩ (U O u6)).setCell ⟨w.heap.size+1,7,be⟩ (U O u7)).setCell ⟨w.heap.size+1,8,be⟩ (U O u8)).setCell ⟨w.heap.size+1,9,be⟩ (U O u9)).setCell ⟨w.heap.size+1,10,be⟩ (U O u10)).setCell ⟨w.heap.size+1,11,be⟩ (J b11 m11 e11)):=⟨_,rfl⟩
    rw[<- Tn];have Ll:WF=World.drew (aC (w.heap.size+1) [Y u0,Y u1,J b2 m2 e2,J b3 m3 e3,J b4 m4 e4,J b5 m5 e5,U O u6,U O u7,U O u8,U O u9,U O u10,J b11 m11 e11] 0 (aC (w.heap.size+1+1) [Y s0,Ia false,J ta tk tc,J be 0 0,J be 0 0,J be 0 0] 0 W5)):=by rw[Tn];simp only[aC,IC,Jf]
    clear Tn;have hz:WF.heap[w.heap.size+1]?=AI (By #[Y u0,Y u1,J b2 m2 e2,J b3 m3 e3,J b4 m4 e4,J b5 m5 e5,U O u6,U O u7,U O u8,U O u9,U O u10,J b11 m11 e11] 42 (0,0)):=by rw[Ll];rw[dD];exact lq ((aV (by omega) _ _ _).trans Wf.out) _ _ _ _ _ _ _ _ _ _ _ _
    have hy:WF.heap[w.heap.size+1+1]?=AI (By #[Y s0,Ia false,J ta tk tc,J be 0 0,J be 0 0,J be 0 0] 53 (0,0)):=by rw[Ll];rw[dD,aV (by omega)];exact(pX HY5.out _ _ _ _ _ _)
    have pD:Hid (Below w.heap.size w WF):=by rw[Ll];exact cF (aT (by omega) _ _ (aT (by omega) _ _ iy.out))
    have BP:Hid (∀{base n k:Nat} {T:I5} {v:Value} {xs:List Value},w.heap.size+1+1<base->w1.ownsRow base T k v n xs->WF.ownsRow base T k v n xs):=λhbs h=>by rw[Ll];exact wa (cE (by omega) _ _ (cE (by omega) _ _ (tA h Xn.out)))
    clear Ll)
  obtain⟨q0,q1,q2,q3,q4,q5,q6,q7,q8,q9,q10,q11⟩:=bB hz;obtain⟨r0,r1,r2,r3,r4,r5⟩:=fx hy;exact IK (v:=Ik #[Ij #[Y u0,Y u1,J b2 m2 e2,J b3 m3 e3,J b4 m4 e4,J b5 m5 e5,U O u6,U O u7,U O u8,U O u9,U O u10,J b11 m11 e11],Ij #[Y s0,Ia false,J ta tk tc,J be 0 0,J be 0 0,J be 0 0],U O r]) (by simp[results,Tryz.results18,go_sem,q0,q1,q2,q3,q4,q5,q6,q7,q8,q9,q10,q11,r0,r1,r2,r3,r4,r5]) rfl (tP.out _ pD.out BP.out)
def bgA:Nd:=GR ⟨#[97]⟩ ⟨#[99]⟩ 1 false
def Xq:Nd:=GR ⟨#[98]⟩ ⟨#[99]⟩ 2 true
def bgP:Pk:=⟨⟨#[98]⟩,true,Xq.ms,Xq.sv,Xq.gw,Xq.wh⟩
def bg3:Nd:=og bgA bgP
def Rm:Nd:=zN bg3 ⟨#[98]⟩ 2
def To:Mem:=⟨⟨#[98]⟩,2,1,2,true⟩
theorem Xr:Ns ⟨#[97]⟩ ⟨#[99]⟩ 1=0:=by kernel_rfl
theorem Xs:Ns ⟨#[98]⟩ ⟨#[99]⟩ 2=0:=by kernel_rfl
theorem Xt:bgA.e=0:=by kernel_rfl
theorem Xu:Xq.e=0:=by kernel_rfl
theorem Xv:ou bgA bgP=0:=by kernel_rfl
theorem Xw:bg3.e=0:=by kernel_rfl
theorem Xx:sx bg3 ⟨#[98]⟩ 1 2=0:=by kernel_rfl
theorem Xy:Rm.e=0:=by kernel_rfl
theorem Xz:Rm.ms.length=2:=by kernel_rfl
theorem XA:Rm.rs=[⟨To,0⟩]:=by kernel_rfl
theorem N0{l:List Mem}{rest:List bE}(h:fj Rm l rest):l=[To]:=by
 obtain⟨told,ht,hp,_⟩:=h;rw[XA] at ht;rcases ht with⟨h,_⟩|⟨_,ord,ho,rfl,_⟩
 .cases h
 .have h1:ord=[0]:=by
   have:=ho.perm;rw[show List.range [(⟨To,0⟩:bE)].length=[0] from rfl] at this;exact List.perm_singleton.1 this
  subst h1;have h2:gM [(⟨To,0⟩:bE)] [0] (min 5 [(⟨To,0⟩:bE)].length)=[To]:=by kernel_rfl
  rw[h2] at hp;exact List.perm_singleton.1 hp
def qD(B:Nat)(w:World)(n:Nd)(A:Array Value):Prop:=∃vm vr vs vg vw,A=dv n vm vr vs vg vw/\cP B w n vm vr vs vg vw/\iw n
theorem qD.is{B:Nat}{w:World}{n:Nd}{A:Array Value}(h:qD B w n A):gD w n A:=by
 obtain⟨a,b,c,d,e,h1,h2,h3⟩:=h;exact⟨a,b,c,d,e,h1,h2.is h3⟩
theorem dB.ok{ne er:Int}{n':Nd}{w w':World}{e:OS}(h:dB ne er n' w e w')(h1:ne=0)(h2:er=0):∃A,e=AT (Ik #[Ij A,U O 0])/\qD w.heap.size w' n' A/\Below w.heap.size w w':=by
 obtain⟨hb,⟨h3,_⟩|⟨_,h3,_⟩|⟨_,_,um,ur,us,ug,uw,rfl,ho,hk⟩⟩:=h
 .exact absurd h1 h3
 .exact absurd h2 h3
 .exact⟨_,rfl,⟨_,_,_,_,_,rfl,ho,hk⟩,hb⟩
def pkV(t0:ByteArray)(b1:Bool)(p2:Option Addr)(k2 c2:Nat)(p3:Option Addr)(k3 c3:Nat)(p4:Option Addr)(k4 c4:Nat)(p5:Option Addr)(k5 c5:Nat):Array Value:=
 #[Y t0,Ia b1,J p2 k2 c2,J p3 k3 c3,J p4 k4 c4,J p5 k5 c5]
def qE(w:World)(p:Pk)(A:Array Value):Prop:=∃vm vs vg vw,A=#[Y p.cV,Ia p.whole,vm,vs,vg,vw]/\kz w p vm vs vg vw
theorem qE.below{w w':World}{p:Pk}{A:Array Value}(h:qE w p A)(hb:Below w.heap.size w w'):qE w' p A:=by
 obtain⟨a,b,c,d,h1,h2⟩:=h;exact⟨a,b,c,d,h1,h2.below hb⟩
theorem qE.is{w:World}{p:Pk}{A:Array Value}(h:qE w p A):R7 w p A:=by
 obtain⟨a,b,c,d,h1,h2⟩:=h;exact⟨a,b,c,d,h1,h2.ms,h2.sv,h2.gw,h2.wh⟩
theorem R7.letters{w:World}{p:Pk}{A:Array Value}(h:R7 w p A):∃t0 b1 p2 k2 c2 p3 k3 c3 p4 k4 c4 p5 k5 c5,A=pkV t0 b1 p2 k2 c2 p3 k3 c3 p4 k4 c4 p5 k5 c5:=by
 obtain⟨vm,vs,vg,vw,rfl,⟨pm,cm,rfl,_⟩,⟨ps,cs,rfl,_⟩,⟨pg,cg,rfl,_⟩,⟨pw,cw,rfl,_⟩⟩:=h;exact⟨_,_,_,_,_,_,_,_,_,_,_,_,_,_,rfl⟩
theorem FO{base n k:Nat}{T:I5}{w:World}{v:Value}{xs:List Value}(h:w.ownsRow base T k v n xs):Roomy v:=by
 obtain⟨a,c,rfl,hn⟩:=aA h;exact hn
def Nd.pk(n:Nd):Pk:=⟨n.name,true,n.ms,n.sv,n.gw,n.wh⟩
theorem jO.ok{n:Nd}{ne:Int}{w w':World}{e:OS}(h:jO n ne w e w')(h1:ne=0)(hk:iw n):∃A,e=AT (Ik #[Ij A,U O 0])/\qE w' n.pk A/\Below w.heap.size w w':=by
 obtain⟨hb,⟨h3,_⟩|⟨_,um,us,ug,uw,rfl,o1,o2,o3,o4⟩⟩:=h
 .exact absurd h1 h3
 .exact⟨_,rfl,⟨_,_,_,_,rfl,o1.sl (cy hk.ms),o2.sl (Sv.cy hk.sv),o3.sl (Gw.cy hk.gw),o4.sl (Wh.cy hk.wh),hk.name,FO o1⟩,hb⟩
theorem gD.ok{w:World}{n:Nd}{A:Array Value}(h:gD w n A):iw n:=by
 obtain⟨_,_,_,_,_,_,h⟩:=h;exact h.ok
theorem Lm{w:World}{n:Nd}{A:Array Value}(h:gD w n A):aI 23 #[Ij A] w λe w'=>jO n n.e w e w':=by
 obtain⟨_,_,_,_,_,rfl,h⟩:=h;exact wH n _ _ _ _ _ w h
theorem N1{w:World}{n:Nd}{p:Pk}{A P:Array Value}(h:gD w n A)(hp:qE w p P)(hlen:p.whole=true\/p.sv.length+p.gw.length+p.wh.length<=4611686018427387904):aI 24 #[Ij A,Ij P] w λe w'=>dB n.e (ou n p) (og n p) w e w':=by
 obtain⟨_,_,_,_,_,rfl,h⟩:=h;obtain⟨_,_,_,_,rfl,hp⟩:=hp;exact ue n p _ _ _ _ _ _ _ _ _ w h hp hlen
theorem Ln{w:World}{n:Nd}{A:Array Value}(h:gD w n A)(t:ByteArray)(ht:t.size<=maxLen):aI 25 #[Ij A,Y t] w λe w'=>dB n.e (sx n t 1 2) (zN n t 2) w e w':=by
 obtain⟨_,_,_,_,_,rfl,h⟩:=h;exact wG n t _ _ _ _ _ w h ht
theorem N2{w:World}{n:Nd}{A:Array Value}(h:gD w n A):aI 18 #[Ij A] w λe w'=>nu n n.e w e w':=by
 obtain⟨_,_,_,_,_,rfl,h⟩:=h;exact uA n _ _ _ _ _ w h
theorem nu.ok{n:Nd}{ne:Int}{w w':World}{e:OS}(h:nu n ne w e w')(h1:ne=0):∃A a k c l rest,e=AT (Ik #[Ij A,Ij #[Y n.name,Ia false,J a k c,J be 0 0,J be 0 0,J be 0 0],U O 0])/\fj n l rest/\qD w.heap.size w' { n with rs:=rest } A/\Own w.heap.size w' (J a k c) l/\Below w.heap.size w w':=by
 obtain⟨hb,⟨h3,_⟩|⟨_,n',um,ur,us,ug,uw,a,k,c,l,rfl,hn,ht,ho,hk,hl⟩⟩:=h
 .exact absurd h1 h3
 .refine⟨_,a,k,c,l,n'.rs,rfl,ht,?_,hl,hb⟩
  rw[<- hn];exact⟨_,_,_,_,_,rfl,ho,hk⟩
theorem qD.aC{B:Nat}{w:World}{n:Nd}{A:Array Value}(h:qD B w n A){b:Nat}(hb:b<B)(L:List Value)(j:Nat):qD B (aC b L j w) n A:=by
 obtain⟨v1,v2,v3,v4,v5,h1,h2,h3⟩:=h;exact⟨v1,v2,v3,v4,v5,h1,⟨cE hb L j h2.ms,cE hb L j h2.rs,cE hb L j h2.sv,cE hb L j h2.gw,cE hb L j h2.wh⟩,h3⟩
theorem gD.len{w:World}{n:Nd}{A:Array Value}(h:gD w n A):∃p c,A[2]?=AI (J p n.ms.length c):=by
 obtain⟨vm,vr,vs,vg,vw,rfl,⟨pm,cm,rfl,_⟩,_⟩:=h;exact⟨pm,cm,rfl⟩
theorem one_le:(1:Nat)<=maxLen:=by decide
theorem vI(w:World):Calls Tryz.prog 7 #[] w λe w'=>e=AT (Ia true)/\Below w.heap.size w w':=by
 go_enter Tryz.func7,Tryz.ntmps7;go_wp2_with fail;refine(sS ⟨#[97]⟩ ⟨#[99]⟩ 1 false w one_le one_le).mono ?_;intro e w1 h;obtain⟨A1,rfl,hA,aB⟩:=h.ok Xr rfl;obtain⟨Tp,t1a,p2a,k2a,c2a,p3a,k3a,c3a,p4a,k4a,c4a,p5a,k5a,c5a,i6a,i7a,i8a,i9a,N3,N4,N5,N6,rfl⟩:=hA.is.letters;simp only[Mu] at hA ⊢;have XB:Hid (gD _ _ _):=hA.is;have ba:Hid _:=aB;have da:=aB.size;clear h hA aB;obtain⟨W1,cT⟩:∃W1,W1=w1.alloc (By #[Y Tp,Y t1a,J p2a k2a c2a,J p3a k3a c3a,J p4a k4a c4a,J p5a k5a c5a,U O i6a,U O i7a,U O i8a,U O i9a,U O N3,J N4 N5 N6] 42):=⟨_,rfl⟩;have ha1:Below w1.heap.size w1 W1:=by rw[cT];exact(Ib _ _).alloc (Ic _) _
 have vp:Hid (W1.heap[w1.heap.size]?=AI (By #[Y Tp,Y t1a,J p2a k2a c2a,J p3a k3a c3a,J p4a k4a c4a,J p5a k5a c5a,U O i6a,U O i7a,U O i8a,U O i9a,U O N3,J N4 N5 N6] 42 (0,0))):=by rw[cT];exact Ih w1 _
 have ft:W1.heap.size=w1.heap.size+1:=by rw[cT];simp
 have XC:Hid (gD _ _ _):=XB.out.below ha1;have bu:Hid _:=ba.out.trans (ha1.mono da);clear ha1 XB;go_upto_region 2 with fail
 rw[<- cT];clear cT;go_wp2_with fail;refine(sS ⟨#[98]⟩ ⟨#[99]⟩ 2 true W1 one_le one_le).mono ?_;intro e w2 h;obtain⟨A1,rfl,hA,aB⟩:=h.ok Xs rfl;obtain⟨t0b,t1b,p2b,k2b,c2b,p3b,k3b,c3b,p4b,k4b,c4b,p5b,k5b,c5b,i6b,i7b,i8b,i9b,N7,N8,N9,Pa,rfl⟩:=hA.is.letters;simp only[Mu] at hA ⊢;have Mf:Hid (gD _ _ _):=hA.is;have Rn:Hid (gD _ _ _):=XC.out.below aB;have cJ:Hid _:=bu.out.trans (aB.mono (by omega));have afr:Hid _:=(aB.block _ (by omega)).trans vp.out;have nW:w1.heap.size<w2.heap.size:=by have:=aB.size;omega
 clear h hA aB XC;obtain⟨W2,bJ⟩:∃W2,W2=w2.alloc (By #[Y t0b,Y t1b,J p2b k2b c2b,J p3b k3b c3b,J p4b k4b c4b,J p5b k5b c5b,U O i6b,U O i7b,U O i8b,U O i9b,U O N7,J N8 N9 Pa] 42):=⟨_,rfl⟩;have XD:Below w2.heap.size w2 W2:=by rw[bJ];exact(Ib _ _).alloc (Ic _) _
 have sg:Hid (W2.heap[w2.heap.size]?=AI (By #[Y t0b,Y t1b,J p2b k2b c2b,J p3b k3b c3b,J p4b k4b c4b,J p5b k5b c5b,U O i6b,U O i7b,U O i8b,U O i9b,U O N7,J N8 N9 Pa] 42 (0,0))):=by rw[bJ];exact Ih w2 _
 have iv:W2.heap.size=w2.heap.size+1:=by rw[bJ];simp
 have XE:Hid (gD _ _ _):=Rn.out.below XD;have Vx:Hid (gD _ _ _):=Mf.out.below XD;have fO:Hid _:=cJ.out.trans (XD.mono (by omega));have afs:Hid _:=(XD.block _ nW).trans afr.out;have hg:=sg.out;obtain⟨y0,y1,y2,y3,y4,y5,y6,y7,y8,y9,y10,y11⟩:=bB hg;clear XD Rn Mf hg;go_upto_region 3 with fail
 rw[<- bJ];clear bJ;go_wp2_with fail;refine(Lm Vx.out).mono ?_;intro e w3 h;obtain⟨A1,rfl,hP,aB⟩:=h.ok Xu Vx.out.ok;obtain⟨t0p,b1p,p2p,k2p,c2p,p3p,k3p,c3p,p4p,k4p,c4p,p5p,k5p,c5p,rfl⟩:=hP.is.letters;simp only[pkV] at hP ⊢;have mB:Hid (qE _ _ _):=hP;have HA5:Hid (gD _ _ _):=XE.out.below aB;have iy:Hid _:=fO.out.trans (aB.mono (by omega));have Lo:Hid _:=(aB.block _ (by omega)).trans afs.out;have qL:w1.heap.size<w3.heap.size:=by have:=aB.size;omega
 clear h hP aB XE Vx y0 y1 y2 y3 y4 y5 y6 y7 y8 y9 y10 y11;obtain⟨W3,eu⟩:∃W3,W3=w3.alloc (By #[Y t0p,Ia b1p,J p2p k2p c2p,J p3p k3p c3p,J p4p k4p c4p,J p5p k5p c5p] 53):=⟨_,rfl⟩;have RY:Below w3.heap.size w3 W3:=by rw[eu];exact(Ib _ _).alloc (Ic _) _
 have Sb:Hid (W3.heap[w3.heap.size]?=AI (By #[Y t0p,Ia b1p,J p2p k2p c2p,J p3p k3p c3p,J p4p k4p c4p,J p5p k5p c5p] 53 (0,0))):=by rw[eu];exact Ih w3 _
 have sn:W3.heap.size=w3.heap.size+1:=by rw[eu];simp
 have HA6:Hid (gD _ _ _):=HA5.out.below RY;have oI:Hid (qE _ _ _):=mB.out.below RY;have pD:Hid _:=iy.out.trans (RY.mono (by omega));have hg:=Sb.out;have cO:=(RY.block _ qL).trans Lo.out;have aft:Hid _:=cO;obtain⟨y0,y1,y2,y3,y4,y5⟩:=fx hg;obtain⟨x0,x1,x2,x3,x4,x5,x6,x7,x8,x9,x10,x11⟩:=bB cO;clear RY HA5 mB hg cO;go_upto_region 4 with fail
 rw[<- eu];clear eu;go_wp2_with fail;refine(N1 HA6.out oI.out (.inl rfl)).mono ?_;intro e w4 h;obtain⟨A1,rfl,hA,aB⟩:=h.ok Xt Xv;obtain⟨XF,XG,Tq,Mw,Ro,XH,XI,XJ,XK,XL,XM,XN,XO,XP,XQ,XR,XS,XT,Lp,Lq,Lr,Lu,rfl⟩:=hA.is.letters;simp only[Mu] at hA ⊢;have HA7:Hid (qD _ _ _ _):=hA;have yN:Hid _:=pD.out.trans (aB.mono (by omega));have cO:=(aB.block _ (by omega)).trans aft.out;have mH:=aB.size;clear h hA aB HA6 oI y0 y1 y2 y3 y4 y5 x0 x1 x2 x3 x4 x5 x6 x7 x8 x9 x10 x11;obtain⟨x0,x1,x2,x3,x4,x5,x6,x7,x8,x9,x10,x11⟩:=bB cO;obtain⟨xz0,xz1,xz2,xz3,xz4,xz5,xz6,xz7,xz8,xz9,Tr,Ts⟩:=kd cO;obtain⟨W4,nZ⟩:∃W4,W4=((((((((((((w4.setCell ⟨w1.heap.size,0,be⟩ (Y XF)).setCell ⟨w1.heap.size,1,be⟩ (Y XG)).setCell ⟨w1.heap.size,2,be⟩ (J Tq Mw Ro)).setCell ⟨w1.heap.size,3,be⟩ (J XH XI XJ)).setCell ⟨w1.heap.size,4,be⟩ (J XK XL XM)).setCell ⟨w1.heap.size,5,be⟩ (J XN XO XP)).setCell ⟨w1.heap.size,6,be⟩ (U O XQ)).setCell ⟨w1.heap.size,7,be⟩ (U O XR)).setCell ⟨w1.heap.size,8,be⟩ (U O XS)).setCell ⟨w1.heap.size,9,be⟩ (U O XT)).setCell ⟨w1.heap.size,10,be⟩ (U O Lp)).setCell ⟨w1.heap.size,11,be⟩ (J Lq Lr Lu)):=⟨_,rfl⟩;have XU:W4=aC w1.heap.size [Y XF,Y XG,J Tq Mw Ro,J XH XI XJ,J XK XL XM,J XN XO XP,U O XQ,U O XR,U O XS,U O XT,U O Lp,J Lq Lr Lu] 0 w4:=by rw[nZ];simp only[aC,IC,Jf]
 have dS:W4.heap[w1.heap.size]?=AI (By #[Y XF,Y XG,J Tq Mw Ro,J XH XI XJ,J XK XL XM,J XN XO XP,U O XQ,U O XR,U O XS,U O XT,U O Lp,J Lq Lr Lu] 42 (0,0)):=by rw[XU];exact lq cO _ _ _ _ _ _ _ _ _ _ _ _
 have afD:Hid _:=dS;have HB8:Hid (Below w.heap.size w W4):=by rw[XU];exact aT da _ _ yN.out
 have HA8:Hid (gD W4 bg3 #[Y XF,Y XG,J Tq Mw Ro,J XH XI XJ,J XK XL XM,J XN XO XP,U O XQ,U O XR,U O XS,U O XT,U O Lp,J Lq Lr Lu]):=by rw[XU];exact(HA7.out.aC (by omega) _ _).is
 have AZ:W4.heap.size=w4.heap.size:=by rw[XU];exact fw _ _ _ _
 obtain⟨u0,u1,u2,u3,u4,u5,u6,u7,u8,u9,u10,u11⟩:=bB dS;clear XU cO dS HA7;go_upto_region 5 with fail
 rw[<- nZ];clear nZ x0 xz0 x1 xz1 x2 xz2 x3 xz3 x4 xz4 x5 xz5 x6 xz6 x7 xz7 x8 xz8 x9 xz9 x10 Tr x11 Ts;go_wp2_with fail;refine(Ln HA8.out ⟨#[98]⟩ one_le).mono ?_;intro e w5 h;obtain⟨A1,rfl,hA,aB⟩:=h.ok Xw Xx;obtain⟨XV,XW,Tt,Tu,Tv,XX,XY,XZ,X6,X7,X8,X9,k5d,c5d,i6d,i7d,i8d,i9d,Lv,Lw,Lx,Ly,rfl⟩:=hA.is.letters;simp only[Mu] at hA ⊢;have HA9:Hid (qD W4.heap.size w5 Rm #[Y XV,Y XW,J Tt Tu Tv,J XX XY XZ,J X6 X7 X8,J X9 k5d c5d,U O i6d,U O i7d,U O i8d,U O i9d,U O Lv,J Lw Lx Ly]):=hA;have jJ:Tu=2:=by
  obtain⟨p,c,hp⟩:=hA.is.len;have sL:AI (J Tt Tu Tv)=AI (J p Rm.ms.length c):=hp;rw[Xz] at sL;injection sL with sL;injection sL
 have Mi:Hid _:=HB8.out.trans (aB.mono (by omega));have cO:=(aB.block _ (by omega)).trans afD.out;have ju:=aB.size;clear h hA aB HA8 u0 u1 u2 u3 u4 u5 u6 u7 u8 u9 u10 u11;obtain⟨x0,x1,x2,x3,x4,x5,x6,x7,x8,x9,x10,x11⟩:=bB cO;obtain⟨xz0,xz1,xz2,xz3,xz4,xz5,xz6,xz7,xz8,xz9,Tr,Ts⟩:=kd cO;obtain⟨W5,jo⟩:∃W5,W5=((((((((((((w5.setCell ⟨w1.heap.size,0,be⟩ (Y XV)).setCell ⟨w1.heap.size,1,be⟩ (Y XW)).setCell ⟨w1.heap.size,2,be⟩ (J Tt Tu Tv)).setCell ⟨w1.heap.size,3,be⟩ (J XX XY XZ)).setCell ⟨w1.heap.size,4,be⟩ (J X6 X7 X8)).setCell ⟨w1.heap.size,5,be⟩ (J X9 k5d c5d)).setCell ⟨w1.heap.size,6,be⟩ (U O i6d)).setCell ⟨w1.heap.size,7,be⟩ (U O i7d)).setCell ⟨w1.heap.size,8,be⟩ (U O i8d)).setCell ⟨w1.heap.size,9,be⟩ (U O i9d)).setCell ⟨w1.heap.size,10,be⟩ (U O Lv)).setCell ⟨w1.heap.size,11,be⟩ (J Lw Lx Ly)):=⟨_,rfl⟩;have hF5:W5=aC w1.heap.size [Y XV,Y XW,J Tt Tu Tv,J XX XY XZ,J X6 X7 X8,J X9 k5d c5d,U O i6d,U O i7d,U O i8d,U O i9d,U O Lv,J Lw Lx Ly] 0 w5:=by rw[jo];simp only[aC,IC,Jf]
 have dS:W5.heap[w1.heap.size]?=AI (By #[Y XV,Y XW,J Tt Tu Tv,J XX XY XZ,J X6 X7 X8,J X9 k5d c5d,U O i6d,U O i7d,U O i8d,U O i9d,U O Lv,J Lw Lx Ly] 42 (0,0)):=by rw[hF5];exact lq cO _ _ _ _ _ _ _ _ _ _ _ _
 have afE:Hid _:=dS;have afF:Hid (Below w.heap.size w W5):=by rw[hF5];exact aT da _ _ Mi.out
 have aah:Hid (gD W5 Rm #[Y XV,Y XW,J Tt Tu Tv,J XX XY XZ,J X6 X7 X8,J X9 k5d c5d,U O i6d,U O i7d,U O i8d,U O i9d,U O Lv,J Lw Lx Ly]):=by rw[hF5];exact(HA9.out.aC (by omega) _ _).is
 have Kb:W5.heap.size=w5.heap.size:=by rw[hF5];exact fw _ _ _ _
 obtain⟨u0,u1,u2,u3,u4,u5,u6,u7,u8,u9,u10,u11⟩:=bB dS;clear hF5 cO dS HA9;have jY:=jJ;clear jJ;have pM:Hid _:=jY;clear jY;go_upto_region 6 with fail
 rw[<- jo];clear jo x0 xz0 x1 xz1 x2 xz2 x3 xz3 x4 xz4 x5 xz5 x6 xz6 x7 xz7 x8 xz8 x9 xz9 x10 Tr x11 Ts;go_wp2_with fail;refine(N2 aah.out).mono ?_;intro e w6 h;obtain⟨A1,ta,tk,tc,l,rest,rfl,hT,hA,Re,aB⟩:=h.ok Xy;obtain⟨t0e,t1e,p2e,k2e,c2e,p3e,k3e,c3e,p4e,k4e,c4e,p5e,k5e,c5e,i6e,i7e,i8e,i9e,aai,aaj,aak,aal,rfl⟩:=hA.is.letters;simp only[Mu] at hA ⊢;have hl:=N0 hT;subst hl;have sy:w1.heap.size<w6.heap.size:=by have:=aB.size;omega
 have cO:=(aB.block _ (by omega)).trans afE.out;have Cz:Hid _:=afF.out.trans (aB.mono (by omega));obtain⟨a,cap,hv,_,cR⟩:=Re.sl (cy (by intro m hm;rw[List.mem_singleton.1 hm];exact one_le));injection hv with AW P5 zz;rcases cR with h0|⟨g,off,hp,aX,cR⟩
 .cases h0
 have hc:=(cR 0 (by simp)).2.1;have DR:w6.cell? ⟨g,off+1,be⟩=AI (U O 2):=by simpa[To] using hc
 have HC:Hid _:=DR;clear DR;subst AW hp;have afG:=P5;subst afG;clear P5 zz cR hc hT hA Re h aB aah u0 u1 u2 u3 u4 u5 u6 u7 u8 u9 u10 u11;generalize Rm.name=qn at *;obtain⟨W6,qu⟩:∃W6,W6=(w6.alloc (By #[Y t0e,Y t1e,J p2e k2e c2e,J p3e k3e c3e,J p4e k4e c4e,J p5e k5e c5e,U O i6e,U O i7e,U O i8e,U O i9e,U O aai,J aaj aak aal] 42)).alloc (By #[Y qn,Ia false,J (AI ⟨g,off,be⟩) 1 tc,J be 0 0,J be 0 0,J be 0 0] 53):=⟨_,rfl⟩;have GD:Below w6.heap.size w6 W6:=by rw[qu];exact((Ib _ _).alloc (Ic _) _).alloc (by simp) _
 have hgq:W6.heap[w6.heap.size+1]?=AI (By #[Y qn,Ia false,J (AI ⟨g,off,be⟩) 1 tc,J be 0 0,J be 0 0,J be 0 0] 53 (0,0)):=by
  have h:=Ih (w6.alloc (By #[Y t0e,Y t1e,J p2e k2e c2e,J p3e k3e c3e,J p4e k4e c4e,J p5e k5e c5e,U O i6e,U O i7e,U O i8e,U O i9e,U O aai,J aaj aak aal] 42)) (By #[Y qn,Ia false,J (AI ⟨g,off,be⟩) 1 tc,J be 0 0,J be 0 0,J be 0 0] 53);rw[qu];simpa using h
 have hgd:=(GD.block _ sy).trans cO;have z1:W6.cell? ⟨w1.heap.size,2,be⟩=AI (J Tt 2 Tv):=(ae hgd 2).trans (by rw[pM.out];rfl);have z2:=ae hgq 2;have z3:=(GD.cell aX).trans HC.out;have afH:Hid _:=Cz.out.trans (GD.mono Cz.out.size);clear GD hgq hgd cO aX;go_upto_region 7 with fail
 rw[<- qu];clear qu;go_wp2_with fail;go_ret;exact⟨rfl,afH.out⟩
end Go.Proofs.YtfidhgjmifendaaGreatDoor
