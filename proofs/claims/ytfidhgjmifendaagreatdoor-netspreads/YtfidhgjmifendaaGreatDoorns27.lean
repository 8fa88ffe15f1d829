import Derived.Test.YtfidhgjmifendaaGreatDoorns25
set_option maxHeartbeats 25600000
set_option maxRecDepth 100000
open Option renaming none→be,some→AI
open Go renaming Ending→OS,heap_alloc_new→Ih,bodyPost_ret→IK,maxLen→Il
open Go.Ending renaming returned→AT
open Go.Value renaming tuple→Ik,agg→Ij,string→Y,slice→J,int→U,pointer→Ie,func→IT,bool→Ia
open Go.IntKind renaming i64→O
open Go.Obj renaming cells→By
open Nat renaming le_refl→Ic,zero_add→IC,reduceAdd→Jf
open Array renaming getElem?_eq_some_iff→BY
open Go.World renaming frozen?→Is,setCell→Q0
namespace Go.Proofs.YtfidhgjmifendaaGreatDoor
open Go.RowKit
theorem KM{S:Nat->Prop}{w w':World}(h:Sh (λk=>S k\/w.heap.size<=k) w w'):Sh S w w':=by
 refine⟨h.os,h.tape,h.output,h.size,λk hk hn=>h.block k hk ?_⟩;rintro(e|e)
 .exact hn e
 .omega
theorem Sh.jz{S:Nat->Prop}{L:Nat}{a w:World}(h:Sh (λk=>S k\/L<=k) a w){b i:Nat}(hb:L<=b)(x:Value):Sh (λk=>S k\/L<=k) a (w.setCell ⟨b,i,be⟩ x):=h.setCell (S:=λk=>S k\/L<=k) (.inr hb) x
theorem Sh.ub{S:Nat->Prop}{L:Nat}{a w:World}(h:Sh (λk=>S k\/L<=k) a w){b:Nat}(hb:L<=b)(x0 x1 x2 x3 x4 x5 x6 x7 x8 x9 x10 x11:Value):Sh (λk=>S k\/L<=k) a ((((((((((((w.setCell ⟨b,0,be⟩ x0).setCell ⟨b,1,be⟩ x1).setCell ⟨b,2,be⟩ x2).setCell ⟨b,3,be⟩ x3).setCell ⟨b,4,be⟩ x4).setCell ⟨b,5,be⟩ x5).setCell ⟨b,6,be⟩ x6).setCell ⟨b,7,be⟩ x7).setCell ⟨b,8,be⟩ x8).setCell ⟨b,9,be⟩ x9).setCell ⟨b,10,be⟩ x10).setCell ⟨b,11,be⟩ x11):=((((((((((((h).jz (i:=0) hb _).jz (i:=1) hb _).jz (i:=2) hb _).jz (i:=3) hb _).jz (i:=4) hb _).jz (i:=5) hb _).jz (i:=6) hb _).jz (i:=7) hb _).jz (i:=8) hb _).jz (i:=9) hb _).jz (i:=10) hb _).jz (i:=11) hb _
def lv(ne er:Int)(S:Nat->Prop)(R:Nd->World->Prop)(w:World)(e:OS)(w':World):Prop:=Sh S w w' /\
 ((ne≠0/\Below w.heap.size w w'/\e=AT (Ik #[Ij #[Y ⟨#[]⟩,Y ⟨#[]⟩,J be 0 0,J be 0 0,J be 0 0,J be 0 0,U O 0,U O 0,U O 0,U O 0,U O 0,J be 0 0],U O ne]))\/(ne=0/\er≠0/\e=AT (Ik #[Ij #[Y ⟨#[]⟩,Y ⟨#[]⟩,J be 0 0,J be 0 0,J be 0 0,J be 0 0,U O 0,U O 0,U O 0,U O 0,U O 0,J be 0 0],U O er])) \/
 (ne=0/\er=0/\∃n' um ur us ug uw,e=AT (Ik #[Ij (dv n' um ur us ug uw),U O 0])/\cP w.heap.size w' n' um ur us ug uw/\iw n'/\R n' w'))
theorem wF(kf:Nat)(cs:Array Value)(eg:∀args w,(callFunc kf args).run Tryz.prog w=.ok (.enter kf args) w)(n:Nd)(vm vr vs vg vw:Value)(w:World)(h:eY w n vm vr vs vg vw)(S:Nat->Prop)(er:Int)(R:Nd->World->Prop)(hF:n.e=0->∀W b,Below w.heap.size w W->w.heap.size+2<=b->Wk (w.heap.size+2) W b n->aI kf (#[Ie (AI ⟨b,0,be⟩)]++cs) W λe w'=>e=AT (U O er)/\Sh (λk=>w.heap.size+2<=k\/S k) W w'/\(er=0->∃n',Wk (w.heap.size+2) w' b n'/\R n' w'))(hR:∀n' W j x,R n' W->R n' (W.setCell ⟨w.heap.size+1,j,be⟩ x))(hS:∀k,S k->k<w.heap.size) :
 aI 29 #[Ij (dv n vm vr vs vg vw),IT (.func kf) #[] cs] w λe w'=>lv n.e er S R w e w':=by
 have mC:Hid _:=h;have lC:Hid _:=h.ok;have oq:Hid (∀W,Below w.heap.size w W->aI _ _ _ _):=λW hW=>oR n vm vr vs vg vw W (h.below hW);have KN:Hid (n.e=0->∀W,Below w.heap.size w W->aI 37 #[Ij (dv n vm vr vs vg vw)] W λe w'=>∃um ur us ug uw,e=AT (Ij (dv n um ur us ug uw))/\cP W.heap.size w' n um ur us ug uw/\Below W.heap.size W w'):=λhe W hW=>by
  have hp:=Nd.parts (Nd.aN he).1;have l1:=(af hp.ms).1;have l2:=(lY hp.rs).1;have l3:=(Sv.af hp.sv).1;have l4:=(Gw.af hp.gw).1;have l5:=(Wh.af hp.wh).1;exact rf n vm vr vs vg vw W (h.below hW) (by omega) (by omega) (by omega) (by omega) (by omega)
 have HF:Hid _:=hF;have HR:Hid _:=hR;have HSL:Hid _:=hS;clear hF hR hS;obtain⟨nm,ct,ms,rs,sv,gw,⟨px,py,pz,ph,pq⟩,wh⟩:=n;obtain⟨⟨em,cm,rfl,_,_⟩,⟨rm,cr,rfl,_,_⟩,⟨es,rn,rfl,_,_⟩,⟨rq,cg,rfl,_,_⟩,⟨eh,ch,rfl,_,_⟩,_,_⟩:=h;simp only[dv] at oq KN ⊢;generalize tQ:ms.length=km at *;have Hkm:Hid _:=tQ;generalize Bo:rs.length=kr at *;have Hkr:Hid _:=Bo;generalize SQ:sv.length=ks at *;have Hks:Hid _:=SQ;generalize Sq:gw.length=kg at *;have Hkg:Hid _:=Sq;generalize WG:wh.length=kh at *;have Hkh:Hid _:=WG;clear tQ Bo SQ Sq WG;have HNE:Hid (∃ne,ne=Nd.e ⟨nm,ct,ms,rs,sv,gw,⟨px,py,pz,ph,pq⟩,wh⟩):=⟨_,rfl⟩;generalize Nd.e ⟨nm,ct,ms,rs,sv,gw,⟨px,py,pz,ph,pq⟩,wh⟩=ne at *;obtain⟨W0,bN⟩:∃W0,W0=(w.alloc (By #[Y nm,Y ct,J em km cm,J rm kr cr,J es ks rn,J rq kg cg,U O px,U O py,U O pz,U O ph,U O pq,J eh kh ch] 42)).alloc (By #[Y ⟨#[]⟩,Y ⟨#[]⟩,J be 0 0,J be 0 0,J be 0 0,J be 0 0,U O 0,U O 0,U O 0,U O 0,U O 0,J be 0 0] 42):=⟨_,rfl⟩;have bO:Below w.heap.size w W0:=by rw[bN];exact((Below.refl _ _).alloc (Ic _) _).alloc (by simp) _
 have dI:W0.heap[w.heap.size]?=AI (By #[Y nm,Y ct,J em km cm,J rm kr cr,J es ks rn,J rq kg cg,U O px,U O py,U O pz,U O ph,U O pq,J eh kh ch] 42 (0,0)):=by
  rw[bN,Below.heap_alloc _ _ _ (by simp)];exact Ih w _
 have di:W0.heap[w.heap.size+1]?=AI (By #[Y ⟨#[]⟩,Y ⟨#[]⟩,J be 0 0,J be 0 0,J be 0 0,J be 0 0,U O 0,U O 0,U O 0,U O 0,U O 0,J be 0 0] 42 (0,0)):=by
  have h:=Ih (w.alloc (By #[Y nm,Y ct,J em km cm,J rm kr cr,J es ks rn,J rq kg cg,U O px,U O py,U O pz,U O ph,U O pq,J eh kh ch] 42)) (By #[Y ⟨#[]⟩,Y ⟨#[]⟩,J be 0 0,J be 0 0,J be 0 0,J be 0 0,U O 0,U O 0,U O 0,U O 0,U O 0,J be 0 0] 42);rw[bN];simpa using h
 have eK:W0.heap.size=w.heap.size+2:=by rw[bN];simp
 have db:Hid _:=bO;have Bf:Hid _:=dI;have nY:Hid _:=di;clear bO dI di;go_enter Tryz.func29,Tryz.ntmps29;go_wp2_with fail;rw[<- bN];clear bN;refine(oq.out W0 db.out).mono ?_;rintro e w1 ⟨rfl,aB⟩;have cO:=(aB.block _ (by omega)).trans Bf.out;have da:=(aB.block _ (by omega)).trans nY.out;have ba:Hid _:=db.out.trans (aB.mono (by omega));have ft:=(BY.1 da).1;have q0:=ae da 0;have wi:w1.frozen? ⟨w.heap.size+1,0,be⟩=false:=by simp[Is,da]
 have q1:=ae da 1;have wj:w1.frozen? ⟨w.heap.size+1,1,be⟩=false:=by simp[Is,da]
 have q2:=ae da 2;have xA:w1.frozen? ⟨w.heap.size+1,2,be⟩=false:=by simp[Is,da]
 have q3:=ae da 3;have xB:w1.frozen? ⟨w.heap.size+1,3,be⟩=false:=by simp[Is,da]
 have q4:=ae da 4;have xC:w1.frozen? ⟨w.heap.size+1,4,be⟩=false:=by simp[Is,da]
 have q5:=ae da 5;have xD:w1.frozen? ⟨w.heap.size+1,5,be⟩=false:=by simp[Is,da]
 have q6:=ae da 6;have Dh:w1.frozen? ⟨w.heap.size+1,6,be⟩=false:=by simp[Is,da]
 have q7:=ae da 7;have Di:w1.frozen? ⟨w.heap.size+1,7,be⟩=false:=by simp[Is,da]
 have q8:=ae da 8;have Dj:w1.frozen? ⟨w.heap.size+1,8,be⟩=false:=by simp[Is,da]
 have q9:=ae da 9;have Dk:w1.frozen? ⟨w.heap.size+1,9,be⟩=false:=by simp[Is,da]
 have q10:=ae da 10;have pZ:w1.frozen? ⟨w.heap.size+1,10,be⟩=false:=by simp[Is,da]
 have q11:=ae da 11;have qb:w1.frozen? ⟨w.heap.size+1,11,be⟩=false:=by simp[Is,da]
 obtain⟨p0,p1,p2,p3,p4,p5,p6,p7,p8,p9,p10,p11⟩:=bB cO;have GK:Hid _:=da;clear aB cO da;by_cases aQ:ne=0;rotate_left
 .have SR:(ne !=0)=true:=by simpa using aQ
  have HNZ:Hid _:=aQ;have xQ:Hid (Sh (λk=>S k\/w.heap.size<=k) w w1):=.of ba.out;clear aQ;go_wp2_with fail;refine IK (v:=Ik #[Ij #[Y ⟨#[]⟩,Y ⟨#[]⟩,J be 0 0,J be 0 0,J be 0 0,J be 0 0,U O 0,U O 0,U O 0,U O 0,U O 0,J be 0 0],U O ne]) ?_ rfl ?_
  .simp[results,Tryz.results29,go_sem,q0,q1,q2,q3,q4,q5,q6,q7,q8,q9,q10,q11]
  .unfold lv
   refine⟨?_,.inl ⟨HNZ.out,?_,rfl⟩⟩
   .exact KM (xQ.out.ub (Nat.le_succ _) _ _ _ _ _ _ _ _ _ _ _ _)
   .exact mV ba.out (by simp) _ _ _ _ _ _ _ _ _ _ _ _
 subst aQ;have EN:=KN.out rfl w1 ba.out;have wo:Hid (∀W b,Below w.heap.size w W->w.heap.size+2<=b->Wk (w.heap.size+2) W b ⟨nm,ct,ms,rs,sv,gw,⟨px,py,pz,ph,pq⟩,wh⟩->aI _ _ _ _):=HF.out rfl;clear HF KN;go_wp2_with fail;refine EN.mono ?_;rintro e w2 ⟨um,ur,us,ug,uw,rfl,fK,aK⟩;obtain⟨im,jm,od,_⟩:=aA fK.ms;obtain⟨ir,jr,vA,_⟩:=aA fK.rs;obtain⟨is_,js,uc,_⟩:=aA fK.sv;obtain⟨ig,jg,zO,_⟩:=aA fK.gw;obtain⟨ih,jh,EU,_⟩:=aA fK.wh;simp only at od vA uc zO EU;rw[Hkm.out] at od;rw[Hkr.out] at vA;rw[Hks.out] at uc;rw[Hkg.out] at zO;rw[Hkh.out] at EU;subst od vA uc zO EU;obtain⟨W3,eu⟩:∃W3,W3=w2.alloc (By #[Y nm,Y ct,J im km jm,J ir kr jr,J is_ ks js,J ig kg jg,U O px,U O py,U O pz,U O ph,U O pq,J ih kh jh] 90):=⟨_,rfl⟩;have bu:Hid _:=ba.out.trans (aK.mono (by omega));have cJ:Hid (Below w.heap.size w W3):=by rw[eu];exact bu.out.alloc bu.out.size _
 have iv:=aK.size;have sn:W3.heap.size=w2.heap.size+1:=by rw[eu];simp
 have B7:Below w2.heap.size w2 W3:=by rw[eu];exact(Below.refl _ _).alloc (Ic _) _
 have qK:Hid _:=(B7.block _ (by omega)).trans ((aK.block _ (by omega)).trans GK.out);have aX:∀{v:Value} {k:Nat},v.ownBlock=AI k->k<w2.heap.size->v.ownBlock≠AI w2.heap.size:=λh hk e=>by rw[h] at e;cases e;omega
 have qj:Hid (Wk (w.heap.size+2) W3 w2.heap.size ⟨nm,ct,ms,rs,sv,gw,⟨px,py,pz,ph,pq⟩,wh⟩):=by
  refine⟨_,_,_,_,_,?_,⟨(fK.ms.below B7).mono (by omega),(fK.rs.below B7).base (by omega),(fK.sv.below B7).mono (by omega),(fK.gw.below B7).mono (by omega),(fK.wh.below B7).mono (by omega)⟩,⟨λe=>?_,λe=>?_,λe=>?_,λe=>?_,λe=>?_⟩,lC.out⟩
  .rw[eu];exact Ih w2 _
  .have:=(fK.ms.lt _ e).2;omega
  .have:=(fK.rs.lt _ e).2;omega
  .have:=(fK.sv.lt _ e).2;omega
  .have:=(fK.gw.lt _ e).2;omega
  .have:=(fK.wh.lt _ e).2;omega
 have HFC:=wo.out W3 w2.heap.size cJ.out (by omega) qj.out;clear fK aK B7 aX q0 wi q1 wj q2 xA q3 xB q4 xC q5 xD q6 Dh q7 Di q8 Dj q9 Dk q10 pZ q11 qb p0 p1 p2 p3 p4 p5 p6 p7 p8 p9 p10 p11;go_wp2_with fail;rw[<- eu];refine HFC.mono ?_;rintro e w4 ⟨rfl,AR,tn⟩;have xQ:Hid (Sh (λk=>S k\/w.heap.size<=k) w w4):=(Sh.of cJ.out).trans (AR.mono (λk hk=>hk.elim (λh=>.inr (by omega)) (λh=>.inl h)));have mH:=(AR.block _ (by omega) (λhk=>hk.elim (λh=>by omega) (λh=>by have:=HSL.out _ h;omega))).trans qK.out;have gZ:Hid _:=tn;have AZ:=(BY.1 mH).1;have q0:=ae mH 0;have wi:w4.frozen? ⟨w.heap.size+1,0,be⟩=false:=by simp[Is,mH]
 have q1:=ae mH 1;have wj:w4.frozen? ⟨w.heap.size+1,1,be⟩=false:=by simp[Is,mH]
 have q2:=ae mH 2;have xA:w4.frozen? ⟨w.heap.size+1,2,be⟩=false:=by simp[Is,mH]
 have q3:=ae mH 3;have xB:w4.frozen? ⟨w.heap.size+1,3,be⟩=false:=by simp[Is,mH]
 have q4:=ae mH 4;have xC:w4.frozen? ⟨w.heap.size+1,4,be⟩=false:=by simp[Is,mH]
 have q5:=ae mH 5;have xD:w4.frozen? ⟨w.heap.size+1,5,be⟩=false:=by simp[Is,mH]
 have q6:=ae mH 6;have Dh:w4.frozen? ⟨w.heap.size+1,6,be⟩=false:=by simp[Is,mH]
 have q7:=ae mH 7;have Di:w4.frozen? ⟨w.heap.size+1,7,be⟩=false:=by simp[Is,mH]
 have q8:=ae mH 8;have Dj:w4.frozen? ⟨w.heap.size+1,8,be⟩=false:=by simp[Is,mH]
 have q9:=ae mH 9;have Dk:w4.frozen? ⟨w.heap.size+1,9,be⟩=false:=by simp[Is,mH]
 have q10:=ae mH 10;have pZ:w4.frozen? ⟨w.heap.size+1,10,be⟩=false:=by simp[Is,mH]
 have q11:=ae mH 11;have qb:w4.frozen? ⟨w.heap.size+1,11,be⟩=false:=by simp[Is,mH]
 clear AR mH tn eu HFC EN;by_cases DC:er=0;rotate_left
 .have alH:(er !=0)=true:=by simpa using DC
  have HEZ:Hid _:=DC;clear DC;go_wp2_with fail;refine IK (v:=Ik #[Ij #[Y ⟨#[]⟩,Y ⟨#[]⟩,J be 0 0,J be 0 0,J be 0 0,J be 0 0,U O 0,U O 0,U O 0,U O 0,U O 0,J be 0 0],U O er]) ?_ rfl ?_
  .simp[results,Tryz.results29,go_sem,q0,q1,q2,q3,q4,q5,q6,q7,q8,q9,q10,q11]
  .unfold lv
   refine⟨?_,.inr (.inl ⟨rfl,HEZ.out,rfl⟩)⟩;exact KM (xQ.out.ub (Nat.le_succ _) _ _ _ _ _ _ _ _ _ _ _ _)
 obtain⟨n',⟨xm,xr,xs,xg,xw,VX,hown,aey,gR⟩,hRR⟩:=gZ.out DC;subst DC;have KO:Hid _:=hown;have HRR:Hid (R n' w4):=hRR;have aez:Hid _:=gR;obtain⟨im2,jm2,od,_⟩:=aA hown.ms;obtain⟨ir2,jr2,vA,_⟩:=aA hown.rs;obtain⟨is2,js2,uc,_⟩:=aA hown.sv;obtain⟨ig2,jg2,zO,_⟩:=aA hown.gw;obtain⟨ih2,jh2,EU,_⟩:=aA hown.wh;subst od vA uc zO EU;obtain⟨p0,p1,p2,p3,p4,p5,p6,p7,p8,p9,p10,p11⟩:=bB VX;clear hown hRR gR aey VX gZ;obtain⟨n2,c2,ms2,rs2,V7,gw2,⟨qx,qy,qz,qh,qq⟩,wh2⟩:=n';simp only at p0 p1 p2 p3 p4 p5 p6 p7 p8 p9 p10 p11;go_wp2_with fail;refine IK (v:=Ik #[Ij #[Y n2,Y c2,J im2 ms2.length jm2,J ir2 rs2.length jr2,J is2 V7.length js2,J ig2 gw2.length jg2,U O qx,U O qy,U O qz,U O qh,U O qq,J ih2 wh2.length jh2],U O 0]) ?_ rfl ?_
 .simp[results,Tryz.results29,go_sem,q0,q1,q2,q3,q4,q5,q6,q7,q8,q9,q10,q11]
 unfold lv;refine⟨?_,.inr (.inr ⟨rfl,rfl,⟨n2,c2,ms2,rs2,V7,gw2,⟨qx,qy,qz,qh,qq⟩,wh2⟩,_,_,_,_,_,rfl,⟨?_,?_,?_,?_,?_⟩,aez.out,?_⟩)⟩
 .exact KM (xQ.out.ub (Nat.le_succ _) _ _ _ _ _ _ _ _ _ _ _ _)
 .exact Own.mono (cX (KO.out.ms) (by simp) _ _ _ _ _ _ _ _ _ _ _ _) (by omega)
 .exact cL.base (cX (KO.out.rs) (by simp) _ _ _ _ _ _ _ _ _ _ _ _) (by omega)
 .exact Sv.Own.mono (cX (KO.out.sv) (by simp) _ _ _ _ _ _ _ _ _ _ _ _) (by omega)
 .exact Gw.Own.mono (cX (KO.out.gw) (by simp) _ _ _ _ _ _ _ _ _ _ _ _) (by omega)
 .exact Wh.Own.mono (cX (KO.out.wh) (by simp) _ _ _ _ _ _ _ _ _ _ _ _) (by omega)
 .exact HR.out _ _ 11 _ (HR.out _ _ 10 _ (HR.out _ _ 9 _ (HR.out _ _ 8 _ (HR.out _ _ 7 _ (HR.out _ _ 6 _ (HR.out _ _ 5 _ (HR.out _ _ 4 _ (HR.out _ _ 3 _ (HR.out _ _ 2 _ (HR.out _ _ 1 _ (HR.out _ _ 0 _ (HRR.out))))))))))))
def fG(ne er:Int)(n':Nd)(S:Nat->Prop)(R:World->Prop)(w:World)(e:OS)(w':World):Prop:=Sh S w w' /\
 ((ne≠0/\e=AT (Ik #[Ij #[Y ⟨#[]⟩,Y ⟨#[]⟩,J be 0 0,J be 0 0,J be 0 0,J be 0 0,U O 0,U O 0,U O 0,U O 0,U O 0,J be 0 0],U O ne]))\/(ne=0/\er≠0/\e=AT (Ik #[Ij #[Y ⟨#[]⟩,Y ⟨#[]⟩,J be 0 0,J be 0 0,J be 0 0,J be 0 0,U O 0,U O 0,U O 0,U O 0,U O 0,J be 0 0],U O er])) \/
 (ne=0/\er=0/\∃um ur us ug uw,e=AT (Ik #[Ij (dv n' um ur us ug uw),U O 0])/\cP w.heap.size w' n' um ur us ug uw/\iw n'/\R w'))
theorem jf(kf:Nat)(cs:Array Value)(eg:∀args w,(callFunc kf args).run Tryz.prog w=.ok (.enter kf args) w)(n:Nd)(vm vr vs vg vw:Value)(w:World)(h:eY w n vm vr vs vg vw)(S:Nat->Prop)(er:Int)(n':Nd)(R:World->Prop)(hF:n.e=0->∀W b,Below w.heap.size w W->w.heap.size+2<=b->Wk (w.heap.size+2) W b n->aI kf (#[Ie (AI ⟨b,0,be⟩)]++cs) W λe w'=>e=AT (U O er)/\Sh (λk=>w.heap.size+2<=k\/S k) W w'/\(er=0->Wk (w.heap.size+2) w' b n'/\R w'))(hR:∀W j x,R W->R (W.setCell ⟨w.heap.size+1,j,be⟩ x))(hS:∀k,S k->k<w.heap.size) :
 aI 29 #[Ij (dv n vm vr vs vg vw),IT (.func kf) #[] cs] w λe w'=>fG n.e er n' S R w e w':=by
 refine(wF kf cs eg n vm vr vs vg vw w h S er (λk W=>k=n'/\R W) (λhe W b h1 h2 h3=>(hF he W b h1 h2 h3).mono ?_) (λk W j x h=>⟨h.1,hR W j x h.2⟩) hS).mono ?_
 .rintro e w' ⟨h4,h5,h6⟩
  exact⟨h4,h5,λh=>⟨n',(h6 h).1,rfl,(h6 h).2⟩⟩
 .rintro e w' ⟨AR,Mh⟩
  refine⟨AR,?_⟩;rcases Mh with⟨h1,_,h2⟩|h1|⟨h1,h2,k,um,ur,us,ug,uw,h3,h4,h5,rfl,h6⟩
  .exact .inl ⟨h1,h2⟩
  .exact .inr (.inl h1)
  .exact .inr (.inr ⟨h1,h2,um,ur,us,ug,uw,h3,h4,h5,h6⟩)
def dB(ne er:Int)(n':Nd)(w:World)(e:OS)(w':World):Prop:=Below w.heap.size w w' /\
 ((ne≠0/\e=AT (Ik #[Ij #[Y ⟨#[]⟩,Y ⟨#[]⟩,J be 0 0,J be 0 0,J be 0 0,J be 0 0,U O 0,U O 0,U O 0,U O 0,U O 0,J be 0 0],U O ne]))\/(ne=0/\er≠0/\e=AT (Ik #[Ij #[Y ⟨#[]⟩,Y ⟨#[]⟩,J be 0 0,J be 0 0,J be 0 0,J be 0 0,U O 0,U O 0,U O 0,U O 0,U O 0,J be 0 0],U O er])) \/
 (ne=0/\er=0/\∃um ur us ug uw,e=AT (Ik #[Ij (dv n' um ur us ug uw),U O 0])/\cP w.heap.size w' n' um ur us ug uw/\iw n'))
theorem fG.wrap{ne er:Int}{n':Nd}{w W0 w1:World}{e:OS}{rb:Nat}(h:fG ne er n' (λ_=>False) (λ_=>True) W0 e w1)(hb:Below w.heap.size w W0)(hz:W0.heap[rb]?=AI (By #[Y ⟨#[]⟩,Y ⟨#[]⟩,J be 0 0,J be 0 0,J be 0 0,J be 0 0,U O 0,U O 0,U O 0,U O 0,U O 0,J be 0 0] 42 (0,0)))(hle:w.heap.size<=rb) :
 w1.heap[rb]?=AI (By #[Y ⟨#[]⟩,Y ⟨#[]⟩,J be 0 0,J be 0 0,J be 0 0,J be 0 0,U O 0,U O 0,U O 0,U O 0,U O 0,J be 0 0] 42 (0,0))/\∃u0 u1 b2 m2 e2 b3 m3 e3 b4 m4 e4 b5 m5 e5 u6 u7 u8 u9 u10 b11 m11 e11 r,e=AT (Ik #[Ij #[Y u0,Y u1,J b2 m2 e2,J b3 m3 e3,J b4 m4 e4,J b5 m5 e5,U O u6,U O u7,U O u8,U O u9,U O u10,J b11 m11 e11],U O r])/\Hid (dB ne er n' w (AT (Ik #[Ij #[Y u0,Y u1,J b2 m2 e2,J b3 m3 e3,J b4 m4 e4,J b5 m5 e5,U O u6,U O u7,U O u8,U O u9,U O u10,J b11 m11 e11],U O r])) (aC rb [Y u0,Y u1,J b2 m2 e2,J b3 m3 e3,J b4 m4 e4,J b5 m5 e5,U O u6,U O u7,U O u8,U O u9,U O u10,J b11 m11 e11] 0 w1)):=by
 obtain⟨AR,Mh⟩:=h;have aX:=(BY.1 hz).1;have aB:=AR.below (Ic _) (λ_ hk=>hk.elim);have aK:=hb.trans (aB.mono hb.size);refine⟨(aB.block _ aX).trans hz,?_⟩;rcases Mh with⟨aQ,rfl⟩|⟨aQ,DC,rfl⟩|⟨aQ,DC,um,ur,us,ug,uw,rfl,hown,gR,_⟩
 .exact⟨_,_,_,_,_,_,_,_,_,_,_,_,_,_,_,_,_,_,_,_,_,_,_,rfl,aT hle _ _ aK,.inl ⟨aQ,rfl⟩⟩
 .exact⟨_,_,_,_,_,_,_,_,_,_,_,_,_,_,_,_,_,_,_,_,_,_,_,rfl,aT hle _ _ aK,.inr (.inl ⟨aQ,DC,rfl⟩)⟩
 .have ho:cP w.heap.size (aC rb [Y n'.name,Y n'.aD,um,ur,us,ug,U O n'.p.x,U O n'.p.y,U O n'.p.z,U O n'.p.h,U O n'.p.s,uw] 0 w1) n' um ur us ug uw:=⟨Own.mono (cE aX _ _ hown.ms) hb.size,cL.base (cE aX _ _ hown.rs) hb.size,Sv.Own.mono (cE aX _ _ hown.sv) hb.size,Gw.Own.mono (cE aX _ _ hown.gw) hb.size,Wh.Own.mono (cE aX _ _ hown.wh) hb.size⟩
  obtain⟨im2,jm2,od,_⟩:=aA hown.ms;obtain⟨ir2,jr2,vA,_⟩:=aA hown.rs;obtain⟨is2,js2,uc,_⟩:=aA hown.sv;obtain⟨ig2,jg2,zO,_⟩:=aA hown.gw;obtain⟨ih2,jh2,EU,_⟩:=aA hown.wh;subst od vA uc zO EU;exact⟨_,_,_,_,_,_,_,_,_,_,_,_,_,_,_,_,_,_,_,_,_,_,_,rfl,aT hle _ _ aK,.inr (.inr ⟨aQ,DC,_,_,_,_,_,rfl,ho,gR⟩)⟩
theorem Nd.sp{n:Nd}(h:n.e=0):Sp n:=⟨(Nd.parts (Nd.aN h).1).ms,(Nd.parts (Nd.aN h).1).rs,(Nd.parts (Nd.aN h).1).name⟩
theorem B8(L b tb:Nat)(n:Nd)(t:ByteArray)(w:World)(h:Wk L w b n)(hL:L<=b)(tZ:Sp n)(ht:t.size<=Il)(hc:w.heap[tb]?=AI (By #[Y t] 9 (0,0))) :
 aI 40 #[Ie (AI ⟨b,0,be⟩),Ie (AI ⟨tb,0,be⟩)] w λe w'=>e=AT (U O (sx n t 1 2))/\Sh (λk=>k=b) w w'/\Hid (sx n t 1 2=0->Wk L w' b (zN n t 2)):=by
 have HC:Hid (aI _ _ _ _):=tT L b n t 1 2 w h hL tZ.ms tZ.rs tZ.name ht rfl;have y0:=ae hc 0;clear h tZ hc;generalize sx n t 1 2=we at *;go_enter Tryz.func40,Tryz.ntmps40;go_wp2_with fail;refine HC.out.mono ?_;rintro e w1 ⟨rfl,hs,hk⟩;have HS:Hid _:=hs;clear hs;go_wp2_with fail;go_ret;exact⟨rfl,HS.out,hk⟩
theorem wG(n:Nd)(t:ByteArray)(vm vr vs vg vw:Value)(w:World)(h:eY w n vm vr vs vg vw)(ht:t.size<=Il) :
 aI 25 #[Ij (dv n vm vr vs vg vw),Y t] w λe w'=>dB n.e (sx n t 1 2) (zN n t 2) w e w':=by
 have mC:Hid _:=h;obtain⟨W0,bN⟩:∃W0,W0=w.heap.size:=⟨_,rfl⟩;clear bN W0;have mg:Hid (∀W0,Below w.heap.size w W0->W0.heap.size=w.heap.size+3->W0.heap[w.heap.size+1]?=AI (By #[Y t] 9 (0,0))->aI 29 #[Ij (dv n vm vr vs vg vw),IT (.func 40) #[] #[Ie (AI ⟨w.heap.size+1,0,be⟩)]] W0 λe w'=>fG n.e (sx n t 1 2) (zN n t 2) (λ_=>False) (λ_=>True) W0 e w'):=λW0 hb hs hc1=>
  jf 40 #[Ie (AI ⟨w.heap.size+1,0,be⟩)] (enters_of Tryz.func40 (by kernel_rfl) rfl) n vm vr vs vg vw W0 (h.below hb) (λ_=>False) (sx n t 1 2) (zN n t 2) (λ_=>True)
   (λhe W b hW aK hk=>by
    refine(B8 (W0.heap.size+2) b (w.heap.size+1) n t W hk (by omega) (Nd.sp he) ht ((hW.block _ (by omega)).trans hc1)).mono ?_;rintro e w' ⟨rfl,hs,hh⟩;exact⟨rfl,hs.mono (λk hk=>.inl (by omega)),λh=>⟨hh.out h,trivial⟩⟩
   ) (λ_ _ _ _=>trivial) (λ_ hk=>hk.elim)
 obtain⟨nm,ct,ms,rs,sv,gw,⟨px,py,pz,ph,pq⟩,wh⟩:=n;obtain⟨⟨em,cm,rfl,_,_⟩,⟨rm,cr,rfl,_,_⟩,⟨es,rn,rfl,_,_⟩,⟨rq,cg,rfl,_,_⟩,⟨eh,ch,rfl,_,_⟩,_,_⟩:=h;simp only[dv] at mg ⊢;generalize ms.length=km at *;generalize rs.length=kr at *;generalize sv.length=ks at *;generalize gw.length=kg at *;generalize wh.length=kh at *;generalize Nd.e ⟨nm,ct,ms,rs,sv,gw,⟨px,py,pz,ph,pq⟩,wh⟩=ne at *;generalize sx ⟨nm,ct,ms,rs,sv,gw,⟨px,py,pz,ph,pq⟩,wh⟩ t 1 2=er at *;generalize zN ⟨nm,ct,ms,rs,sv,gw,⟨px,py,pz,ph,pq⟩,wh⟩ t 2=n' at *;obtain⟨W0,bN,bO,eK,vR,hc1,di⟩:=oQ w #[Y nm,Y ct,J em km cm,J rm kr cr,J es ks rn,J rq kg cg,U O px,U O py,U O pz,U O ph,U O pq,J eh kh ch] #[Y t] #[Y ⟨#[]⟩,Y ⟨#[]⟩,J be 0 0,J be 0 0,J be 0 0,J be 0 0,U O 0,U O 0,U O 0,U O 0,U O 0,J be 0 0] 42 9 42;have rQ:=mg.out W0 bO eK hc1;have db:Hid _:=bO;have nY:Hid _:=di;clear bO eK vR hc1 di mg;go_enter Tryz.func25,Tryz.ntmps25;go_wp2_with fail;rw[<- bN];refine rQ.mono ?_;intro e w1 h;obtain⟨da,u0,u1,b2,m2,e2,b3,m3,e3,b4,m4,e4,b5,m5,e5,u6,u7,u8,u9,u10,b11,m11,e11,r1,rfl,HR⟩:=h.wrap db.out nY.out (by omega);obtain⟨q0,q1,q2,q3,q4,q5,q6,q7,q8,q9,q10,q11⟩:=bB da;obtain⟨wi,wj,xA,xB,xC,xD,Dh,Di,Dj,Dk,pZ,qb⟩:=kd da;clear h da rQ bN db nY;simp only[aC,IC,Jf] at HR;go_wp2_with fail;exact IK (v:=Ik #[Ij #[Y u0,Y u1,J b2 m2 e2,J b3 m3 e3,J b4 m4 e4,J b5 m5 e5,U O u6,U O u7,U O u8,U O u9,U O u10,J b11 m11 e11],U O r1]) (by simp[results,Tryz.results25,go_sem,q0,q1,q2,q3,q4,q5,q6,q7,q8,q9,q10,q11]) rfl HR.out
theorem Wh.ud{wh:List Wh.bK}(h:Wh.bl wh=0)(hk:∀m∈wh,m.ok):Wh.o6 wh:=⟨(Wh.af h).2.1,(Wh.af h).1,hk⟩
theorem EV(L b tb:Nat)(n:Nd)(cV:ByteArray)(whole:Bool)(sR:List Mem)(pG:List Sv.aY)(pH:List Gw.bL)(sz:List Wh.bK)(am aS aG aH:Option Addr)(bm bS bG bH:Nat)(w0 w:World)(h:Wk L w b n)(hL:L<=b)(he:n.e=0)(gR:iw n)(hx:kz w0 ⟨cV,whole,sR,pG,pH,sz⟩ (J am sR.length bm) (J aS pG.length bS) (J aG pH.length bG) (J aH sz.length bH))(hB:Below w0.heap.size w0 w)(hBL:w0.heap.size<=L)(hlen:whole=true\/pG.length+pH.length+sz.length<=4611686018427387904)(hc:w.heap[tb]?=AI (By #[Y cV,Ia whole,J am sR.length bm,J aS pG.length bS,J aG pH.length bG,J aH sz.length bH] 53 (0,0))) :
 aI 38 #[Ie (AI ⟨b,0,be⟩),Ie (AI ⟨tb,0,be⟩)] w λe w'=>e=AT (U O (ou n ⟨cV,whole,sR,pG,pH,sz⟩))/\Sh (λk=>L<=k) w w'/\Hid (ou n ⟨cV,whole,sR,pG,pH,sz⟩=0->Wk L w' b (og n ⟨cV,whole,sR,pG,pH,sz⟩)):=by
 have hp:=Nd.parts (Nd.aN he).1;have HC:Hid (aI 39 #[Ie (AI ⟨b,0,be⟩),Ij #[Y cV,Ia whole,J am sR.length bm,J aS pG.length bS,J aG pH.length bG,J aH sz.length bH]] w λe w'=>e=AT (U O (ou n ⟨cV,whole,sR,pG,pH,sz⟩))/\Sh (λk=>L<=k) w w'/\Hid (ou n ⟨cV,whole,sR,pG,pH,sz⟩=0->Wk L w' b (og n ⟨cV,whole,sR,pG,pH,sz⟩))):=
  EP L b n ⟨cV,whole,sR,pG,pH,sz⟩ _ _ _ _ w0 w h hL (Nd.sp he) hp.sv hp.gw (Wh.ud hp.wh gR.wh) hx hB hBL hlen
 obtain⟨y0,y1,y2,y3,y4,y5⟩:=fx hc;clear h hp hc hx;generalize ou n ⟨cV,whole,sR,pG,pH,sz⟩=we at *;generalize og n ⟨cV,whole,sR,pG,pH,sz⟩=nn at *;generalize sR.length=k1 at *;generalize pG.length=k2 at *;generalize pH.length=k3 at *;generalize sz.length=k4 at *;go_enter Tryz.func38,Tryz.ntmps38;go_wp2_with fail;refine HC.out.mono ?_;rintro e w1 ⟨rfl,hs,hk⟩;have HS:Hid _:=hs;clear hs;go_wp2_with fail;go_ret;exact⟨rfl,HS.out,hk⟩
theorem ue(n:Nd)(p:Pk)(zm zs zg zw:Value)(vm vr vs vg vw:Value)(w:World)(h:eY w n vm vr vs vg vw)(hx:kz w p zm zs zg zw)(hlen:p.whole=true\/p.sv.length+p.gw.length+p.wh.length<=4611686018427387904) :
 aI 24 #[Ij (dv n vm vr vs vg vw),Ij #[Y p.cV,Ia p.whole,zm,zs,zg,zw]] w λe w'=>dB n.e (ou n p) (og n p) w e w':=by
 have mC:Hid _:=h;have HX:Hid _:=hx;obtain⟨cV,whole,sR,pG,pH,sz⟩:=p;obtain⟨⟨am,bm,rfl,_,_⟩,⟨aS,bS,rfl,_,_⟩,⟨aG,bG,rfl,_,_⟩,⟨aH,bH,rfl,_,_⟩,_,_⟩:=hx;simp only at hlen HX ⊢;obtain⟨W0,bN⟩:∃W0,W0=w.heap.size:=⟨_,rfl⟩;clear bN W0;have mg:Hid (∀W0,Below w.heap.size w W0->W0.heap.size=w.heap.size+3->W0.heap[w.heap.size+1]?=AI (By #[Y cV,Ia whole,J am sR.length bm,J aS pG.length bS,J aG pH.length bG,J aH sz.length bH] 53 (0,0))->aI 29 #[Ij (dv n vm vr vs vg vw),IT (.func 38) #[] #[Ie (AI ⟨w.heap.size+1,0,be⟩)]] W0 λe w'=>fG n.e (ou n ⟨cV,whole,sR,pG,pH,sz⟩) (og n ⟨cV,whole,sR,pG,pH,sz⟩) (λ_=>False) (λ_=>True) W0 e w'):=λW0 hb hs hc1=>
  jf 38 #[Ie (AI ⟨w.heap.size+1,0,be⟩)] (enters_of Tryz.func38 (by kernel_rfl) rfl) n vm vr vs vg vw W0 (h.below hb) (λ_=>False) (ou n ⟨cV,whole,sR,pG,pH,sz⟩) (og n ⟨cV,whole,sR,pG,pH,sz⟩) (λ_=>True)
   (λhe W b hW aK hk=>by
    refine(EV (W0.heap.size+2) b (w.heap.size+1) n cV whole sR pG pH sz am aS aG aH bm bS bG bH W0 W hk (by omega) he h.ok (HX.out.below hb) hW (by omega) hlen ((hW.block _ (by omega)).trans hc1)).mono ?_;rintro e w' ⟨rfl,hs,hh⟩;exact⟨rfl,hs.mono (λk hk=>.inl hk),λh=>⟨hh.out h,trivial⟩⟩
   ) (λ_ _ _ _=>trivial) (λ_ hk=>hk.elim)
 obtain⟨nm,ct,ms,rs,sv,gw,⟨px,py,pz,ph,pq⟩,wh⟩:=n;obtain⟨⟨em,cm,rfl,_,_⟩,⟨rm,cr,rfl,_,_⟩,⟨es,rn,rfl,_,_⟩,⟨rq,cg,rfl,_,_⟩,⟨eh,ch,rfl,_,_⟩,_,_⟩:=h;simp only[dv] at mg ⊢;generalize ms.length=km at *;generalize rs.length=kr at *;generalize sv.length=ks at *;generalize gw.length=kg at *;generalize wh.length=kh at *;generalize sR.length=k1 at *;generalize pG.length=k2 at *;generalize pH.length=k3 at *;generalize sz.length=k4 at *;generalize Nd.e ⟨nm,ct,ms,rs,sv,gw,⟨px,py,pz,ph,pq⟩,wh⟩=ne at *;generalize ou ⟨nm,ct,ms,rs,sv,gw,⟨px,py,pz,ph,pq⟩,wh⟩ ⟨cV,whole,sR,pG,pH,sz⟩=er at *;generalize og ⟨nm,ct,ms,rs,sv,gw,⟨px,py,pz,ph,pq⟩,wh⟩ ⟨cV,whole,sR,pG,pH,sz⟩=n' at *;obtain⟨W0,bN,bO,eK,vR,hc1,di⟩:=oQ w #[Y nm,Y ct,J em km cm,J rm kr cr,J es ks rn,J rq kg cg,U O px,U O py,U O pz,U O ph,U O pq,J eh kh ch] #[Y cV,Ia whole,J am k1 bm,J aS k2 bS,J aG k3 bG,J aH k4 bH] #[Y ⟨#[]⟩,Y ⟨#[]⟩,J be 0 0,J be 0 0,J be 0 0,J be 0 0,U O 0,U O 0,U O 0,U O 0,U O 0,J be 0 0] 42 53 42;have rQ:=mg.out W0 bO eK hc1;have db:Hid _:=bO;have nY:Hid _:=di;clear bO eK vR hc1 di mg;go_enter Tryz.func24,Tryz.ntmps24;go_wp2_with fail;rw[<- bN];refine rQ.mono ?_;intro e w1 h;obtain⟨da,u0,u1,b2,m2,e2,b3,m3,e3,b4,m4,e4,b5,m5,e5,u6,u7,u8,u9,u10,b11,m11,e11,r1,rfl,HR⟩:=h.wrap db.out nY.out (by omega);obtain⟨q0,q1,q2,q3,q4,q5,q6,q7,q8,q9,q10,q11⟩:=bB da;obtain⟨wi,wj,xA,xB,xC,xD,Dh,Di,Dj,Dk,pZ,qb⟩:=kd da;clear h da rQ bN db nY;simp only[aC,IC,Jf] at HR;go_wp2_with fail;exact IK (v:=Ik #[Ij #[Y u0,Y u1,J b2 m2 e2,J b3 m3 e3,J b4 m4 e4,J b5 m5 e5,U O u6,U O u7,U O u8,U O u9,U O u10,J b11 m11 e11],U O r1]) (by simp[results,Tryz.results24,go_sem,q0,q1,q2,q3,q4,q5,q6,q7,q8,q9,q10,q11]) rfl HR.out
def Ns(nm ct:ByteArray)(ad:Int):Int:=if(bc nm&&bc ct)=true then(if within ad 0 4294967295=true then 0 else 3) else 1
def GR(nm ct:ByteArray)(ad:Int)(sv:Bool):Nd:=⟨nm,ct,[⟨nm,1,1,ad,sv⟩],[],[],[],⟨0,0,0,0,1000⟩,[]⟩
theorem sS(nm ct:ByteArray)(ad:Int)(sv:Bool)(w:World)(hn:nm.size<=Il)(hc:ct.size<=Il) :
 aI 21 #[Y nm,Y ct,U O ad,Ia sv] w λe w'=>dB (Ns nm ct ad) 0 (GR nm ct ad sv) w e w':=by
 have HE:Hid (Ns nm ct ad=if(bc nm&&bc ct)=true then(if within ad 0 4294967295=true then 0 else 3) else 1):=rfl;obtain⟨W1,cT⟩:∃W1,W1=(w.alloc (By #[Y ⟨#[]⟩,Y ⟨#[]⟩,J be 0 0,J be 0 0,J be 0 0,J be 0 0,U O 0,U O 0,U O 0,U O 0,U O 0,J be 0 0] 42)).alloc (By #[Y nm,Y ct] 9):=⟨_,rfl⟩;have cO:W1.heap[w.heap.size+1]?=AI (By #[Y nm,Y ct] 9 (0,0)):=by
  have h:=Ih (w.alloc (By #[Y ⟨#[]⟩,Y ⟨#[]⟩,J be 0 0,J be 0 0,J be 0 0,J be 0 0,U O 0,U O 0,U O 0,U O 0,U O 0,J be 0 0] 42)) (By #[Y nm,Y ct] 9);rw[cT];simpa using h
 have da:W1.heap[w.heap.size]?=AI (By #[Y ⟨#[]⟩,Y ⟨#[]⟩,J be 0 0,J be 0 0,J be 0 0,J be 0 0,U O 0,U O 0,U O 0,U O 0,U O 0,J be 0 0] 42 (0,0)):=by
  rw[cT,Below.heap_alloc _ _ _ (by simp)];exact Ih w _
 have ft:W1.heap.size=w.heap.size+2:=by rw[cT];simp
 have ba:Hid (Below w.heap.size w W1):=by rw[cT];exact((Below.refl _ _).alloc (Ic _) _).alloc (by simp) _
 have HL:Hid (aI _ _ _ _):=zD nm ct hn hc _ 2 W1 (ae cO 0) (ae cO 1);obtain⟨q0,q1,q2,q3,q4,q5,q6,q7,q8,q9,q10,q11⟩:=bB da;obtain⟨wi,wj,xA,xB,xC,xD,Dh,Di,Dj,Dk,pZ,qb⟩:=kd da;have GK:Hid _:=da;have tR:Hid _:=ft;have Ca:w.heap.size<W1.heap.size:=by omega
 clear cO da ft;generalize Ns nm ct ad=ne at *;generalize(bc nm&&bc ct)=lb at *;go_enter Tryz.func21,Tryz.ntmps21;go_wp2_with fail;rw[<- cT];refine HL.out.mono ?_;rintro e w1 ⟨rfl,PY⟩;have GQ:=PY.symm;subst GQ;clear cT HL PY;cases lb
 .have HR:Hid (ne=1):=HE.out.trans (by simp)
  go_wp2_with fail;refine IK (v:=Ik #[Ij #[Y ⟨#[]⟩,Y ⟨#[]⟩,J be 0 0,J be 0 0,J be 0 0,J be 0 0,U O 0,U O 0,U O 0,U O 0,U O 0,J be 0 0],U O 1]) ?_ rfl ?_
  .simp[results,Tryz.results21,go_sem,q0,q1,q2,q3,q4,q5,q6,q7,q8,q9,q10,q11]
  .unfold dB
   exact⟨((((((((((((ba.out).setCell (p:=⟨w.heap.size,0,be⟩) (by simp) _).setCell (p:=⟨w.heap.size,1,be⟩) (by simp) _).setCell (p:=⟨w.heap.size,2,be⟩) (by simp) _).setCell (p:=⟨w.heap.size,3,be⟩) (by simp) _).setCell (p:=⟨w.heap.size,4,be⟩) (by simp) _).setCell (p:=⟨w.heap.size,5,be⟩) (by simp) _).setCell (p:=⟨w.heap.size,6,be⟩) (by simp) _).setCell (p:=⟨w.heap.size,7,be⟩) (by simp) _).setCell (p:=⟨w.heap.size,8,be⟩) (by simp) _).setCell (p:=⟨w.heap.size,9,be⟩) (by simp) _).setCell (p:=⟨w.heap.size,10,be⟩) (by simp) _).setCell (p:=⟨w.heap.size,11,be⟩) (by simp) _,.inl ⟨by rw[HR.out];simp,by rw[HR.out]⟩⟩
 rcases ha:within ad 0 4294967295 with _|_
 .have HR:Hid (ne=3):=HE.out.trans (by simp[ha])
  go_wp2_with (go_at_call 35;refine(eL _ _).mono ?_;rintro e w' ⟨rfl,hx⟩;have hy:=hx.symm;subst hy;rw[ha]);refine IK (v:=Ik #[Ij #[Y ⟨#[]⟩,Y ⟨#[]⟩,J be 0 0,J be 0 0,J be 0 0,J be 0 0,U O 0,U O 0,U O 0,U O 0,U O 0,J be 0 0],U O 3]) ?_ rfl ?_
  .simp[results,Tryz.results21,go_sem,q0,q1,q2,q3,q4,q5,q6,q7,q8,q9,q10,q11]
  .unfold dB
   exact⟨((((((((((((ba.out).setCell (p:=⟨w.heap.size,0,be⟩) (by simp) _).setCell (p:=⟨w.heap.size,1,be⟩) (by simp) _).setCell (p:=⟨w.heap.size,2,be⟩) (by simp) _).setCell (p:=⟨w.heap.size,3,be⟩) (by simp) _).setCell (p:=⟨w.heap.size,4,be⟩) (by simp) _).setCell (p:=⟨w.heap.size,5,be⟩) (by simp) _).setCell (p:=⟨w.heap.size,6,be⟩) (by simp) _).setCell (p:=⟨w.heap.size,7,be⟩) (by simp) _).setCell (p:=⟨w.heap.size,8,be⟩) (by simp) _).setCell (p:=⟨w.heap.size,9,be⟩) (by simp) _).setCell (p:=⟨w.heap.size,10,be⟩) (by simp) _).setCell (p:=⟨w.heap.size,11,be⟩) (by simp) _,.inl ⟨by rw[HR.out];simp,by rw[HR.out]⟩⟩
 have HR:Hid (ne=0):=HE.out.trans (by simp[ha]);have WH:Hid (∀V:World,V.heap.size=W1.heap.size->((V.alloc (By #[Y nm,U O 1,U O 1,U O ad,Ia sv] 50)).alloc (By #[Y nm,U O 1,U O 1,U O ad,Ia sv] 50)).heap[W1.heap.size+1]?=AI (By #[Y nm,U O 1,U O 1,U O ad,Ia sv] 50 (0,0))):=λV hV=>by
  have h:=Ih (V.alloc (By #[Y nm,U O 1,U O 1,U O ad,Ia sv] 50)) (By #[Y nm,U O 1,U O 1,U O ad,Ia sv] 50);rw[show(V.alloc (By #[Y nm,U O 1,U O 1,U O ad,Ia sv] 50)).heap.size=W1.heap.size+1 by simp[hV]] at h;exact h
 go_wp2_with (go_at_call 35;refine(eL _ _).mono ?_;rintro e w' ⟨rfl,hx⟩;have hy:=hx.symm;subst hy;rw[ha]);refine IK (v:=Ik #[Ij #[Y nm,Y ct,J (AI ⟨W1.heap.size+1,0,be⟩) 1 1,J be 0 0,J be 0 0,J be 0 0,U O 0,U O 0,U O 0,U O 0,U O 1000,J be 0 0],U O 0]) ?_ rfl ?_
 .simp[results,Tryz.results21,go_sem,Ca,q0,q1,q2,q3,q4,q5,q6,q7,q8,q9,q10,q11]
 .unfold dB
  refine⟨((((((((((((((ba.out).setCell (p:=⟨w.heap.size,0,be⟩) (by simp) _).setCell (p:=⟨w.heap.size,1,be⟩) (by simp) _).setCell (p:=⟨w.heap.size,2,be⟩) (by simp) _).setCell (p:=⟨w.heap.size,3,be⟩) (by simp) _).setCell (p:=⟨w.heap.size,4,be⟩) (by simp) _).setCell (p:=⟨w.heap.size,5,be⟩) (by simp) _).setCell (p:=⟨w.heap.size,6,be⟩) (by simp) _).setCell (p:=⟨w.heap.size,7,be⟩) (by simp) _).setCell (p:=⟨w.heap.size,8,be⟩) (by simp) _).setCell (p:=⟨w.heap.size,9,be⟩) (by simp) _).setCell (p:=⟨w.heap.size,10,be⟩) (by simp) _).setCell (p:=⟨w.heap.size,11,be⟩) (by simp) _).alloc (by simp[Q0];omega) _).alloc (by simp[Q0];omega) _,.inr (.inr ⟨HR.out,rfl,_,_,_,_,_,rfl,⟨?_,zP _ _,Sv.b9 _ _,Gw.b9 _ _,Wh.b9 _ _⟩,?_⟩)⟩
  .exact iC (ms:=[⟨nm,1,1,ad,sv⟩]) (G:=1) (cur:=#[Y nm,U O 1,U O 1,U O ad,Ia sv]) (by omega) (WH.out _ (by simp[Q0])) rfl (by simp) (by unfold Il;omega) rfl
  .exact⟨λm hm=>by simp[GR] at hm;subst hm;exact hn,λr hr=>by simp[GR] at hr,λr hr=>by simp[GR] at hr,λr hr=>by simp[GR] at hr,λr hr=>by simp[GR] at hr,hn,hc⟩
end Go.Proofs.YtfidhgjmifendaaGreatDoor
