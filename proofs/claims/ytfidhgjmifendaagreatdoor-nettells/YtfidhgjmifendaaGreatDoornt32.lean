import Derived.Test.YtfidhgjmifendaaGreatDoornt29
set_option maxHeartbeats 25600000
set_option maxRecDepth 100000
open Option renaming none→be,some→AI
open Go renaming Ending→OT,heap_alloc_new→Ih,bodyPost_ret→IK,maxLen→Il
open Go.Ending renaming returned→By
open Go.Value renaming tuple→Ik,agg→Ij,string→Y,slice→J,int→U,pointer→Ie,func→IQ,bool→Ia
open Go.IntKind renaming i64→O
open Go.Obj renaming cells→AT
open Nat renaming le_refl→Ic,zero_add→IC,reduceAdd→Jh
open Array renaming getElem?_eq_some_iff→BY
open Go.World renaming frozen?→Ir,setCell→QY
namespace Go.Proofs.YtfidhgjmifendaaGreatDoor
open Go.RowKit
theorem Kt{S:Nat->Prop}{w w':World}(h:Sh (λk=>S k\/w.heap.size<=k) w w'):Sh S w w':=by
 refine⟨h.os,h.tape,h.output,h.size,λk hk hn=>h.block k hk ?_⟩;rintro(e|e)
 .exact hn e
 .omega
theorem Sh.jj{S:Nat->Prop}{L:Nat}{a w:World}(h:Sh (λk=>S k\/L<=k) a w){b i:Nat}(hb:L<=b)(x:Value):Sh (λk=>S k\/L<=k) a (w.setCell ⟨b,i,be⟩ x):=h.setCell (S:=λk=>S k\/L<=k) (.inr hb) x
theorem Sh.tL{S:Nat->Prop}{L:Nat}{a w:World}(h:Sh (λk=>S k\/L<=k) a w){b:Nat}(hb:L<=b)(x0 x1 x2 x3 x4 x5 x6 x7 x8 x9 x10 x11:Value):Sh (λk=>S k\/L<=k) a ((((((((((((w.setCell ⟨b,0,be⟩ x0).setCell ⟨b,1,be⟩ x1).setCell ⟨b,2,be⟩ x2).setCell ⟨b,3,be⟩ x3).setCell ⟨b,4,be⟩ x4).setCell ⟨b,5,be⟩ x5).setCell ⟨b,6,be⟩ x6).setCell ⟨b,7,be⟩ x7).setCell ⟨b,8,be⟩ x8).setCell ⟨b,9,be⟩ x9).setCell ⟨b,10,be⟩ x10).setCell ⟨b,11,be⟩ x11):=((((((((((((h).jj (i:=0) hb _).jj (i:=1) hb _).jj (i:=2) hb _).jj (i:=3) hb _).jj (i:=4) hb _).jj (i:=5) hb _).jj (i:=6) hb _).jj (i:=7) hb _).jj (i:=8) hb _).jj (i:=9) hb _).jj (i:=10) hb _).jj (i:=11) hb _
def kV(ne er:Int)(S:Nat->Prop)(R:Nd->World->Prop)(w:World)(e:OT)(w':World):Prop:=Sh S w w' /\
 ((ne≠0/\Below w.heap.size w w'/\e=By (Ik #[Ij #[Y ⟨#[]⟩,Y ⟨#[]⟩,J be 0 0,J be 0 0,J be 0 0,J be 0 0,U O 0,U O 0,U O 0,U O 0,U O 0,J be 0 0],U O ne]))\/(ne=0/\er≠0/\e=By (Ik #[Ij #[Y ⟨#[]⟩,Y ⟨#[]⟩,J be 0 0,J be 0 0,J be 0 0,J be 0 0,U O 0,U O 0,U O 0,U O 0,U O 0,J be 0 0],U O er])) \/
 (ne=0/\er=0/\∃n' um ur us ug uw,e=By (Ik #[Ij (dt n' um ur us ug uw),U O 0])/\cL w.heap.size w' n' um ur us ug uw/\il n'/\R n' w'))
theorem vT(kf:Nat)(cs:Array Value)(eg:∀args w,(callFunc kf args).run Tryz.prog w=.ok (.enter kf args) w)(n:Nd)(vm vr vs vg vw:Value)(w:World)(h:eS w n vm vr vs vg vw)(S:Nat->Prop)(er:Int)(R:Nd->World->Prop)(hF:n.e=0->∀W b,Below w.heap.size w W->w.heap.size+2<=b->Wk (w.heap.size+2) W b n->aF kf (#[Ie (AI ⟨b,0,be⟩)]++cs) W λe w'=>e=By (U O er)/\Sh (λk=>w.heap.size+2<=k\/S k) W w'/\(er=0->∃n',Wk (w.heap.size+2) w' b n'/\R n' w'))(hR:∀n' W j x,R n' W->R n' (W.setCell ⟨w.heap.size+1,j,be⟩ x))(hS:∀k,S k->k<w.heap.size) :
 aF 29 #[Ij (dt n vm vr vs vg vw),IQ (.func kf) #[] cs] w λe w'=>kV n.e er S R w e w':=by
 have ml:Hid _:=h;have lg:Hid _:=h.ok;have nN:Hid (∀W,Below w.heap.size w W->aF _ _ _ _):=λW hW=>ov n vm vr vs vg vw W (h.below hW);have Ku:Hid (n.e=0->∀W,Below w.heap.size w W->aF 37 #[Ij (dt n vm vr vs vg vw)] W λe w'=>∃um ur us ug uw,e=By (Ij (dt n um ur us ug uw))/\cL W.heap.size w' n um ur us ug uw/\Below W.heap.size W w'):=λhe W hW=>by
  have hp:=Nd.parts (Nd.aU he).1;have l1:=(af hp.ms).1;have l2:=(lL hp.rs).1;have l3:=(Sv.af hp.sv).1;have l4:=(Gw.af hp.gw).1;have l5:=(Wh.af hp.wh).1;exact qE n vm vr vs vg vw W (h.below hW) (by omega) (by omega) (by omega) (by omega) (by omega)
 have HF:Hid _:=hF;have HR:Hid _:=hR;have HSL:Hid _:=hS;clear hF hR hS;obtain⟨nm,ct,ms,rs,sv,gw,⟨px,py,pz,ph,pq⟩,wh⟩:=n;obtain⟨⟨em,cm,rfl,_,_⟩,⟨qL,cr,rfl,_,_⟩,⟨es,qM,rfl,_,_⟩,⟨qN,cg,rfl,_,_⟩,⟨eh,ch,rfl,_,_⟩,_,_⟩:=h;simp only[dt] at nN Ku ⊢;generalize zt:ms.length=km at *;have Hkm:Hid _:=zt;generalize AU:rs.length=kr at *;have Hkr:Hid _:=AU;generalize SD:sv.length=ks at *;have Hks:Hid _:=SD;generalize Ry:gw.length=kg at *;have Hkg:Hid _:=Ry;generalize Wo:wh.length=kh at *;have Hkh:Hid _:=Wo;clear zt AU SD Ry Wo;have HNE:Hid (∃ne,ne=Nd.e ⟨nm,ct,ms,rs,sv,gw,⟨px,py,pz,ph,pq⟩,wh⟩):=⟨_,rfl⟩;generalize Nd.e ⟨nm,ct,ms,rs,sv,gw,⟨px,py,pz,ph,pq⟩,wh⟩=ne at *;obtain⟨W0,bJ⟩:∃W0,W0=(w.alloc (AT #[Y nm,Y ct,J em km cm,J qL kr cr,J es ks qM,J qN kg cg,U O px,U O py,U O pz,U O ph,U O pq,J eh kh ch] 42)).alloc (AT #[Y ⟨#[]⟩,Y ⟨#[]⟩,J be 0 0,J be 0 0,J be 0 0,J be 0 0,U O 0,U O 0,U O 0,U O 0,U O 0,J be 0 0] 42):=⟨_,rfl⟩;have bM:Below w.heap.size w W0:=by rw[bJ];exact((Below.refl _ _).alloc (Ic _) _).alloc (by simp) _
 have dG:W0.heap[w.heap.size]?=AI (AT #[Y nm,Y ct,J em km cm,J qL kr cr,J es ks qM,J qN kg cg,U O px,U O py,U O pz,U O ph,U O pq,J eh kh ch] 42 (0,0)):=by
  rw[bJ,Below.heap_alloc _ _ _ (by simp)];exact Ih w _
 have dh:W0.heap[w.heap.size+1]?=AI (AT #[Y ⟨#[]⟩,Y ⟨#[]⟩,J be 0 0,J be 0 0,J be 0 0,J be 0 0,U O 0,U O 0,U O 0,U O 0,U O 0,J be 0 0] 42 (0,0)):=by
  have h:=Ih (w.alloc (AT #[Y nm,Y ct,J em km cm,J qL kr cr,J es ks qM,J qN kg cg,U O px,U O py,U O pz,U O ph,U O pq,J eh kh ch] 42)) (AT #[Y ⟨#[]⟩,Y ⟨#[]⟩,J be 0 0,J be 0 0,J be 0 0,J be 0 0,U O 0,U O 0,U O 0,U O 0,U O 0,J be 0 0] 42);rw[bJ];simpa using h
 have eE:W0.heap.size=w.heap.size+2:=by rw[bJ];simp
 have da:Hid _:=bM;have AM:Hid _:=dG;have nI:Hid _:=dh;clear bM dG dh;go_enter Tryz.func29,Tryz.ntmps29;go_wp2_with fail;rw[<- bJ];clear bJ;refine(nN.out W0 da.out).mono ?_;rintro e w1 ⟨rfl,aB⟩;have cK:=(aB.block _ (by omega)).trans AM.out;have cZ:=(aB.block _ (by omega)).trans nI.out;have aV:Hid _:=da.out.trans (aB.mono (by omega));have fg:=(BY.1 cZ).1;have q0:=ae cZ 0;have vK:w1.frozen? ⟨w.heap.size+1,0,be⟩=false:=by simp[Ir,cZ]
 have q1:=ae cZ 1;have vL:w1.frozen? ⟨w.heap.size+1,1,be⟩=false:=by simp[Ir,cZ]
 have q2:=ae cZ 2;have xc:w1.frozen? ⟨w.heap.size+1,2,be⟩=false:=by simp[Ir,cZ]
 have q3:=ae cZ 3;have xd:w1.frozen? ⟨w.heap.size+1,3,be⟩=false:=by simp[Ir,cZ]
 have q4:=ae cZ 4;have xe:w1.frozen? ⟨w.heap.size+1,4,be⟩=false:=by simp[Ir,cZ]
 have q5:=ae cZ 5;have xf:w1.frozen? ⟨w.heap.size+1,5,be⟩=false:=by simp[Ir,cZ]
 have q6:=ae cZ 6;have CV:w1.frozen? ⟨w.heap.size+1,6,be⟩=false:=by simp[Ir,cZ]
 have q7:=ae cZ 7;have CW:w1.frozen? ⟨w.heap.size+1,7,be⟩=false:=by simp[Ir,cZ]
 have q8:=ae cZ 8;have CX:w1.frozen? ⟨w.heap.size+1,8,be⟩=false:=by simp[Ir,cZ]
 have q9:=ae cZ 9;have CY:w1.frozen? ⟨w.heap.size+1,9,be⟩=false:=by simp[Ir,cZ]
 have q10:=ae cZ 10;have pG:w1.frozen? ⟨w.heap.size+1,10,be⟩=false:=by simp[Ir,cZ]
 have q11:=ae cZ 11;have pH:w1.frozen? ⟨w.heap.size+1,11,be⟩=false:=by simp[Ir,cZ]
 obtain⟨p0,p1,p2,p3,p4,p5,p6,p7,p8,p9,p10,p11⟩:=bA cK;have Gi:Hid _:=cZ;clear aB cK cZ;by_cases aM:ne=0;rotate_left
 .have SE:(ne !=0)=true:=by simpa using aM
  have HNZ:Hid _:=aM;have xu:Hid (Sh (λk=>S k\/w.heap.size<=k) w w1):=.of aV.out;clear aM;go_wp2_with fail;refine IK (v:=Ik #[Ij #[Y ⟨#[]⟩,Y ⟨#[]⟩,J be 0 0,J be 0 0,J be 0 0,J be 0 0,U O 0,U O 0,U O 0,U O 0,U O 0,J be 0 0],U O ne]) ?_ rfl ?_
  .simp[results,Tryz.results29,go_sem,q0,q1,q2,q3,q4,q5,q6,q7,q8,q9,q10,q11]
  .unfold kV
   refine⟨?_,.inl ⟨HNZ.out,?_,rfl⟩⟩
   .exact Kt (xu.out.tL (Nat.le_succ _) _ _ _ _ _ _ _ _ _ _ _ _)
   .exact mO aV.out (by simp) _ _ _ _ _ _ _ _ _ _ _ _
 subst aM;have Em:=Ku.out rfl w1 aV.out;have uj:Hid (∀W b,Below w.heap.size w W->w.heap.size+2<=b->Wk (w.heap.size+2) W b ⟨nm,ct,ms,rs,sv,gw,⟨px,py,pz,ph,pq⟩,wh⟩->aF _ _ _ _):=HF.out rfl;clear HF Ku;go_wp2_with fail;refine Em.mono ?_;rintro e w2 ⟨um,ur,us,ug,uw,rfl,fA,aJ⟩;obtain⟨im,jm,nJ,_⟩:=aA fA.ms;obtain⟨ir,jr,uX,_⟩:=aA fA.rs;obtain⟨is_,js,tK,_⟩:=aA fA.sv;obtain⟨ig,jg,zC,_⟩:=aA fA.gw;obtain⟨ih,jh,Ez,_⟩:=aA fA.wh;simp only at nJ uX tK zC Ez;rw[Hkm.out] at nJ;rw[Hkr.out] at uX;rw[Hks.out] at tK;rw[Hkg.out] at zC;rw[Hkh.out] at Ez;subst nJ uX tK zC Ez;obtain⟨W3,ea⟩:∃W3,W3=w2.alloc (AT #[Y nm,Y ct,J im km jm,J ir kr jr,J is_ ks js,J ig kg jg,U O px,U O py,U O pz,U O ph,U O pq,J ih kh jh] 90):=⟨_,rfl⟩;have bp:Hid _:=aV.out.trans (aJ.mono (by omega));have cj:Hid (Below w.heap.size w W3):=by rw[ea];exact bp.out.alloc bp.out.size _
 have gY:=aJ.size;have rP:W3.heap.size=w2.heap.size+1:=by rw[ea];simp
 have BK:Below w2.heap.size w2 W3:=by rw[ea];exact(Below.refl _ _).alloc (Ic _) _
 have qg:Hid _:=(BK.block _ (by omega)).trans ((aJ.block _ (by omega)).trans Gi.out);have aW:∀{v:Value} {k:Nat},v.ownBlock=AI k->k<w2.heap.size->v.ownBlock≠AI w2.heap.size:=λh hk e=>by rw[h] at e;cases e;omega
 have pN:Hid (Wk (w.heap.size+2) W3 w2.heap.size ⟨nm,ct,ms,rs,sv,gw,⟨px,py,pz,ph,pq⟩,wh⟩):=by
  refine⟨_,_,_,_,_,?_,⟨(fA.ms.below BK).mono (by omega),(fA.rs.below BK).base (by omega),(fA.sv.below BK).mono (by omega),(fA.gw.below BK).mono (by omega),(fA.wh.below BK).mono (by omega)⟩,⟨λe=>?_,λe=>?_,λe=>?_,λe=>?_,λe=>?_⟩,lg.out⟩
  .rw[ea];exact Ih w2 _
  .have:=(fA.ms.lt _ e).2;omega
  .have:=(fA.rs.lt _ e).2;omega
  .have:=(fA.sv.lt _ e).2;omega
  .have:=(fA.gw.lt _ e).2;omega
  .have:=(fA.wh.lt _ e).2;omega
 have HFC:=uj.out W3 w2.heap.size cj.out (by omega) pN.out;clear fA aJ BK aW q0 vK q1 vL q2 xc q3 xd q4 xe q5 xf q6 CV q7 CW q8 CX q9 CY q10 pG q11 pH p0 p1 p2 p3 p4 p5 p6 p7 p8 p9 p10 p11;go_wp2_with fail;rw[<- ea];refine HFC.mono ?_;rintro e w4 ⟨rfl,Aq,sL⟩;have xu:Hid (Sh (λk=>S k\/w.heap.size<=k) w w4):=(Sh.of cj.out).trans (Aq.mono (λk hk=>hk.elim (λh=>.inr (by omega)) (λh=>.inl h)));have mu:=(Aq.block _ (by omega) (λhk=>hk.elim (λh=>by omega) (λh=>by have:=HSL.out _ h;omega))).trans qg.out;have gN:Hid _:=sL;have D7:=(BY.1 mu).1;have q0:=ae mu 0;have vK:w4.frozen? ⟨w.heap.size+1,0,be⟩=false:=by simp[Ir,mu]
 have q1:=ae mu 1;have vL:w4.frozen? ⟨w.heap.size+1,1,be⟩=false:=by simp[Ir,mu]
 have q2:=ae mu 2;have xc:w4.frozen? ⟨w.heap.size+1,2,be⟩=false:=by simp[Ir,mu]
 have q3:=ae mu 3;have xd:w4.frozen? ⟨w.heap.size+1,3,be⟩=false:=by simp[Ir,mu]
 have q4:=ae mu 4;have xe:w4.frozen? ⟨w.heap.size+1,4,be⟩=false:=by simp[Ir,mu]
 have q5:=ae mu 5;have xf:w4.frozen? ⟨w.heap.size+1,5,be⟩=false:=by simp[Ir,mu]
 have q6:=ae mu 6;have CV:w4.frozen? ⟨w.heap.size+1,6,be⟩=false:=by simp[Ir,mu]
 have q7:=ae mu 7;have CW:w4.frozen? ⟨w.heap.size+1,7,be⟩=false:=by simp[Ir,mu]
 have q8:=ae mu 8;have CX:w4.frozen? ⟨w.heap.size+1,8,be⟩=false:=by simp[Ir,mu]
 have q9:=ae mu 9;have CY:w4.frozen? ⟨w.heap.size+1,9,be⟩=false:=by simp[Ir,mu]
 have q10:=ae mu 10;have pG:w4.frozen? ⟨w.heap.size+1,10,be⟩=false:=by simp[Ir,mu]
 have q11:=ae mu 11;have pH:w4.frozen? ⟨w.heap.size+1,11,be⟩=false:=by simp[Ir,mu]
 clear Aq mu sL ea HFC Em;by_cases Di:er=0;rotate_left
 .have akD:(er !=0)=true:=by simpa using Di
  have HEZ:Hid _:=Di;clear Di;go_wp2_with fail;refine IK (v:=Ik #[Ij #[Y ⟨#[]⟩,Y ⟨#[]⟩,J be 0 0,J be 0 0,J be 0 0,J be 0 0,U O 0,U O 0,U O 0,U O 0,U O 0,J be 0 0],U O er]) ?_ rfl ?_
  .simp[results,Tryz.results29,go_sem,q0,q1,q2,q3,q4,q5,q6,q7,q8,q9,q10,q11]
  .unfold kV
   refine⟨?_,.inr (.inl ⟨rfl,HEZ.out,rfl⟩)⟩;exact Kt (xu.out.tL (Nat.le_succ _) _ _ _ _ _ _ _ _ _ _ _ _)
 obtain⟨n',⟨xm,xr,xs,xg,xw,Vw,hown,adT,hU⟩,hRR⟩:=gN.out Di;subst Di;have Kv:Hid _:=hown;have Rq:Hid (R n' w4):=hRR;have adU:Hid _:=hU;obtain⟨im2,jm2,nJ,_⟩:=aA hown.ms;obtain⟨ir2,jr2,uX,_⟩:=aA hown.rs;obtain⟨is2,js2,tK,_⟩:=aA hown.sv;obtain⟨ig2,jg2,zC,_⟩:=aA hown.gw;obtain⟨ih2,jh2,Ez,_⟩:=aA hown.wh;subst nJ uX tK zC Ez;obtain⟨p0,p1,p2,p3,p4,p5,p6,p7,p8,p9,p10,p11⟩:=bA Vw;clear hown hRR hU adT Vw gN;obtain⟨n2,c2,ms2,rs2,VH,gw2,⟨qx,qy,qz,qh,qq⟩,wh2⟩:=n';simp only at p0 p1 p2 p3 p4 p5 p6 p7 p8 p9 p10 p11;go_wp2_with fail;refine IK (v:=Ik #[Ij #[Y n2,Y c2,J im2 ms2.length jm2,J ir2 rs2.length jr2,J is2 VH.length js2,J ig2 gw2.length jg2,U O qx,U O qy,U O qz,U O qh,U O qq,J ih2 wh2.length jh2],U O 0]) ?_ rfl ?_
 .simp[results,Tryz.results29,go_sem,q0,q1,q2,q3,q4,q5,q6,q7,q8,q9,q10,q11]
 unfold kV;refine⟨?_,.inr (.inr ⟨rfl,rfl,⟨n2,c2,ms2,rs2,VH,gw2,⟨qx,qy,qz,qh,qq⟩,wh2⟩,_,_,_,_,_,rfl,⟨?_,?_,?_,?_,?_⟩,adU.out,?_⟩)⟩
 .exact Kt (xu.out.tL (Nat.le_succ _) _ _ _ _ _ _ _ _ _ _ _ _)
 .exact Own.mono (cX (Kv.out.ms) (by simp) _ _ _ _ _ _ _ _ _ _ _ _) (by omega)
 .exact cH.base (cX (Kv.out.rs) (by simp) _ _ _ _ _ _ _ _ _ _ _ _) (by omega)
 .exact Sv.Own.mono (cX (Kv.out.sv) (by simp) _ _ _ _ _ _ _ _ _ _ _ _) (by omega)
 .exact Gw.Own.mono (cX (Kv.out.gw) (by simp) _ _ _ _ _ _ _ _ _ _ _ _) (by omega)
 .exact Wh.Own.mono (cX (Kv.out.wh) (by simp) _ _ _ _ _ _ _ _ _ _ _ _) (by omega)
 .exact HR.out _ _ 11 _ (HR.out _ _ 10 _ (HR.out _ _ 9 _ (HR.out _ _ 8 _ (HR.out _ _ 7 _ (HR.out _ _ 6 _ (HR.out _ _ 5 _ (HR.out _ _ 4 _ (HR.out _ _ 3 _ (HR.out _ _ 2 _ (HR.out _ _ 1 _ (HR.out _ _ 0 _ (Rq.out))))))))))))
def fu(ne er:Int)(n':Nd)(S:Nat->Prop)(R:World->Prop)(w:World)(e:OT)(w':World):Prop:=Sh S w w' /\
 ((ne≠0/\e=By (Ik #[Ij #[Y ⟨#[]⟩,Y ⟨#[]⟩,J be 0 0,J be 0 0,J be 0 0,J be 0 0,U O 0,U O 0,U O 0,U O 0,U O 0,J be 0 0],U O ne]))\/(ne=0/\er≠0/\e=By (Ik #[Ij #[Y ⟨#[]⟩,Y ⟨#[]⟩,J be 0 0,J be 0 0,J be 0 0,J be 0 0,U O 0,U O 0,U O 0,U O 0,U O 0,J be 0 0],U O er])) \/
 (ne=0/\er=0/\∃um ur us ug uw,e=By (Ik #[Ij (dt n' um ur us ug uw),U O 0])/\cL w.heap.size w' n' um ur us ug uw/\il n'/\R w'))
theorem iV(kf:Nat)(cs:Array Value)(eg:∀args w,(callFunc kf args).run Tryz.prog w=.ok (.enter kf args) w)(n:Nd)(vm vr vs vg vw:Value)(w:World)(h:eS w n vm vr vs vg vw)(S:Nat->Prop)(er:Int)(n':Nd)(R:World->Prop)(hF:n.e=0->∀W b,Below w.heap.size w W->w.heap.size+2<=b->Wk (w.heap.size+2) W b n->aF kf (#[Ie (AI ⟨b,0,be⟩)]++cs) W λe w'=>e=By (U O er)/\Sh (λk=>w.heap.size+2<=k\/S k) W w'/\(er=0->Wk (w.heap.size+2) w' b n'/\R w'))(hR:∀W j x,R W->R (W.setCell ⟨w.heap.size+1,j,be⟩ x))(hS:∀k,S k->k<w.heap.size) :
 aF 29 #[Ij (dt n vm vr vs vg vw),IQ (.func kf) #[] cs] w λe w'=>fu n.e er n' S R w e w':=by
 refine(vT kf cs eg n vm vr vs vg vw w h S er (λk W=>k=n'/\R W) (λhe W b h1 h2 h3=>(hF he W b h1 h2 h3).mono ?_) (λk W j x h=>⟨h.1,hR W j x h.2⟩) hS).mono ?_
 .rintro e w' ⟨h4,h5,h6⟩
  exact⟨h4,h5,λh=>⟨n',(h6 h).1,rfl,(h6 h).2⟩⟩
 .rintro e w' ⟨Aq,LI⟩
  refine⟨Aq,?_⟩;rcases LI with⟨h1,_,h2⟩|h1|⟨h1,h2,k,um,ur,us,ug,uw,h3,h4,h5,rfl,h6⟩
  .exact .inl ⟨h1,h2⟩
  .exact .inr (.inl h1)
  .exact .inr (.inr ⟨h1,h2,um,ur,us,ug,uw,h3,h4,h5,h6⟩)
def dz(ne er:Int)(n':Nd)(w:World)(e:OT)(w':World):Prop:=Below w.heap.size w w' /\
 ((ne≠0/\e=By (Ik #[Ij #[Y ⟨#[]⟩,Y ⟨#[]⟩,J be 0 0,J be 0 0,J be 0 0,J be 0 0,U O 0,U O 0,U O 0,U O 0,U O 0,J be 0 0],U O ne]))\/(ne=0/\er≠0/\e=By (Ik #[Ij #[Y ⟨#[]⟩,Y ⟨#[]⟩,J be 0 0,J be 0 0,J be 0 0,J be 0 0,U O 0,U O 0,U O 0,U O 0,U O 0,J be 0 0],U O er])) \/
 (ne=0/\er=0/\∃um ur us ug uw,e=By (Ik #[Ij (dt n' um ur us ug uw),U O 0])/\cL w.heap.size w' n' um ur us ug uw/\il n'))
theorem fu.wrap{ne er:Int}{n':Nd}{w W0 w1:World}{e:OT}{rb:Nat}(h:fu ne er n' (λ_=>False) (λ_=>True) W0 e w1)(hb:Below w.heap.size w W0)(hz:W0.heap[rb]?=AI (AT #[Y ⟨#[]⟩,Y ⟨#[]⟩,J be 0 0,J be 0 0,J be 0 0,J be 0 0,U O 0,U O 0,U O 0,U O 0,U O 0,J be 0 0] 42 (0,0)))(hle:w.heap.size<=rb) :
 w1.heap[rb]?=AI (AT #[Y ⟨#[]⟩,Y ⟨#[]⟩,J be 0 0,J be 0 0,J be 0 0,J be 0 0,U O 0,U O 0,U O 0,U O 0,U O 0,J be 0 0] 42 (0,0))/\∃u0 u1 b2 m2 e2 b3 m3 e3 b4 m4 e4 b5 m5 e5 u6 u7 u8 u9 u10 b11 m11 e11 r,e=By (Ik #[Ij #[Y u0,Y u1,J b2 m2 e2,J b3 m3 e3,J b4 m4 e4,J b5 m5 e5,U O u6,U O u7,U O u8,U O u9,U O u10,J b11 m11 e11],U O r])/\Hid (dz ne er n' w (By (Ik #[Ij #[Y u0,Y u1,J b2 m2 e2,J b3 m3 e3,J b4 m4 e4,J b5 m5 e5,U O u6,U O u7,U O u8,U O u9,U O u10,J b11 m11 e11],U O r])) (aC rb [Y u0,Y u1,J b2 m2 e2,J b3 m3 e3,J b4 m4 e4,J b5 m5 e5,U O u6,U O u7,U O u8,U O u9,U O u10,J b11 m11 e11] 0 w1)):=by
 obtain⟨Aq,LI⟩:=h;have aW:=(BY.1 hz).1;have aB:=Aq.below (Ic _) (λ_ hk=>hk.elim);have aJ:=hb.trans (aB.mono hb.size);refine⟨(aB.block _ aW).trans hz,?_⟩;rcases LI with⟨aM,rfl⟩|⟨aM,Di,rfl⟩|⟨aM,Di,um,ur,us,ug,uw,rfl,hown,hU,_⟩
 .exact⟨_,_,_,_,_,_,_,_,_,_,_,_,_,_,_,_,_,_,_,_,_,_,_,rfl,aQ hle _ _ aJ,.inl ⟨aM,rfl⟩⟩
 .exact⟨_,_,_,_,_,_,_,_,_,_,_,_,_,_,_,_,_,_,_,_,_,_,_,rfl,aQ hle _ _ aJ,.inr (.inl ⟨aM,Di,rfl⟩)⟩
 .have ho:cL w.heap.size (aC rb [Y n'.name,Y n'.aD,um,ur,us,ug,U O n'.p.x,U O n'.p.y,U O n'.p.z,U O n'.p.h,U O n'.p.s,uw] 0 w1) n' um ur us ug uw:=⟨Own.mono (cC aW _ _ hown.ms) hb.size,cH.base (cC aW _ _ hown.rs) hb.size,Sv.Own.mono (cC aW _ _ hown.sv) hb.size,Gw.Own.mono (cC aW _ _ hown.gw) hb.size,Wh.Own.mono (cC aW _ _ hown.wh) hb.size⟩
  obtain⟨im2,jm2,nJ,_⟩:=aA hown.ms;obtain⟨ir2,jr2,uX,_⟩:=aA hown.rs;obtain⟨is2,js2,tK,_⟩:=aA hown.sv;obtain⟨ig2,jg2,zC,_⟩:=aA hown.gw;obtain⟨ih2,jh2,Ez,_⟩:=aA hown.wh;subst nJ uX tK zC Ez;exact⟨_,_,_,_,_,_,_,_,_,_,_,_,_,_,_,_,_,_,_,_,_,_,_,rfl,aQ hle _ _ aJ,.inr (.inr ⟨aM,Di,_,_,_,_,_,rfl,ho,hU⟩)⟩
theorem Nd.sp{n:Nd}(h:n.e=0):Sp n:=⟨(Nd.parts (Nd.aU h).1).ms,(Nd.parts (Nd.aU h).1).rs,(Nd.parts (Nd.aU h).1).name⟩
theorem BL(L b tb:Nat)(n:Nd)(t:ByteArray)(w:World)(h:Wk L w b n)(hL:L<=b)(vc:Sp n)(ht:t.size<=Il)(hc:w.heap[tb]?=AI (AT #[Y t] 9 (0,0))) :
 aF 40 #[Ie (AI ⟨b,0,be⟩),Ie (AI ⟨tb,0,be⟩)] w λe w'=>e=By (U O (sn n t 1 2))/\Sh (λk=>k=b) w w'/\Hid (sn n t 1 2=0->Wk L w' b (zA n t 2)):=by
 have HC:Hid (aF _ _ _ _):=tw L b n t 1 2 w h hL vc.ms vc.rs vc.name ht rfl;have y0:=ae hc 0;clear h vc hc;generalize sn n t 1 2=we at *;go_enter Tryz.func40,Tryz.ntmps40;go_wp2_with fail;refine HC.out.mono ?_;rintro e w1 ⟨rfl,hs,hk⟩;have HS:Hid _:=hs;clear hs;go_wp2_with fail;go_ret;exact⟨rfl,HS.out,hk⟩
theorem vU(n:Nd)(t:ByteArray)(vm vr vs vg vw:Value)(w:World)(h:eS w n vm vr vs vg vw)(ht:t.size<=Il) :
 aF 25 #[Ij (dt n vm vr vs vg vw),Y t] w λe w'=>dz n.e (sn n t 1 2) (zA n t 2) w e w':=by
 have ml:Hid _:=h;obtain⟨W0,bJ⟩:∃W0,W0=w.heap.size:=⟨_,rfl⟩;clear bJ W0;have lR:Hid (∀W0,Below w.heap.size w W0->W0.heap.size=w.heap.size+3->W0.heap[w.heap.size+1]?=AI (AT #[Y t] 9 (0,0))->aF 29 #[Ij (dt n vm vr vs vg vw),IQ (.func 40) #[] #[Ie (AI ⟨w.heap.size+1,0,be⟩)]] W0 λe w'=>fu n.e (sn n t 1 2) (zA n t 2) (λ_=>False) (λ_=>True) W0 e w'):=λW0 hb hs hc1=>
  iV 40 #[Ie (AI ⟨w.heap.size+1,0,be⟩)] (enters_of Tryz.func40 (by kernel_rfl) rfl) n vm vr vs vg vw W0 (h.below hb) (λ_=>False) (sn n t 1 2) (zA n t 2) (λ_=>True)
   (λhe W b hW aJ hk=>by
    refine(BL (W0.heap.size+2) b (w.heap.size+1) n t W hk (by omega) (Nd.sp he) ht ((hW.block _ (by omega)).trans hc1)).mono ?_;rintro e w' ⟨rfl,hs,hh⟩;exact⟨rfl,hs.mono (λk hk=>.inl (by omega)),λh=>⟨hh.out h,trivial⟩⟩
   ) (λ_ _ _ _=>trivial) (λ_ hk=>hk.elim)
 obtain⟨nm,ct,ms,rs,sv,gw,⟨px,py,pz,ph,pq⟩,wh⟩:=n;obtain⟨⟨em,cm,rfl,_,_⟩,⟨qL,cr,rfl,_,_⟩,⟨es,qM,rfl,_,_⟩,⟨qN,cg,rfl,_,_⟩,⟨eh,ch,rfl,_,_⟩,_,_⟩:=h;simp only[dt] at lR ⊢;generalize ms.length=km at *;generalize rs.length=kr at *;generalize sv.length=ks at *;generalize gw.length=kg at *;generalize wh.length=kh at *;generalize Nd.e ⟨nm,ct,ms,rs,sv,gw,⟨px,py,pz,ph,pq⟩,wh⟩=ne at *;generalize sn ⟨nm,ct,ms,rs,sv,gw,⟨px,py,pz,ph,pq⟩,wh⟩ t 1 2=er at *;generalize zA ⟨nm,ct,ms,rs,sv,gw,⟨px,py,pz,ph,pq⟩,wh⟩ t 2=n' at *;obtain⟨W0,bJ,bM,eE,vz,hc1,dh⟩:=oe w #[Y nm,Y ct,J em km cm,J qL kr cr,J es ks qM,J qN kg cg,U O px,U O py,U O pz,U O ph,U O pq,J eh kh ch] #[Y t] #[Y ⟨#[]⟩,Y ⟨#[]⟩,J be 0 0,J be 0 0,J be 0 0,J be 0 0,U O 0,U O 0,U O 0,U O 0,U O 0,J be 0 0] 42 9 42;have rz:=lR.out W0 bM eE hc1;have da:Hid _:=bM;have nI:Hid _:=dh;clear bM eE vz hc1 dh lR;go_enter Tryz.func25,Tryz.ntmps25;go_wp2_with fail;rw[<- bJ];refine rz.mono ?_;intro e w1 h;obtain⟨cZ,u0,u1,b2,m2,e2,b3,m3,e3,b4,m4,e4,b5,m5,e5,u6,u7,u8,u9,u10,b11,m11,e11,r1,rfl,HR⟩:=h.wrap da.out nI.out (by omega);obtain⟨q0,q1,q2,q3,q4,q5,q6,q7,q8,q9,q10,q11⟩:=bA cZ;obtain⟨vK,vL,xc,xd,xe,xf,CV,CW,CX,CY,pG,pH⟩:=jT cZ;clear h cZ rz bJ da nI;simp only[aC,IC,Jh] at HR;go_wp2_with fail;exact IK (v:=Ik #[Ij #[Y u0,Y u1,J b2 m2 e2,J b3 m3 e3,J b4 m4 e4,J b5 m5 e5,U O u6,U O u7,U O u8,U O u9,U O u10,J b11 m11 e11],U O r1]) (by simp[results,Tryz.results25,go_sem,q0,q1,q2,q3,q4,q5,q6,q7,q8,q9,q10,q11]) rfl HR.out
theorem Wh.tM{wh:List Wh.bE}(h:Wh.bj wh=0)(hk:∀m∈wh,m.ok):Wh.oB wh:=⟨(Wh.af h).2.1,(Wh.af h).1,hk⟩
theorem EA(L b tb:Nat)(n:Nd)(cU:ByteArray)(whole:Bool)(sr:List Mem)(oP:List Sv.aT)(oQ:List Gw.bK)(rS:List Wh.bE)(am aS aG aH:Option Addr)(bm bS bG bH:Nat)(w0 w:World)(h:Wk L w b n)(hL:L<=b)(he:n.e=0)(hU:il n)(hx:jY w0 ⟨cU,whole,sr,oP,oQ,rS⟩ (J am sr.length bm) (J aS oP.length bS) (J aG oQ.length bG) (J aH rS.length bH))(hB:Below w0.heap.size w0 w)(hBL:w0.heap.size<=L)(hlen:whole=true\/oP.length+oQ.length+rS.length<=4611686018427387904)(hc:w.heap[tb]?=AI (AT #[Y cU,Ia whole,J am sr.length bm,J aS oP.length bS,J aG oQ.length bG,J aH rS.length bH] 53 (0,0))) :
 aF 38 #[Ie (AI ⟨b,0,be⟩),Ie (AI ⟨tb,0,be⟩)] w λe w'=>e=By (U O (pR n ⟨cU,whole,sr,oP,oQ,rS⟩))/\Sh (λk=>L<=k) w w'/\Hid (pR n ⟨cU,whole,sr,oP,oQ,rS⟩=0->Wk L w' b (rQ n ⟨cU,whole,sr,oP,oQ,rS⟩)):=by
 have hp:=Nd.parts (Nd.aU he).1;have HC:Hid (aF 39 #[Ie (AI ⟨b,0,be⟩),Ij #[Y cU,Ia whole,J am sr.length bm,J aS oP.length bS,J aG oQ.length bG,J aH rS.length bH]] w λe w'=>e=By (U O (pR n ⟨cU,whole,sr,oP,oQ,rS⟩))/\Sh (λk=>L<=k) w w'/\Hid (pR n ⟨cU,whole,sr,oP,oQ,rS⟩=0->Wk L w' b (rQ n ⟨cU,whole,sr,oP,oQ,rS⟩))):=
  Eo L b n ⟨cU,whole,sr,oP,oQ,rS⟩ _ _ _ _ w0 w h hL (Nd.sp he) hp.sv hp.gw (Wh.tM hp.wh hU.wh) hx hB hBL hlen
 obtain⟨y0,y1,y2,y3,y4,y5⟩:=fm hc;clear h hp hc hx;generalize pR n ⟨cU,whole,sr,oP,oQ,rS⟩=we at *;generalize rQ n ⟨cU,whole,sr,oP,oQ,rS⟩=nn at *;generalize sr.length=k1 at *;generalize oP.length=k2 at *;generalize oQ.length=k3 at *;generalize rS.length=k4 at *;go_enter Tryz.func38,Tryz.ntmps38;go_wp2_with fail;refine HC.out.mono ?_;rintro e w1 ⟨rfl,hs,hk⟩;have HS:Hid _:=hs;clear hs;go_wp2_with fail;go_ret;exact⟨rfl,HS.out,hk⟩
theorem tN(n:Nd)(p:Pk)(zm zs zg zw:Value)(vm vr vs vg vw:Value)(w:World)(h:eS w n vm vr vs vg vw)(hx:jY w p zm zs zg zw)(hlen:p.whole=true\/p.sv.length+p.gw.length+p.wh.length<=4611686018427387904) :
 aF 24 #[Ij (dt n vm vr vs vg vw),Ij #[Y p.cU,Ia p.whole,zm,zs,zg,zw]] w λe w'=>dz n.e (pR n p) (rQ n p) w e w':=by
 have ml:Hid _:=h;have HX:Hid _:=hx;obtain⟨cU,whole,sr,oP,oQ,rS⟩:=p;obtain⟨⟨am,bm,rfl,_,_⟩,⟨aS,bS,rfl,_,_⟩,⟨aG,bG,rfl,_,_⟩,⟨aH,bH,rfl,_,_⟩,_,_⟩:=hx;simp only at hlen HX ⊢;obtain⟨W0,bJ⟩:∃W0,W0=w.heap.size:=⟨_,rfl⟩;clear bJ W0;have lR:Hid (∀W0,Below w.heap.size w W0->W0.heap.size=w.heap.size+3->W0.heap[w.heap.size+1]?=AI (AT #[Y cU,Ia whole,J am sr.length bm,J aS oP.length bS,J aG oQ.length bG,J aH rS.length bH] 53 (0,0))->aF 29 #[Ij (dt n vm vr vs vg vw),IQ (.func 38) #[] #[Ie (AI ⟨w.heap.size+1,0,be⟩)]] W0 λe w'=>fu n.e (pR n ⟨cU,whole,sr,oP,oQ,rS⟩) (rQ n ⟨cU,whole,sr,oP,oQ,rS⟩) (λ_=>False) (λ_=>True) W0 e w'):=λW0 hb hs hc1=>
  iV 38 #[Ie (AI ⟨w.heap.size+1,0,be⟩)] (enters_of Tryz.func38 (by kernel_rfl) rfl) n vm vr vs vg vw W0 (h.below hb) (λ_=>False) (pR n ⟨cU,whole,sr,oP,oQ,rS⟩) (rQ n ⟨cU,whole,sr,oP,oQ,rS⟩) (λ_=>True)
   (λhe W b hW aJ hk=>by
    refine(EA (W0.heap.size+2) b (w.heap.size+1) n cU whole sr oP oQ rS am aS aG aH bm bS bG bH W0 W hk (by omega) he h.ok (HX.out.below hb) hW (by omega) hlen ((hW.block _ (by omega)).trans hc1)).mono ?_;rintro e w' ⟨rfl,hs,hh⟩;exact⟨rfl,hs.mono (λk hk=>.inl hk),λh=>⟨hh.out h,trivial⟩⟩
   ) (λ_ _ _ _=>trivial) (λ_ hk=>hk.elim)
 obtain⟨nm,ct,ms,rs,sv,gw,⟨px,py,pz,ph,pq⟩,wh⟩:=n;obtain⟨⟨em,cm,rfl,_,_⟩,⟨qL,cr,rfl,_,_⟩,⟨es,qM,rfl,_,_⟩,⟨qN,cg,rfl,_,_⟩,⟨eh,ch,rfl,_,_⟩,_,_⟩:=h;simp only[dt] at lR ⊢;generalize ms.length=km at *;generalize rs.length=kr at *;generalize sv.length=ks at *;generalize gw.length=kg at *;generalize wh.length=kh at *;generalize sr.length=k1 at *;generalize oP.length=k2 at *;generalize oQ.length=k3 at *;generalize rS.length=k4 at *;generalize Nd.e ⟨nm,ct,ms,rs,sv,gw,⟨px,py,pz,ph,pq⟩,wh⟩=ne at *;generalize pR ⟨nm,ct,ms,rs,sv,gw,⟨px,py,pz,ph,pq⟩,wh⟩ ⟨cU,whole,sr,oP,oQ,rS⟩=er at *;generalize rQ ⟨nm,ct,ms,rs,sv,gw,⟨px,py,pz,ph,pq⟩,wh⟩ ⟨cU,whole,sr,oP,oQ,rS⟩=n' at *;obtain⟨W0,bJ,bM,eE,vz,hc1,dh⟩:=oe w #[Y nm,Y ct,J em km cm,J qL kr cr,J es ks qM,J qN kg cg,U O px,U O py,U O pz,U O ph,U O pq,J eh kh ch] #[Y cU,Ia whole,J am k1 bm,J aS k2 bS,J aG k3 bG,J aH k4 bH] #[Y ⟨#[]⟩,Y ⟨#[]⟩,J be 0 0,J be 0 0,J be 0 0,J be 0 0,U O 0,U O 0,U O 0,U O 0,U O 0,J be 0 0] 42 53 42;have rz:=lR.out W0 bM eE hc1;have da:Hid _:=bM;have nI:Hid _:=dh;clear bM eE vz hc1 dh lR;go_enter Tryz.func24,Tryz.ntmps24;go_wp2_with fail;rw[<- bJ];refine rz.mono ?_;intro e w1 h;obtain⟨cZ,u0,u1,b2,m2,e2,b3,m3,e3,b4,m4,e4,b5,m5,e5,u6,u7,u8,u9,u10,b11,m11,e11,r1,rfl,HR⟩:=h.wrap da.out nI.out (by omega);obtain⟨q0,q1,q2,q3,q4,q5,q6,q7,q8,q9,q10,q11⟩:=bA cZ;obtain⟨vK,vL,xc,xd,xe,xf,CV,CW,CX,CY,pG,pH⟩:=jT cZ;clear h cZ rz bJ da nI;simp only[aC,IC,Jh] at HR;go_wp2_with fail;exact IK (v:=Ik #[Ij #[Y u0,Y u1,J b2 m2 e2,J b3 m3 e3,J b4 m4 e4,J b5 m5 e5,U O u6,U O u7,U O u8,U O u9,U O u10,J b11 m11 e11],U O r1]) (by simp[results,Tryz.results24,go_sem,q0,q1,q2,q3,q4,q5,q6,q7,q8,q9,q10,q11]) rfl HR.out
def MV(nm ct:ByteArray)(ad:Int):Int:=if(bb nm&&bb ct)=true then(if within ad 0 4294967295=true then 0 else 3) else 1
def Gm(nm ct:ByteArray)(ad:Int)(sv:Bool):Nd:=⟨nm,ct,[⟨nm,1,1,ad,sv⟩],[],[],[],⟨0,0,0,0,1000⟩,[]⟩
theorem su(nm ct:ByteArray)(ad:Int)(sv:Bool)(w:World)(hn:nm.size<=Il)(hc:ct.size<=Il) :
 aF 21 #[Y nm,Y ct,U O ad,Ia sv] w λe w'=>dz (MV nm ct ad) 0 (Gm nm ct ad sv) w e w':=by
 have HE:Hid (MV nm ct ad=if(bb nm&&bb ct)=true then(if within ad 0 4294967295=true then 0 else 3) else 1):=rfl;obtain⟨W1,cM⟩:∃W1,W1=(w.alloc (AT #[Y ⟨#[]⟩,Y ⟨#[]⟩,J be 0 0,J be 0 0,J be 0 0,J be 0 0,U O 0,U O 0,U O 0,U O 0,U O 0,J be 0 0] 42)).alloc (AT #[Y nm,Y ct] 9):=⟨_,rfl⟩;have cK:W1.heap[w.heap.size+1]?=AI (AT #[Y nm,Y ct] 9 (0,0)):=by
  have h:=Ih (w.alloc (AT #[Y ⟨#[]⟩,Y ⟨#[]⟩,J be 0 0,J be 0 0,J be 0 0,J be 0 0,U O 0,U O 0,U O 0,U O 0,U O 0,J be 0 0] 42)) (AT #[Y nm,Y ct] 9);rw[cM];simpa using h
 have cZ:W1.heap[w.heap.size]?=AI (AT #[Y ⟨#[]⟩,Y ⟨#[]⟩,J be 0 0,J be 0 0,J be 0 0,J be 0 0,U O 0,U O 0,U O 0,U O 0,U O 0,J be 0 0] 42 (0,0)):=by
  rw[cM,Below.heap_alloc _ _ _ (by simp)];exact Ih w _
 have fg:W1.heap.size=w.heap.size+2:=by rw[cM];simp
 have aV:Hid (Below w.heap.size w W1):=by rw[cM];exact((Below.refl _ _).alloc (Ic _) _).alloc (by simp) _
 have HL:Hid (aF _ _ _ _):=zl nm ct hn hc _ 2 W1 (ae cK 0) (ae cK 1);obtain⟨q0,q1,q2,q3,q4,q5,q6,q7,q8,q9,q10,q11⟩:=bA cZ;obtain⟨vK,vL,xc,xd,xe,xf,CV,CW,CX,CY,pG,pH⟩:=jT cZ;have Gi:Hid _:=cZ;have tv:Hid _:=fg;have BM:w.heap.size<W1.heap.size:=by omega
 clear cK cZ fg;generalize MV nm ct ad=ne at *;generalize(bb nm&&bb ct)=lb at *;go_enter Tryz.func21,Tryz.ntmps21;go_wp2_with fail;rw[<- cM];refine HL.out.mono ?_;rintro e w1 ⟨rfl,Px⟩;have Gl:=Px.symm;subst Gl;clear cM HL Px;cases lb
 .have HR:Hid (ne=1):=HE.out.trans (by simp)
  go_wp2_with fail;refine IK (v:=Ik #[Ij #[Y ⟨#[]⟩,Y ⟨#[]⟩,J be 0 0,J be 0 0,J be 0 0,J be 0 0,U O 0,U O 0,U O 0,U O 0,U O 0,J be 0 0],U O 1]) ?_ rfl ?_
  .simp[results,Tryz.results21,go_sem,q0,q1,q2,q3,q4,q5,q6,q7,q8,q9,q10,q11]
  .unfold dz
   exact⟨((((((((((((aV.out).setCell (p:=⟨w.heap.size,0,be⟩) (by simp) _).setCell (p:=⟨w.heap.size,1,be⟩) (by simp) _).setCell (p:=⟨w.heap.size,2,be⟩) (by simp) _).setCell (p:=⟨w.heap.size,3,be⟩) (by simp) _).setCell (p:=⟨w.heap.size,4,be⟩) (by simp) _).setCell (p:=⟨w.heap.size,5,be⟩) (by simp) _).setCell (p:=⟨w.heap.size,6,be⟩) (by simp) _).setCell (p:=⟨w.heap.size,7,be⟩) (by simp) _).setCell (p:=⟨w.heap.size,8,be⟩) (by simp) _).setCell (p:=⟨w.heap.size,9,be⟩) (by simp) _).setCell (p:=⟨w.heap.size,10,be⟩) (by simp) _).setCell (p:=⟨w.heap.size,11,be⟩) (by simp) _,.inl ⟨by rw[HR.out];simp,by rw[HR.out]⟩⟩
 rcases ha:within ad 0 4294967295 with _|_
 .have HR:Hid (ne=3):=HE.out.trans (by simp[ha])
  go_wp2_with (go_at_call 35;refine(eF _ _).mono ?_;rintro e w' ⟨rfl,hx⟩;have hy:=hx.symm;subst hy;rw[ha]);refine IK (v:=Ik #[Ij #[Y ⟨#[]⟩,Y ⟨#[]⟩,J be 0 0,J be 0 0,J be 0 0,J be 0 0,U O 0,U O 0,U O 0,U O 0,U O 0,J be 0 0],U O 3]) ?_ rfl ?_
  .simp[results,Tryz.results21,go_sem,q0,q1,q2,q3,q4,q5,q6,q7,q8,q9,q10,q11]
  .unfold dz
   exact⟨((((((((((((aV.out).setCell (p:=⟨w.heap.size,0,be⟩) (by simp) _).setCell (p:=⟨w.heap.size,1,be⟩) (by simp) _).setCell (p:=⟨w.heap.size,2,be⟩) (by simp) _).setCell (p:=⟨w.heap.size,3,be⟩) (by simp) _).setCell (p:=⟨w.heap.size,4,be⟩) (by simp) _).setCell (p:=⟨w.heap.size,5,be⟩) (by simp) _).setCell (p:=⟨w.heap.size,6,be⟩) (by simp) _).setCell (p:=⟨w.heap.size,7,be⟩) (by simp) _).setCell (p:=⟨w.heap.size,8,be⟩) (by simp) _).setCell (p:=⟨w.heap.size,9,be⟩) (by simp) _).setCell (p:=⟨w.heap.size,10,be⟩) (by simp) _).setCell (p:=⟨w.heap.size,11,be⟩) (by simp) _,.inl ⟨by rw[HR.out];simp,by rw[HR.out]⟩⟩
 have HR:Hid (ne=0):=HE.out.trans (by simp[ha]);have Wp:Hid (∀V:World,V.heap.size=W1.heap.size->((V.alloc (AT #[Y nm,U O 1,U O 1,U O ad,Ia sv] 50)).alloc (AT #[Y nm,U O 1,U O 1,U O ad,Ia sv] 50)).heap[W1.heap.size+1]?=AI (AT #[Y nm,U O 1,U O 1,U O ad,Ia sv] 50 (0,0))):=λV hV=>by
  have h:=Ih (V.alloc (AT #[Y nm,U O 1,U O 1,U O ad,Ia sv] 50)) (AT #[Y nm,U O 1,U O 1,U O ad,Ia sv] 50);rw[show(V.alloc (AT #[Y nm,U O 1,U O 1,U O ad,Ia sv] 50)).heap.size=W1.heap.size+1 by simp[hV]] at h;exact h
 go_wp2_with (go_at_call 35;refine(eF _ _).mono ?_;rintro e w' ⟨rfl,hx⟩;have hy:=hx.symm;subst hy;rw[ha]);refine IK (v:=Ik #[Ij #[Y nm,Y ct,J (AI ⟨W1.heap.size+1,0,be⟩) 1 1,J be 0 0,J be 0 0,J be 0 0,U O 0,U O 0,U O 0,U O 0,U O 1000,J be 0 0],U O 0]) ?_ rfl ?_
 .simp[results,Tryz.results21,go_sem,BM,q0,q1,q2,q3,q4,q5,q6,q7,q8,q9,q10,q11]
 .unfold dz
  refine⟨((((((((((((((aV.out).setCell (p:=⟨w.heap.size,0,be⟩) (by simp) _).setCell (p:=⟨w.heap.size,1,be⟩) (by simp) _).setCell (p:=⟨w.heap.size,2,be⟩) (by simp) _).setCell (p:=⟨w.heap.size,3,be⟩) (by simp) _).setCell (p:=⟨w.heap.size,4,be⟩) (by simp) _).setCell (p:=⟨w.heap.size,5,be⟩) (by simp) _).setCell (p:=⟨w.heap.size,6,be⟩) (by simp) _).setCell (p:=⟨w.heap.size,7,be⟩) (by simp) _).setCell (p:=⟨w.heap.size,8,be⟩) (by simp) _).setCell (p:=⟨w.heap.size,9,be⟩) (by simp) _).setCell (p:=⟨w.heap.size,10,be⟩) (by simp) _).setCell (p:=⟨w.heap.size,11,be⟩) (by simp) _).alloc (by simp[QY];omega) _).alloc (by simp[QY];omega) _,.inr (.inr ⟨HR.out,rfl,_,_,_,_,_,rfl,⟨?_,zD _ _,Sv.bY _ _,Gw.bY _ _,Wh.bY _ _⟩,?_⟩)⟩
  .exact ib (ms:=[⟨nm,1,1,ad,sv⟩]) (G:=1) (cur:=#[Y nm,U O 1,U O 1,U O ad,Ia sv]) (by omega) (Wp.out _ (by simp[QY])) rfl (by simp) (by unfold Il;omega) rfl
  .exact⟨λm hm=>by simp[Gm] at hm;subst hm;exact hn,λr hr=>by simp[Gm] at hr,λr hr=>by simp[Gm] at hr,λr hr=>by simp[Gm] at hr,λr hr=>by simp[Gm] at hr,hn,hc⟩
end Go.Proofs.YtfidhgjmifendaaGreatDoor
