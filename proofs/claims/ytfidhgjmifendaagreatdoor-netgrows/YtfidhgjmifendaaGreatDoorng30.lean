import Derived.Test.YtfidhgjmifendaaGreatDoorng27
import Derived.Shelf.SlSortCmp.SmallK
import Derived.Test.YtfidhgjmifendaaGreatDoorng29
set_option maxHeartbeats 25600000
set_option maxRecDepth 100000
open Option renaming none→be,some→AI
open Go renaming Ending→OR,heap_alloc_new→Ii,bodyPost_ret→IL,maxLen→Io
open Go.Ending renaming returned→AT
open Go.Value renaming tuple→Im,agg→Ik,string→Y,slice→J,int→U,pointer→If,func→IP,bool→Ia
open Go.IntKind renaming i64→O
open Go.Obj renaming cells→By
open Go.RowKit.Below renaming refl→Ib,heap_alloc→IE
open Nat renaming le_refl→Ic,zero_add→ID,reduceAdd→Jg
open Array renaming getElem?_eq_some_iff→BY
open Go.World renaming frozen?→Is,setCell→QZ
open Go.RowKit renaming ownsRow_setCell_below→Il
open List renaming getElem?_take_of_lt→IM,getD→Iq,getElem?_eq_getElem→Ie,getElem?_eq_none→I0
namespace Go.Proofs.YtfidhgjmifendaaGreatDoor
open Go.RowKit
theorem Ky{S:Nat->Prop}{w w':World}(h:Sh (λk=>S k\/w.heap.size<=k) w w'):Sh S w w':=by
 refine⟨h.os,h.tape,h.output,h.size,λk hk hn=>h.block k hk ?_⟩;rintro(e|e)
 .exact hn e
 .omega
theorem Sh.jc{S:Nat->Prop}{L:Nat}{a w:World}(h:Sh (λk=>S k\/L<=k) a w){b i:Nat}(hb:L<=b)(x:Value):Sh (λk=>S k\/L<=k) a (w.setCell ⟨b,i,be⟩ x):=h.setCell (S:=λk=>S k\/L<=k) (.inr hb) x
theorem Sh.tE{S:Nat->Prop}{L:Nat}{a w:World}(h:Sh (λk=>S k\/L<=k) a w){b:Nat}(hb:L<=b)(x0 x1 x2 x3 x4 x5 x6 x7 x8 x9 x10 x11:Value):Sh (λk=>S k\/L<=k) a ((((((((((((w.setCell ⟨b,0,be⟩ x0).setCell ⟨b,1,be⟩ x1).setCell ⟨b,2,be⟩ x2).setCell ⟨b,3,be⟩ x3).setCell ⟨b,4,be⟩ x4).setCell ⟨b,5,be⟩ x5).setCell ⟨b,6,be⟩ x6).setCell ⟨b,7,be⟩ x7).setCell ⟨b,8,be⟩ x8).setCell ⟨b,9,be⟩ x9).setCell ⟨b,10,be⟩ x10).setCell ⟨b,11,be⟩ x11):=((((((((((((h).jc (i:=0) hb _).jc (i:=1) hb _).jc (i:=2) hb _).jc (i:=3) hb _).jc (i:=4) hb _).jc (i:=5) hb _).jc (i:=6) hb _).jc (i:=7) hb _).jc (i:=8) hb _).jc (i:=9) hb _).jc (i:=10) hb _).jc (i:=11) hb _
def kR(ne er:Int)(S:Nat->Prop)(R:Nd->World->Prop)(w:World)(e:OR)(w':World):Prop:=Sh S w w' /\
 ((ne≠0/\Below w.heap.size w w'/\e=AT (Im #[Ik #[Y ⟨#[]⟩,Y ⟨#[]⟩,J be 0 0,J be 0 0,J be 0 0,J be 0 0,U O 0,U O 0,U O 0,U O 0,U O 0,J be 0 0],U O ne]))\/(ne=0/\er≠0/\e=AT (Im #[Ik #[Y ⟨#[]⟩,Y ⟨#[]⟩,J be 0 0,J be 0 0,J be 0 0,J be 0 0,U O 0,U O 0,U O 0,U O 0,U O 0,J be 0 0],U O er])) \/
 (ne=0/\er=0/\∃n' um ur us ug uw,e=AT (Im #[Ik (dw n' um ur us ug uw),U O 0])/\cJ w.heap.size w' n' um ur us ug uw/\iq n'/\R n' w'))
theorem vR(kf:Nat)(cs:Array Value)(eg:∀args w,(callFunc kf args).run Tryz.prog w=.ok (.enter kf args) w)(n:Nd)(vm vr vs vg vw:Value)(w:World)(h:eT w n vm vr vs vg vw)(S:Nat->Prop)(er:Int)(R:Nd->World->Prop)(hF:n.e=0->∀W b,Below w.heap.size w W->w.heap.size+2<=b->Wk (w.heap.size+2) W b n->aF kf (#[If (AI ⟨b,0,be⟩)]++cs) W λe w'=>e=AT (U O er)/\Sh (λk=>w.heap.size+2<=k\/S k) W w'/\(er=0->∃n',Wk (w.heap.size+2) w' b n'/\R n' w'))(hR:∀n' W j x,R n' W->R n' (W.setCell ⟨w.heap.size+1,j,be⟩ x))(hS:∀k,S k->k<w.heap.size) :
 aF 29 #[Ik (dw n vm vr vs vg vw),IP (.func kf) #[] cs] w λe w'=>kR n.e er S R w e w':=by
 have l9:Hid _:=h;have kX:Hid _:=h.ok;have mr:Hid (∀W,Below w.heap.size w W->aF _ _ _ _):=λW hW=>oo n vm vr vs vg vw W (h.below hW);have Kz:Hid (n.e=0->∀W,Below w.heap.size w W->aF 37 #[Ik (dw n vm vr vs vg vw)] W λe w'=>∃um ur us ug uw,e=AT (Ik (dw n um ur us ug uw))/\cJ W.heap.size w' n um ur us ug uw/\Below W.heap.size W w'):=λhe W hW=>by
  have hp:=Nd.parts (Nd.bc he).1;have l1:=(af hp.ms).1;have l2:=(ki hp.rs).1;have l3:=(Sv.af hp.sv).1;have l4:=(Gw.af hp.gw).1;have l5:=(Wh.af hp.wh).1;exact qw n vm vr vs vg vw W (h.below hW) (by omega) (by omega) (by omega) (by omega) (by omega)
 have HF:Hid _:=hF;have HR:Hid _:=hR;have HSL:Hid _:=hS;clear hF hR hS;obtain⟨nm,ct,ms,rs,sv,gw,⟨px,py,pz,ph,pq⟩,wh⟩:=n;obtain⟨⟨em,cm,rfl,_,_⟩,⟨qG,cr,rfl,_,_⟩,⟨es,qH,rfl,_,_⟩,⟨qI,cg,rfl,_,_⟩,⟨eh,ch,rfl,_,_⟩,_,_⟩:=h;simp only[dw] at mr Kz ⊢;generalize CZ:ms.length=km at *;have Hkm:Hid _:=CZ;generalize AY:rs.length=kr at *;have Hkr:Hid _:=AY;generalize SK:sv.length=ks at *;have Hks:Hid _:=SK;generalize RV:gw.length=kg at *;have Hkg:Hid _:=RV;generalize Wn:wh.length=kh at *;have Hkh:Hid _:=Wn;clear CZ AY SK RV Wn;have HNE:Hid (∃ne,ne=Nd.e ⟨nm,ct,ms,rs,sv,gw,⟨px,py,pz,ph,pq⟩,wh⟩):=⟨_,rfl⟩;generalize Nd.e ⟨nm,ct,ms,rs,sv,gw,⟨px,py,pz,ph,pq⟩,wh⟩=ne at *;obtain⟨W0,bA⟩:∃W0,W0=(w.alloc (By #[Y nm,Y ct,J em km cm,J qG kr cr,J es ks qH,J qI kg cg,U O px,U O py,U O pz,U O ph,U O pq,J eh kh ch] 42)).alloc (By #[Y ⟨#[]⟩,Y ⟨#[]⟩,J be 0 0,J be 0 0,J be 0 0,J be 0 0,U O 0,U O 0,U O 0,U O 0,U O 0,J be 0 0] 42):=⟨_,rfl⟩;have bM:Below w.heap.size w W0:=by rw[bA];exact((Ib _ _).alloc (Ic _) _).alloc (by simp) _
 have dF:W0.heap[w.heap.size]?=AI (By #[Y nm,Y ct,J em km cm,J qG kr cr,J es ks qH,J qI kg cg,U O px,U O py,U O pz,U O ph,U O pq,J eh kh ch] 42 (0,0)):=by
  rw[bA,IE _ _ _ (by simp)];exact Ii w _
 have dd:W0.heap[w.heap.size+1]?=AI (By #[Y ⟨#[]⟩,Y ⟨#[]⟩,J be 0 0,J be 0 0,J be 0 0,J be 0 0,U O 0,U O 0,U O 0,U O 0,U O 0,J be 0 0] 42 (0,0)):=by
  have h:=Ii (w.alloc (By #[Y nm,Y ct,J em km cm,J qG kr cr,J es ks qH,J qI kg cg,U O px,U O py,U O pz,U O ph,U O pq,J eh kh ch] 42)) (By #[Y ⟨#[]⟩,Y ⟨#[]⟩,J be 0 0,J be 0 0,J be 0 0,J be 0 0,U O 0,U O 0,U O 0,U O 0,U O 0,J be 0 0] 42);rw[bA];simpa using h
 have eE:W0.heap.size=w.heap.size+2:=by rw[bA];simp
 have cY:Hid _:=bM;have AM:Hid _:=dF;have nE:Hid _:=dd;clear bM dF dd;go_enter Tryz.func29,Tryz.ntmps29;go_wp2_with fail;rw[<- bA];clear bA;refine(mr.out W0 cY.out).mono ?_;rintro e w1 ⟨rfl,aB⟩;have cI:=(aB.block _ (by omega)).trans AM.out;have cX:=(aB.block _ (by omega)).trans nE.out;have aY:Hid _:=cY.out.trans (aB.mono (by omega));have fh:=(BY.1 cX).1;have q0:=ae cX 0;have vI:w1.frozen? ⟨w.heap.size+1,0,be⟩=false:=by simp[Is,cX]
 have q1:=ae cX 1;have vJ:w1.frozen? ⟨w.heap.size+1,1,be⟩=false:=by simp[Is,cX]
 have q2:=ae cX 2;have xa:w1.frozen? ⟨w.heap.size+1,2,be⟩=false:=by simp[Is,cX]
 have q3:=ae cX 3;have xb:w1.frozen? ⟨w.heap.size+1,3,be⟩=false:=by simp[Is,cX]
 have q4:=ae cX 4;have xc:w1.frozen? ⟨w.heap.size+1,4,be⟩=false:=by simp[Is,cX]
 have q5:=ae cX 5;have xd:w1.frozen? ⟨w.heap.size+1,5,be⟩=false:=by simp[Is,cX]
 have q6:=ae cX 6;have CV:w1.frozen? ⟨w.heap.size+1,6,be⟩=false:=by simp[Is,cX]
 have q7:=ae cX 7;have CW:w1.frozen? ⟨w.heap.size+1,7,be⟩=false:=by simp[Is,cX]
 have q8:=ae cX 8;have CX:w1.frozen? ⟨w.heap.size+1,8,be⟩=false:=by simp[Is,cX]
 have q9:=ae cX 9;have CY:w1.frozen? ⟨w.heap.size+1,9,be⟩=false:=by simp[Is,cX]
 have q10:=ae cX 10;have pA:w1.frozen? ⟨w.heap.size+1,10,be⟩=false:=by simp[Is,cX]
 have q11:=ae cX 11;have pB:w1.frozen? ⟨w.heap.size+1,11,be⟩=false:=by simp[Is,cX]
 obtain⟨p0,p1,p2,p3,p4,p5,p6,p7,p8,p9,p10,p11⟩:=bu cI;have Gs:Hid _:=cX;clear aB cI cX;by_cases aT:ne=0;rotate_left
 .have SO:(ne !=0)=true:=by simpa using aT
  have HNZ:Hid _:=aT;have xi:Hid (Sh (λk=>S k\/w.heap.size<=k) w w1):=.of aY.out;clear aT;go_wp2_with fail;refine IL (v:=Im #[Ik #[Y ⟨#[]⟩,Y ⟨#[]⟩,J be 0 0,J be 0 0,J be 0 0,J be 0 0,U O 0,U O 0,U O 0,U O 0,U O 0,J be 0 0],U O ne]) ?_ rfl ?_
  .simp[results,Tryz.results29,go_sem,q0,q1,q2,q3,q4,q5,q6,q7,q8,q9,q10,q11]
  .unfold kR
   refine⟨?_,.inl ⟨HNZ.out,?_,rfl⟩⟩
   .exact Ky (xi.out.tE (Nat.le_succ _) _ _ _ _ _ _ _ _ _ _ _ _)
   .exact mM aY.out (by simp) _ _ _ _ _ _ _ _ _ _ _ _
 subst aT;have Eh:=Kz.out rfl w1 aY.out;have rY:Hid (∀W b,Below w.heap.size w W->w.heap.size+2<=b->Wk (w.heap.size+2) W b ⟨nm,ct,ms,rs,sv,gw,⟨px,py,pz,ph,pq⟩,wh⟩->aF _ _ _ _):=HF.out rfl;clear HF Kz;go_wp2_with fail;refine Eh.mono ?_;rintro e w2 ⟨um,ur,us,ug,uw,rfl,fB,aI⟩;obtain⟨im,jm,nF,_⟩:=aA fB.ms;obtain⟨ir,jr,uR,_⟩:=aA fB.rs;obtain⟨is_,js,tF,_⟩:=aA fB.sv;obtain⟨ig,jg,zt,_⟩:=aA fB.gw;obtain⟨ih,jh,EA,_⟩:=aA fB.wh;simp only at nF uR tF zt EA;rw[Hkm.out] at nF;rw[Hkr.out] at uR;rw[Hks.out] at tF;rw[Hkg.out] at zt;rw[Hkh.out] at EA;subst nF uR tF zt EA;obtain⟨W3,ep⟩:∃W3,W3=w2.alloc (By #[Y nm,Y ct,J im km jm,J ir kr jr,J is_ ks js,J ig kg jg,U O px,U O py,U O pz,U O ph,U O pq,J ih kh jh] 90):=⟨_,rfl⟩;have bp:Hid _:=aY.out.trans (aI.mono (by omega));have cF:Hid (Below w.heap.size w W3):=by rw[ep];exact bp.out.alloc bp.out.size _
 have iU:=aI.size;have rI:W3.heap.size=w2.heap.size+1:=by rw[ep];simp
 have BI:Below w2.heap.size w2 W3:=by rw[ep];exact(Ib _ _).alloc (Ic _) _
 have pZ:Hid _:=(BI.block _ (by omega)).trans ((aI.block _ (by omega)).trans Gs.out);have aR:∀{v:Value} {k:Nat},v.ownBlock=AI k->k<w2.heap.size->v.ownBlock≠AI w2.heap.size:=λh hk e=>by rw[h] at e;cases e;omega
 have pD:Hid (Wk (w.heap.size+2) W3 w2.heap.size ⟨nm,ct,ms,rs,sv,gw,⟨px,py,pz,ph,pq⟩,wh⟩):=by
  refine⟨_,_,_,_,_,?_,⟨(fB.ms.below BI).mono (by omega),(fB.rs.below BI).base (by omega),(fB.sv.below BI).mono (by omega),(fB.gw.below BI).mono (by omega),(fB.wh.below BI).mono (by omega)⟩,⟨λe=>?_,λe=>?_,λe=>?_,λe=>?_,λe=>?_⟩,kX.out⟩
  .rw[ep];exact Ii w2 _
  .have:=(fB.ms.lt _ e).2;omega
  .have:=(fB.rs.lt _ e).2;omega
  .have:=(fB.sv.lt _ e).2;omega
  .have:=(fB.gw.lt _ e).2;omega
  .have:=(fB.wh.lt _ e).2;omega
 have HFC:=rY.out W3 w2.heap.size cF.out (by omega) pD.out;clear fB aI BI aR q0 vI q1 vJ q2 xa q3 xb q4 xc q5 xd q6 CV q7 CW q8 CX q9 CY q10 pA q11 pB p0 p1 p2 p3 p4 p5 p6 p7 p8 p9 p10 p11;go_wp2_with fail;rw[<- ep];refine HFC.mono ?_;rintro e w4 ⟨rfl,Am,sL⟩;have xi:Hid (Sh (λk=>S k\/w.heap.size<=k) w w4):=(Sh.of cF.out).trans (Am.mono (λk hk=>hk.elim (λh=>.inr (by omega)) (λh=>.inl h)));have mj:=(Am.block _ (by omega) (λhk=>hk.elim (λh=>by omega) (λh=>by have:=HSL.out _ h;omega))).trans pZ.out;have gO:Hid _:=sL;have D8:=(BY.1 mj).1;have q0:=ae mj 0;have vI:w4.frozen? ⟨w.heap.size+1,0,be⟩=false:=by simp[Is,mj]
 have q1:=ae mj 1;have vJ:w4.frozen? ⟨w.heap.size+1,1,be⟩=false:=by simp[Is,mj]
 have q2:=ae mj 2;have xa:w4.frozen? ⟨w.heap.size+1,2,be⟩=false:=by simp[Is,mj]
 have q3:=ae mj 3;have xb:w4.frozen? ⟨w.heap.size+1,3,be⟩=false:=by simp[Is,mj]
 have q4:=ae mj 4;have xc:w4.frozen? ⟨w.heap.size+1,4,be⟩=false:=by simp[Is,mj]
 have q5:=ae mj 5;have xd:w4.frozen? ⟨w.heap.size+1,5,be⟩=false:=by simp[Is,mj]
 have q6:=ae mj 6;have CV:w4.frozen? ⟨w.heap.size+1,6,be⟩=false:=by simp[Is,mj]
 have q7:=ae mj 7;have CW:w4.frozen? ⟨w.heap.size+1,7,be⟩=false:=by simp[Is,mj]
 have q8:=ae mj 8;have CX:w4.frozen? ⟨w.heap.size+1,8,be⟩=false:=by simp[Is,mj]
 have q9:=ae mj 9;have CY:w4.frozen? ⟨w.heap.size+1,9,be⟩=false:=by simp[Is,mj]
 have q10:=ae mj 10;have pA:w4.frozen? ⟨w.heap.size+1,10,be⟩=false:=by simp[Is,mj]
 have q11:=ae mj 11;have pB:w4.frozen? ⟨w.heap.size+1,11,be⟩=false:=by simp[Is,mj]
 clear Am mj sL ep HFC Eh;by_cases KA:er=0;rotate_left
 .have alq:(er !=0)=true:=by simpa using KA
  have HEZ:Hid _:=KA;clear KA;go_wp2_with fail;refine IL (v:=Im #[Ik #[Y ⟨#[]⟩,Y ⟨#[]⟩,J be 0 0,J be 0 0,J be 0 0,J be 0 0,U O 0,U O 0,U O 0,U O 0,U O 0,J be 0 0],U O er]) ?_ rfl ?_
  .simp[results,Tryz.results29,go_sem,q0,q1,q2,q3,q4,q5,q6,q7,q8,q9,q10,q11]
  .unfold kR
   refine⟨?_,.inr (.inl ⟨rfl,HEZ.out,rfl⟩)⟩;exact Ky (xi.out.tE (Nat.le_succ _) _ _ _ _ _ _ _ _ _ _ _ _)
 obtain⟨n',⟨xm,xr,xs,xg,xw,VA,hown,ad0,hY⟩,hRR⟩:=gO.out KA;subst KA;have KB:Hid _:=hown;have HRR:Hid (R n' w4):=hRR;have ad1:Hid _:=hY;obtain⟨im2,jm2,nF,_⟩:=aA hown.ms;obtain⟨ir2,jr2,uR,_⟩:=aA hown.rs;obtain⟨is2,js2,tF,_⟩:=aA hown.sv;obtain⟨ig2,jg2,zt,_⟩:=aA hown.gw;obtain⟨ih2,jh2,EA,_⟩:=aA hown.wh;subst nF uR tF zt EA;obtain⟨p0,p1,p2,p3,p4,p5,p6,p7,p8,p9,p10,p11⟩:=bu VA;clear hown hRR hY ad0 VA gO;obtain⟨n2,c2,ms2,rs2,VK,gw2,⟨qx,qy,qz,qh,qq⟩,wh2⟩:=n';simp only at p0 p1 p2 p3 p4 p5 p6 p7 p8 p9 p10 p11;go_wp2_with fail;refine IL (v:=Im #[Ik #[Y n2,Y c2,J im2 ms2.length jm2,J ir2 rs2.length jr2,J is2 VK.length js2,J ig2 gw2.length jg2,U O qx,U O qy,U O qz,U O qh,U O qq,J ih2 wh2.length jh2],U O 0]) ?_ rfl ?_
 .simp[results,Tryz.results29,go_sem,q0,q1,q2,q3,q4,q5,q6,q7,q8,q9,q10,q11]
 unfold kR;refine⟨?_,.inr (.inr ⟨rfl,rfl,⟨n2,c2,ms2,rs2,VK,gw2,⟨qx,qy,qz,qh,qq⟩,wh2⟩,_,_,_,_,_,rfl,⟨?_,?_,?_,?_,?_⟩,ad1.out,?_⟩)⟩
 .exact Ky (xi.out.tE (Nat.le_succ _) _ _ _ _ _ _ _ _ _ _ _ _)
 .exact Own.mono (cV (KB.out.ms) (by simp) _ _ _ _ _ _ _ _ _ _ _ _) (by omega)
 .exact cE.base (cV (KB.out.rs) (by simp) _ _ _ _ _ _ _ _ _ _ _ _) (by omega)
 .exact Sv.Own.mono (cV (KB.out.sv) (by simp) _ _ _ _ _ _ _ _ _ _ _ _) (by omega)
 .exact Gw.Own.mono (cV (KB.out.gw) (by simp) _ _ _ _ _ _ _ _ _ _ _ _) (by omega)
 .exact Wh.Own.mono (cV (KB.out.wh) (by simp) _ _ _ _ _ _ _ _ _ _ _ _) (by omega)
 .exact HR.out _ _ 11 _ (HR.out _ _ 10 _ (HR.out _ _ 9 _ (HR.out _ _ 8 _ (HR.out _ _ 7 _ (HR.out _ _ 6 _ (HR.out _ _ 5 _ (HR.out _ _ 4 _ (HR.out _ _ 3 _ (HR.out _ _ 2 _ (HR.out _ _ 1 _ (HR.out _ _ 0 _ (HRR.out))))))))))))
def fu(ne er:Int)(n':Nd)(S:Nat->Prop)(R:World->Prop)(w:World)(e:OR)(w':World):Prop:=Sh S w w' /\
 ((ne≠0/\e=AT (Im #[Ik #[Y ⟨#[]⟩,Y ⟨#[]⟩,J be 0 0,J be 0 0,J be 0 0,J be 0 0,U O 0,U O 0,U O 0,U O 0,U O 0,J be 0 0],U O ne]))\/(ne=0/\er≠0/\e=AT (Im #[Ik #[Y ⟨#[]⟩,Y ⟨#[]⟩,J be 0 0,J be 0 0,J be 0 0,J be 0 0,U O 0,U O 0,U O 0,U O 0,U O 0,J be 0 0],U O er])) \/
 (ne=0/\er=0/\∃um ur us ug uw,e=AT (Im #[Ik (dw n' um ur us ug uw),U O 0])/\cJ w.heap.size w' n' um ur us ug uw/\iq n'/\R w'))
theorem iR(kf:Nat)(cs:Array Value)(eg:∀args w,(callFunc kf args).run Tryz.prog w=.ok (.enter kf args) w)(n:Nd)(vm vr vs vg vw:Value)(w:World)(h:eT w n vm vr vs vg vw)(S:Nat->Prop)(er:Int)(n':Nd)(R:World->Prop)(hF:n.e=0->∀W b,Below w.heap.size w W->w.heap.size+2<=b->Wk (w.heap.size+2) W b n->aF kf (#[If (AI ⟨b,0,be⟩)]++cs) W λe w'=>e=AT (U O er)/\Sh (λk=>w.heap.size+2<=k\/S k) W w'/\(er=0->Wk (w.heap.size+2) w' b n'/\R w'))(hR:∀W j x,R W->R (W.setCell ⟨w.heap.size+1,j,be⟩ x))(hS:∀k,S k->k<w.heap.size) :
 aF 29 #[Ik (dw n vm vr vs vg vw),IP (.func kf) #[] cs] w λe w'=>fu n.e er n' S R w e w':=by
 refine(vR kf cs eg n vm vr vs vg vw w h S er (λk W=>k=n'/\R W) (λhe W b h1 h2 h3=>(hF he W b h1 h2 h3).mono ?_) (λk W j x h=>⟨h.1,hR W j x h.2⟩) hS).mono ?_
 .rintro e w' ⟨h4,h5,h6⟩
  exact⟨h4,h5,λh=>⟨n',(h6 h).1,rfl,(h6 h).2⟩⟩
 .rintro e w' ⟨Am,LZ⟩
  refine⟨Am,?_⟩;rcases LZ with⟨h1,_,h2⟩|h1|⟨h1,h2,k,um,ur,us,ug,uw,h3,h4,h5,rfl,h6⟩
  .exact .inl ⟨h1,h2⟩
  .exact .inr (.inl h1)
  .exact .inr (.inr ⟨h1,h2,um,ur,us,ug,uw,h3,h4,h5,h6⟩)
def dx(ne er:Int)(n':Nd)(w:World)(e:OR)(w':World):Prop:=Below w.heap.size w w' /\
 ((ne≠0/\e=AT (Im #[Ik #[Y ⟨#[]⟩,Y ⟨#[]⟩,J be 0 0,J be 0 0,J be 0 0,J be 0 0,U O 0,U O 0,U O 0,U O 0,U O 0,J be 0 0],U O ne]))\/(ne=0/\er≠0/\e=AT (Im #[Ik #[Y ⟨#[]⟩,Y ⟨#[]⟩,J be 0 0,J be 0 0,J be 0 0,J be 0 0,U O 0,U O 0,U O 0,U O 0,U O 0,J be 0 0],U O er])) \/
 (ne=0/\er=0/\∃um ur us ug uw,e=AT (Im #[Ik (dw n' um ur us ug uw),U O 0])/\cJ w.heap.size w' n' um ur us ug uw/\iq n'))
theorem fu.wrap{ne er:Int}{n':Nd}{w W0 w1:World}{e:OR}{rb:Nat}(h:fu ne er n' (λ_=>False) (λ_=>True) W0 e w1)(hb:Below w.heap.size w W0)(hz:W0.heap[rb]?=AI (By #[Y ⟨#[]⟩,Y ⟨#[]⟩,J be 0 0,J be 0 0,J be 0 0,J be 0 0,U O 0,U O 0,U O 0,U O 0,U O 0,J be 0 0] 42 (0,0)))(hle:w.heap.size<=rb) :
 w1.heap[rb]?=AI (By #[Y ⟨#[]⟩,Y ⟨#[]⟩,J be 0 0,J be 0 0,J be 0 0,J be 0 0,U O 0,U O 0,U O 0,U O 0,U O 0,J be 0 0] 42 (0,0))/\∃u0 u1 b2 m2 e2 b3 m3 e3 b4 m4 e4 b5 m5 e5 u6 u7 u8 u9 u10 b11 m11 e11 r,e=AT (Im #[Ik #[Y u0,Y u1,J b2 m2 e2,J b3 m3 e3,J b4 m4 e4,J b5 m5 e5,U O u6,U O u7,U O u8,U O u9,U O u10,J b11 m11 e11],U O r])/\Hid (dx ne er n' w (AT (Im #[Ik #[Y u0,Y u1,J b2 m2 e2,J b3 m3 e3,J b4 m4 e4,J b5 m5 e5,U O u6,U O u7,U O u8,U O u9,U O u10,J b11 m11 e11],U O r])) (aD rb [Y u0,Y u1,J b2 m2 e2,J b3 m3 e3,J b4 m4 e4,J b5 m5 e5,U O u6,U O u7,U O u8,U O u9,U O u10,J b11 m11 e11] 0 w1)):=by
 obtain⟨Am,LZ⟩:=h;have aR:=(BY.1 hz).1;have aB:=Am.below (Ic _) (λ_ hk=>hk.elim);have aI:=hb.trans (aB.mono hb.size);refine⟨(aB.block _ aR).trans hz,?_⟩;rcases LZ with⟨aT,rfl⟩|⟨aT,KA,rfl⟩|⟨aT,KA,um,ur,us,ug,uw,rfl,hown,hY,_⟩
 .exact⟨_,_,_,_,_,_,_,_,_,_,_,_,_,_,_,_,_,_,_,_,_,_,_,rfl,aP hle _ _ aI,.inl ⟨aT,rfl⟩⟩
 .exact⟨_,_,_,_,_,_,_,_,_,_,_,_,_,_,_,_,_,_,_,_,_,_,_,rfl,aP hle _ _ aI,.inr (.inl ⟨aT,KA,rfl⟩)⟩
 .have ho:cJ w.heap.size (aD rb [Y n'.name,Y n'.aC,um,ur,us,ug,U O n'.p.x,U O n'.p.y,U O n'.p.z,U O n'.p.h,U O n'.p.s,uw] 0 w1) n' um ur us ug uw:=⟨Own.mono (cz aR _ _ hown.ms) hb.size,cE.base (cz aR _ _ hown.rs) hb.size,Sv.Own.mono (cz aR _ _ hown.sv) hb.size,Gw.Own.mono (cz aR _ _ hown.gw) hb.size,Wh.Own.mono (cz aR _ _ hown.wh) hb.size⟩
  obtain⟨im2,jm2,nF,_⟩:=aA hown.ms;obtain⟨ir2,jr2,uR,_⟩:=aA hown.rs;obtain⟨is2,js2,tF,_⟩:=aA hown.sv;obtain⟨ig2,jg2,zt,_⟩:=aA hown.gw;obtain⟨ih2,jh2,EA,_⟩:=aA hown.wh;subst nF uR tF zt EA;exact⟨_,_,_,_,_,_,_,_,_,_,_,_,_,_,_,_,_,_,_,_,_,_,_,rfl,aP hle _ _ aI,.inr (.inr ⟨aT,KA,_,_,_,_,_,rfl,ho,hY⟩)⟩
theorem Nd.sp{n:Nd}(h:n.e=0):Sp n:=⟨(Nd.parts (Nd.bc h).1).ms,(Nd.parts (Nd.bc h).1).rs,(Nd.parts (Nd.bc h).1).name⟩
theorem BJ(L b tb:Nat)(n:Nd)(t:ByteArray)(w:World)(h:Wk L w b n)(hL:L<=b)(uT:Sp n)(ht:t.size<=Io)(hc:w.heap[tb]?=AI (By #[Y t] 9 (0,0))) :
 aF 40 #[If (AI ⟨b,0,be⟩),If (AI ⟨tb,0,be⟩)] w λe w'=>e=AT (U O (ts n t 1 2))/\Sh (λk=>k=b) w w'/\Hid (ts n t 1 2=0->Wk L w' b (zj n t 2)):=by
 have HC:Hid (aF _ _ _ _):=tt L b n t 1 2 w h hL uT.ms uT.rs uT.name ht rfl;have y0:=ae hc 0;clear h uT hc;generalize ts n t 1 2=we at *;go_enter Tryz.func40,Tryz.ntmps40;go_wp2_with fail;refine HC.out.mono ?_;rintro e w1 ⟨rfl,hs,hk⟩;have HS:Hid _:=hs;clear hs;go_wp2_with fail;go_ret;exact⟨rfl,HS.out,hk⟩
theorem vS(n:Nd)(t:ByteArray)(vm vr vs vg vw:Value)(w:World)(h:eT w n vm vr vs vg vw)(ht:t.size<=Io) :
 aF 25 #[Ik (dw n vm vr vs vg vw),Y t] w λe w'=>dx n.e (ts n t 1 2) (zj n t 2) w e w':=by
 have l9:Hid _:=h;obtain⟨W0,bA⟩:∃W0,W0=w.heap.size:=⟨_,rfl⟩;clear bA W0;have lC:Hid (∀W0,Below w.heap.size w W0->W0.heap.size=w.heap.size+3->W0.heap[w.heap.size+1]?=AI (By #[Y t] 9 (0,0))->aF 29 #[Ik (dw n vm vr vs vg vw),IP (.func 40) #[] #[If (AI ⟨w.heap.size+1,0,be⟩)]] W0 λe w'=>fu n.e (ts n t 1 2) (zj n t 2) (λ_=>False) (λ_=>True) W0 e w'):=λW0 hb hs hc1=>
  iR 40 #[If (AI ⟨w.heap.size+1,0,be⟩)] (enters_of Tryz.func40 (by kernel_rfl) rfl) n vm vr vs vg vw W0 (h.below hb) (λ_=>False) (ts n t 1 2) (zj n t 2) (λ_=>True)
   (λhe W b hW aI hk=>by
    refine(BJ (W0.heap.size+2) b (w.heap.size+1) n t W hk (by omega) (Nd.sp he) ht ((hW.block _ (by omega)).trans hc1)).mono ?_;rintro e w' ⟨rfl,hs,hh⟩;exact⟨rfl,hs.mono (λk hk=>.inl (by omega)),λh=>⟨hh.out h,trivial⟩⟩
   ) (λ_ _ _ _=>trivial) (λ_ hk=>hk.elim)
 obtain⟨nm,ct,ms,rs,sv,gw,⟨px,py,pz,ph,pq⟩,wh⟩:=n;obtain⟨⟨em,cm,rfl,_,_⟩,⟨qG,cr,rfl,_,_⟩,⟨es,qH,rfl,_,_⟩,⟨qI,cg,rfl,_,_⟩,⟨eh,ch,rfl,_,_⟩,_,_⟩:=h;simp only[dw] at lC ⊢;generalize ms.length=km at *;generalize rs.length=kr at *;generalize sv.length=ks at *;generalize gw.length=kg at *;generalize wh.length=kh at *;generalize Nd.e ⟨nm,ct,ms,rs,sv,gw,⟨px,py,pz,ph,pq⟩,wh⟩=ne at *;generalize ts ⟨nm,ct,ms,rs,sv,gw,⟨px,py,pz,ph,pq⟩,wh⟩ t 1 2=er at *;generalize zj ⟨nm,ct,ms,rs,sv,gw,⟨px,py,pz,ph,pq⟩,wh⟩ t 2=n' at *;obtain⟨W0,bA,bM,eE,vu,hc1,dd⟩:=n9 w #[Y nm,Y ct,J em km cm,J qG kr cr,J es ks qH,J qI kg cg,U O px,U O py,U O pz,U O ph,U O pq,J eh kh ch] #[Y t] #[Y ⟨#[]⟩,Y ⟨#[]⟩,J be 0 0,J be 0 0,J be 0 0,J be 0 0,U O 0,U O 0,U O 0,U O 0,U O 0,J be 0 0] 42 9 42;have rh:=lC.out W0 bM eE hc1;have cY:Hid _:=bM;have nE:Hid _:=dd;clear bM eE vu hc1 dd lC;go_enter Tryz.func25,Tryz.ntmps25;go_wp2_with fail;rw[<- bA];refine rh.mono ?_;intro e w1 h;obtain⟨cX,u0,u1,b2,m2,e2,b3,m3,e3,b4,m4,e4,b5,m5,e5,u6,u7,u8,u9,u10,b11,m11,e11,r1,rfl,HR⟩:=h.wrap cY.out nE.out (by omega);obtain⟨q0,q1,q2,q3,q4,q5,q6,q7,q8,q9,q10,q11⟩:=bu cX;obtain⟨vI,vJ,xa,xb,xc,xd,CV,CW,CX,CY,pA,pB⟩:=jS cX;clear h cX rh bA cY nE;simp only[aD,ID,Jg] at HR;go_wp2_with fail;exact IL (v:=Im #[Ik #[Y u0,Y u1,J b2 m2 e2,J b3 m3 e3,J b4 m4 e4,J b5 m5 e5,U O u6,U O u7,U O u8,U O u9,U O u10,J b11 m11 e11],U O r1]) (by simp[results,Tryz.results25,go_sem,q0,q1,q2,q3,q4,q5,q6,q7,q8,q9,q10,q11]) rfl HR.out
theorem Wh.tG{wh:List Wh.bJ}(h:Wh.bj wh=0)(hk:∀m∈wh,m.ok):Wh.ow wh:=⟨(Wh.af h).2.1,(Wh.af h).1,hk⟩
theorem EB(L b tb:Nat)(n:Nd)(cT:ByteArray)(whole:Bool)(sg:List Mem)(oJ:List Sv.aW)(oK:List Gw.bC)(rN:List Wh.bJ)(am aS aG aH:Option Addr)(bm bS bG bH:Nat)(w0 w:World)(h:Wk L w b n)(hL:L<=b)(he:n.e=0)(hY:iq n)(hx:jY w0 ⟨cT,whole,sg,oJ,oK,rN⟩ (J am sg.length bm) (J aS oJ.length bS) (J aG oK.length bG) (J aH rN.length bH))(hB:Below w0.heap.size w0 w)(hBL:w0.heap.size<=L)(hlen:whole=true\/oJ.length+oK.length+rN.length<=4611686018427387904)(hc:w.heap[tb]?=AI (By #[Y cT,Ia whole,J am sg.length bm,J aS oJ.length bS,J aG oK.length bG,J aH rN.length bH] 53 (0,0))) :
 aF 38 #[If (AI ⟨b,0,be⟩),If (AI ⟨tb,0,be⟩)] w λe w'=>e=AT (U O (pJ n ⟨cT,whole,sg,oJ,oK,rN⟩))/\Sh (λk=>L<=k) w w'/\Hid (pJ n ⟨cT,whole,sg,oJ,oK,rN⟩=0->Wk L w' b (rJ n ⟨cT,whole,sg,oJ,oK,rN⟩)):=by
 have hp:=Nd.parts (Nd.bc he).1;have HC:Hid (aF 39 #[If (AI ⟨b,0,be⟩),Ik #[Y cT,Ia whole,J am sg.length bm,J aS oJ.length bS,J aG oK.length bG,J aH rN.length bH]] w λe w'=>e=AT (U O (pJ n ⟨cT,whole,sg,oJ,oK,rN⟩))/\Sh (λk=>L<=k) w w'/\Hid (pJ n ⟨cT,whole,sg,oJ,oK,rN⟩=0->Wk L w' b (rJ n ⟨cT,whole,sg,oJ,oK,rN⟩))):=
  Ej L b n ⟨cT,whole,sg,oJ,oK,rN⟩ _ _ _ _ w0 w h hL (Nd.sp he) hp.sv hp.gw (Wh.tG hp.wh hY.wh) hx hB hBL hlen
 obtain⟨y0,y1,y2,y3,y4,y5⟩:=fo hc;clear h hp hc hx;generalize pJ n ⟨cT,whole,sg,oJ,oK,rN⟩=we at *;generalize rJ n ⟨cT,whole,sg,oJ,oK,rN⟩=nn at *;generalize sg.length=k1 at *;generalize oJ.length=k2 at *;generalize oK.length=k3 at *;generalize rN.length=k4 at *;go_enter Tryz.func38,Tryz.ntmps38;go_wp2_with fail;refine HC.out.mono ?_;rintro e w1 ⟨rfl,hs,hk⟩;have HS:Hid _:=hs;clear hs;go_wp2_with fail;go_ret;exact⟨rfl,HS.out,hk⟩
theorem tH(n:Nd)(p:Pk)(zm zs zg zw:Value)(vm vr vs vg vw:Value)(w:World)(h:eT w n vm vr vs vg vw)(hx:jY w p zm zs zg zw)(hlen:p.whole=true\/p.sv.length+p.gw.length+p.wh.length<=4611686018427387904) :
 aF 24 #[Ik (dw n vm vr vs vg vw),Ik #[Y p.cT,Ia p.whole,zm,zs,zg,zw]] w λe w'=>dx n.e (pJ n p) (rJ n p) w e w':=by
 have l9:Hid _:=h;have HX:Hid _:=hx;obtain⟨cT,whole,sg,oJ,oK,rN⟩:=p;obtain⟨⟨am,bm,rfl,_,_⟩,⟨aS,bS,rfl,_,_⟩,⟨aG,bG,rfl,_,_⟩,⟨aH,bH,rfl,_,_⟩,_,_⟩:=hx;simp only at hlen HX ⊢;obtain⟨W0,bA⟩:∃W0,W0=w.heap.size:=⟨_,rfl⟩;clear bA W0;have lC:Hid (∀W0,Below w.heap.size w W0->W0.heap.size=w.heap.size+3->W0.heap[w.heap.size+1]?=AI (By #[Y cT,Ia whole,J am sg.length bm,J aS oJ.length bS,J aG oK.length bG,J aH rN.length bH] 53 (0,0))->aF 29 #[Ik (dw n vm vr vs vg vw),IP (.func 38) #[] #[If (AI ⟨w.heap.size+1,0,be⟩)]] W0 λe w'=>fu n.e (pJ n ⟨cT,whole,sg,oJ,oK,rN⟩) (rJ n ⟨cT,whole,sg,oJ,oK,rN⟩) (λ_=>False) (λ_=>True) W0 e w'):=λW0 hb hs hc1=>
  iR 38 #[If (AI ⟨w.heap.size+1,0,be⟩)] (enters_of Tryz.func38 (by kernel_rfl) rfl) n vm vr vs vg vw W0 (h.below hb) (λ_=>False) (pJ n ⟨cT,whole,sg,oJ,oK,rN⟩) (rJ n ⟨cT,whole,sg,oJ,oK,rN⟩) (λ_=>True)
   (λhe W b hW aI hk=>by
    refine(EB (W0.heap.size+2) b (w.heap.size+1) n cT whole sg oJ oK rN am aS aG aH bm bS bG bH W0 W hk (by omega) he h.ok (HX.out.below hb) hW (by omega) hlen ((hW.block _ (by omega)).trans hc1)).mono ?_;rintro e w' ⟨rfl,hs,hh⟩;exact⟨rfl,hs.mono (λk hk=>.inl hk),λh=>⟨hh.out h,trivial⟩⟩
   ) (λ_ _ _ _=>trivial) (λ_ hk=>hk.elim)
 obtain⟨nm,ct,ms,rs,sv,gw,⟨px,py,pz,ph,pq⟩,wh⟩:=n;obtain⟨⟨em,cm,rfl,_,_⟩,⟨qG,cr,rfl,_,_⟩,⟨es,qH,rfl,_,_⟩,⟨qI,cg,rfl,_,_⟩,⟨eh,ch,rfl,_,_⟩,_,_⟩:=h;simp only[dw] at lC ⊢;generalize ms.length=km at *;generalize rs.length=kr at *;generalize sv.length=ks at *;generalize gw.length=kg at *;generalize wh.length=kh at *;generalize sg.length=k1 at *;generalize oJ.length=k2 at *;generalize oK.length=k3 at *;generalize rN.length=k4 at *;generalize Nd.e ⟨nm,ct,ms,rs,sv,gw,⟨px,py,pz,ph,pq⟩,wh⟩=ne at *;generalize pJ ⟨nm,ct,ms,rs,sv,gw,⟨px,py,pz,ph,pq⟩,wh⟩ ⟨cT,whole,sg,oJ,oK,rN⟩=er at *;generalize rJ ⟨nm,ct,ms,rs,sv,gw,⟨px,py,pz,ph,pq⟩,wh⟩ ⟨cT,whole,sg,oJ,oK,rN⟩=n' at *;obtain⟨W0,bA,bM,eE,vu,hc1,dd⟩:=n9 w #[Y nm,Y ct,J em km cm,J qG kr cr,J es ks qH,J qI kg cg,U O px,U O py,U O pz,U O ph,U O pq,J eh kh ch] #[Y cT,Ia whole,J am k1 bm,J aS k2 bS,J aG k3 bG,J aH k4 bH] #[Y ⟨#[]⟩,Y ⟨#[]⟩,J be 0 0,J be 0 0,J be 0 0,J be 0 0,U O 0,U O 0,U O 0,U O 0,U O 0,J be 0 0] 42 53 42;have rh:=lC.out W0 bM eE hc1;have cY:Hid _:=bM;have nE:Hid _:=dd;clear bM eE vu hc1 dd lC;go_enter Tryz.func24,Tryz.ntmps24;go_wp2_with fail;rw[<- bA];refine rh.mono ?_;intro e w1 h;obtain⟨cX,u0,u1,b2,m2,e2,b3,m3,e3,b4,m4,e4,b5,m5,e5,u6,u7,u8,u9,u10,b11,m11,e11,r1,rfl,HR⟩:=h.wrap cY.out nE.out (by omega);obtain⟨q0,q1,q2,q3,q4,q5,q6,q7,q8,q9,q10,q11⟩:=bu cX;obtain⟨vI,vJ,xa,xb,xc,xd,CV,CW,CX,CY,pA,pB⟩:=jS cX;clear h cX rh bA cY nE;simp only[aD,ID,Jg] at HR;go_wp2_with fail;exact IL (v:=Im #[Ik #[Y u0,Y u1,J b2 m2 e2,J b3 m3 e3,J b4 m4 e4,J b5 m5 e5,U O u6,U O u7,U O u8,U O u9,U O u10,J b11 m11 e11],U O r1]) (by simp[results,Tryz.results24,go_sem,q0,q1,q2,q3,q4,q5,q6,q7,q8,q9,q10,q11]) rfl HR.out
def M5(nm ct:ByteArray)(ad:Int):Int:=if(ba nm&&ba ct)=true then(if within ad 0 4294967295=true then 0 else 3) else 1
def Gu(nm ct:ByteArray)(ad:Int)(sv:Bool):Nd:=⟨nm,ct,[⟨nm,1,1,ad,sv⟩],[],[],[],⟨0,0,0,0,1000⟩,[]⟩
theorem si(nm ct:ByteArray)(ad:Int)(sv:Bool)(w:World)(hn:nm.size<=Io)(hc:ct.size<=Io) :
 aF 21 #[Y nm,Y ct,U O ad,Ia sv] w λe w'=>dx (M5 nm ct ad) 0 (Gu nm ct ad sv) w e w':=by
 have HE:Hid (M5 nm ct ad=if(ba nm&&ba ct)=true then(if within ad 0 4294967295=true then 0 else 3) else 1):=rfl;obtain⟨W1,cQ⟩:∃W1,W1=(w.alloc (By #[Y ⟨#[]⟩,Y ⟨#[]⟩,J be 0 0,J be 0 0,J be 0 0,J be 0 0,U O 0,U O 0,U O 0,U O 0,U O 0,J be 0 0] 42)).alloc (By #[Y nm,Y ct] 9):=⟨_,rfl⟩;have cI:W1.heap[w.heap.size+1]?=AI (By #[Y nm,Y ct] 9 (0,0)):=by
  have h:=Ii (w.alloc (By #[Y ⟨#[]⟩,Y ⟨#[]⟩,J be 0 0,J be 0 0,J be 0 0,J be 0 0,U O 0,U O 0,U O 0,U O 0,U O 0,J be 0 0] 42)) (By #[Y nm,Y ct] 9);rw[cQ];simpa using h
 have cX:W1.heap[w.heap.size]?=AI (By #[Y ⟨#[]⟩,Y ⟨#[]⟩,J be 0 0,J be 0 0,J be 0 0,J be 0 0,U O 0,U O 0,U O 0,U O 0,U O 0,J be 0 0] 42 (0,0)):=by
  rw[cQ,IE _ _ _ (by simp)];exact Ii w _
 have fh:W1.heap.size=w.heap.size+2:=by rw[cQ];simp
 have aY:Hid (Below w.heap.size w W1):=by rw[cQ];exact((Ib _ _).alloc (Ic _) _).alloc (by simp) _
 have HL:Hid (aF _ _ _ _):=yW nm ct hn hc _ 2 W1 (ae cI 0) (ae cI 1);obtain⟨q0,q1,q2,q3,q4,q5,q6,q7,q8,q9,q10,q11⟩:=bu cX;obtain⟨vI,vJ,xa,xb,xc,xd,CV,CW,CX,CY,pA,pB⟩:=jS cX;have Gs:Hid _:=cX;have tr:Hid _:=fh;have BK:w.heap.size<W1.heap.size:=by omega
 clear cI cX fh;generalize M5 nm ct ad=ne at *;generalize(ba nm&&ba ct)=lb at *;go_enter Tryz.func21,Tryz.ntmps21;go_wp2_with fail;rw[<- cQ];refine HL.out.mono ?_;rintro e w1 ⟨rfl,PF⟩;have Gt:=PF.symm;subst Gt;clear cQ HL PF;cases lb
 .have HR:Hid (ne=1):=HE.out.trans (by simp)
  go_wp2_with fail;refine IL (v:=Im #[Ik #[Y ⟨#[]⟩,Y ⟨#[]⟩,J be 0 0,J be 0 0,J be 0 0,J be 0 0,U O 0,U O 0,U O 0,U O 0,U O 0,J be 0 0],U O 1]) ?_ rfl ?_
  .simp[results,Tryz.results21,go_sem,q0,q1,q2,q3,q4,q5,q6,q7,q8,q9,q10,q11]
  .unfold dx
   exact⟨((((((((((((aY.out).setCell (p:=⟨w.heap.size,0,be⟩) (by simp) _).setCell (p:=⟨w.heap.size,1,be⟩) (by simp) _).setCell (p:=⟨w.heap.size,2,be⟩) (by simp) _).setCell (p:=⟨w.heap.size,3,be⟩) (by simp) _).setCell (p:=⟨w.heap.size,4,be⟩) (by simp) _).setCell (p:=⟨w.heap.size,5,be⟩) (by simp) _).setCell (p:=⟨w.heap.size,6,be⟩) (by simp) _).setCell (p:=⟨w.heap.size,7,be⟩) (by simp) _).setCell (p:=⟨w.heap.size,8,be⟩) (by simp) _).setCell (p:=⟨w.heap.size,9,be⟩) (by simp) _).setCell (p:=⟨w.heap.size,10,be⟩) (by simp) _).setCell (p:=⟨w.heap.size,11,be⟩) (by simp) _,.inl ⟨by rw[HR.out];simp,by rw[HR.out]⟩⟩
 rcases ha:within ad 0 4294967295 with _|_
 .have HR:Hid (ne=3):=HE.out.trans (by simp[ha])
  go_wp2_with (go_at_call 35;refine(eF _ _).mono ?_;rintro e w' ⟨rfl,hx⟩;have hy:=hx.symm;subst hy;rw[ha]);refine IL (v:=Im #[Ik #[Y ⟨#[]⟩,Y ⟨#[]⟩,J be 0 0,J be 0 0,J be 0 0,J be 0 0,U O 0,U O 0,U O 0,U O 0,U O 0,J be 0 0],U O 3]) ?_ rfl ?_
  .simp[results,Tryz.results21,go_sem,q0,q1,q2,q3,q4,q5,q6,q7,q8,q9,q10,q11]
  .unfold dx
   exact⟨((((((((((((aY.out).setCell (p:=⟨w.heap.size,0,be⟩) (by simp) _).setCell (p:=⟨w.heap.size,1,be⟩) (by simp) _).setCell (p:=⟨w.heap.size,2,be⟩) (by simp) _).setCell (p:=⟨w.heap.size,3,be⟩) (by simp) _).setCell (p:=⟨w.heap.size,4,be⟩) (by simp) _).setCell (p:=⟨w.heap.size,5,be⟩) (by simp) _).setCell (p:=⟨w.heap.size,6,be⟩) (by simp) _).setCell (p:=⟨w.heap.size,7,be⟩) (by simp) _).setCell (p:=⟨w.heap.size,8,be⟩) (by simp) _).setCell (p:=⟨w.heap.size,9,be⟩) (by simp) _).setCell (p:=⟨w.heap.size,10,be⟩) (by simp) _).setCell (p:=⟨w.heap.size,11,be⟩) (by simp) _,.inl ⟨by rw[HR.out];simp,by rw[HR.out]⟩⟩
 have HR:Hid (ne=0):=HE.out.trans (by simp[ha]);have Wo:Hid (∀V:World,V.heap.size=W1.heap.size->((V.alloc (By #[Y nm,U O 1,U O 1,U O ad,Ia sv] 50)).alloc (By #[Y nm,U O 1,U O 1,U O ad,Ia sv] 50)).heap[W1.heap.size+1]?=AI (By #[Y nm,U O 1,U O 1,U O ad,Ia sv] 50 (0,0))):=λV hV=>by
  have h:=Ii (V.alloc (By #[Y nm,U O 1,U O 1,U O ad,Ia sv] 50)) (By #[Y nm,U O 1,U O 1,U O ad,Ia sv] 50);rw[show(V.alloc (By #[Y nm,U O 1,U O 1,U O ad,Ia sv] 50)).heap.size=W1.heap.size+1 by simp[hV]] at h;exact h
 go_wp2_with (go_at_call 35;refine(eF _ _).mono ?_;rintro e w' ⟨rfl,hx⟩;have hy:=hx.symm;subst hy;rw[ha]);refine IL (v:=Im #[Ik #[Y nm,Y ct,J (AI ⟨W1.heap.size+1,0,be⟩) 1 1,J be 0 0,J be 0 0,J be 0 0,U O 0,U O 0,U O 0,U O 0,U O 1000,J be 0 0],U O 0]) ?_ rfl ?_
 .simp[results,Tryz.results21,go_sem,BK,q0,q1,q2,q3,q4,q5,q6,q7,q8,q9,q10,q11]
 .unfold dx
  refine⟨((((((((((((((aY.out).setCell (p:=⟨w.heap.size,0,be⟩) (by simp) _).setCell (p:=⟨w.heap.size,1,be⟩) (by simp) _).setCell (p:=⟨w.heap.size,2,be⟩) (by simp) _).setCell (p:=⟨w.heap.size,3,be⟩) (by simp) _).setCell (p:=⟨w.heap.size,4,be⟩) (by simp) _).setCell (p:=⟨w.heap.size,5,be⟩) (by simp) _).setCell (p:=⟨w.heap.size,6,be⟩) (by simp) _).setCell (p:=⟨w.heap.size,7,be⟩) (by simp) _).setCell (p:=⟨w.heap.size,8,be⟩) (by simp) _).setCell (p:=⟨w.heap.size,9,be⟩) (by simp) _).setCell (p:=⟨w.heap.size,10,be⟩) (by simp) _).setCell (p:=⟨w.heap.size,11,be⟩) (by simp) _).alloc (by simp[QZ];omega) _).alloc (by simp[QZ];omega) _,.inr (.inr ⟨HR.out,rfl,_,_,_,_,_,rfl,⟨?_,zu _ _,Sv.bX _ _,Gw.bX _ _,Wh.bX _ _⟩,?_⟩)⟩
  .exact ic (ms:=[⟨nm,1,1,ad,sv⟩]) (G:=1) (cur:=#[Y nm,U O 1,U O 1,U O ad,Ia sv]) (by omega) (Wo.out _ (by simp[QZ])) rfl (by simp) (by unfold Io;omega) rfl
  .exact⟨λm hm=>by simp[Gu] at hm;subst hm;exact hn,λr hr=>by simp[Gu] at hr,λr hr=>by simp[Gu] at hr,λr hr=>by simp[Gu] at hr,λr hr=>by simp[Gu] at hr,hn,hc⟩
def jD(n:Nd)(ne:Int)(w:World)(e:OR)(w':World):Prop:=Below w.heap.size w w' /\
 ((ne≠0/\e=AT (Im #[Ik #[Y ⟨#[]⟩,Ia false,J be 0 0,J be 0 0,J be 0 0,J be 0 0],U O ne])) \/
 (ne=0/\∃um us ug uw,e=AT (Im #[Ik #[Y n.name,Ia true,um,us,ug,uw],U O 0])/\Own w.heap.size w' um n.ms/\Sv.Own w.heap.size w' us n.sv/\Gw.Own w.heap.size w' ug n.gw/\Wh.Own w.heap.size w' uw n.wh))
theorem vT(n:Nd)(vm vr vs vg vw:Value)(w:World)(h:eT w n vm vr vs vg vw) :
 aF 23 #[Ik (dw n vm vr vs vg vw)] w λe w'=>jD n n.e w e w':=by
 have mr:Hid (∀W,Below w.heap.size w W->aF _ _ _ _):=λW hW=>oo n vm vr vs vg vw W (h.below hW);have Kz:Hid (n.e=0->∀W,Below w.heap.size w W->aF 37 #[Ik (dw n vm vr vs vg vw)] W λe w'=>∃um ur us ug uw,e=AT (Ik (dw n um ur us ug uw))/\cJ W.heap.size w' n um ur us ug uw/\Below W.heap.size W w'):=λhe W hW=>by
  have hp:=Nd.parts (Nd.bc he).1;have l1:=(af hp.ms).1;have l2:=(ki hp.rs).1;have l3:=(Sv.af hp.sv).1;have l4:=(Gw.af hp.gw).1;have l5:=(Wh.af hp.wh).1;exact qw n vm vr vs vg vw W (h.below hW) (by omega) (by omega) (by omega) (by omega) (by omega)
 obtain⟨nm,ct,ms,rs,sv,gw,⟨px,py,pz,ph,pq⟩,wh⟩:=n;obtain⟨⟨em,cm,rfl,_,_⟩,⟨qG,cr,rfl,_,_⟩,⟨es,qH,rfl,_,_⟩,⟨qI,cg,rfl,_,_⟩,⟨eh,ch,rfl,_,_⟩,_,_⟩:=h;simp only[dw] at mr Kz ⊢;generalize CZ:ms.length=km at *;have Hkm:Hid _:=CZ;generalize AY:rs.length=kr at *;have Hkr:Hid _:=AY;generalize SK:sv.length=ks at *;have Hks:Hid _:=SK;generalize RV:gw.length=kg at *;have Hkg:Hid _:=RV;generalize Wn:wh.length=kh at *;have Hkh:Hid _:=Wn;clear CZ AY SK RV Wn;generalize Nd.e ⟨nm,ct,ms,rs,sv,gw,⟨px,py,pz,ph,pq⟩,wh⟩=ne at *;obtain⟨W0,bA⟩:∃W0,W0=(w.alloc (By #[Y nm,Y ct,J em km cm,J qG kr cr,J es ks qH,J qI kg cg,U O px,U O py,U O pz,U O ph,U O pq,J eh kh ch] 42)).alloc (By #[Y ⟨#[]⟩,Ia false,J be 0 0,J be 0 0,J be 0 0,J be 0 0] 53):=⟨_,rfl⟩;have bM:Below w.heap.size w W0:=by rw[bA];exact((Ib _ _).alloc (Ic _) _).alloc (by simp) _
 have dF:W0.heap[w.heap.size]?=AI (By #[Y nm,Y ct,J em km cm,J qG kr cr,J es ks qH,J qI kg cg,U O px,U O py,U O pz,U O ph,U O pq,J eh kh ch] 42 (0,0)):=by
  rw[bA,IE _ _ _ (by simp)];exact Ii w _
 have dd:W0.heap[w.heap.size+1]?=AI (By #[Y ⟨#[]⟩,Ia false,J be 0 0,J be 0 0,J be 0 0,J be 0 0] 53 (0,0)):=by
  have h:=Ii (w.alloc (By #[Y nm,Y ct,J em km cm,J qG kr cr,J es ks qH,J qI kg cg,U O px,U O py,U O pz,U O ph,U O pq,J eh kh ch] 42)) (By #[Y ⟨#[]⟩,Ia false,J be 0 0,J be 0 0,J be 0 0,J be 0 0] 53);rw[bA];simpa using h
 have eE:W0.heap.size=w.heap.size+2:=by rw[bA];simp
 have cY:Hid _:=bM;have AM:Hid _:=dF;have nE:Hid _:=dd;clear bM dF dd;go_enter Tryz.func23,Tryz.ntmps23;go_wp2_with fail;rw[<- bA];clear bA;refine(mr.out W0 cY.out).mono ?_;rintro e w1 ⟨rfl,aB⟩;have cI:=(aB.block _ (by omega)).trans AM.out;have cX:=(aB.block _ (by omega)).trans nE.out;have aY:Hid _:=cY.out.trans (aB.mono (by omega));have fh:=(BY.1 cX).1;obtain⟨q0,q1,q2,q3,q4,q5⟩:=fo cX;obtain⟨vI,vJ,xa,xb,xc,xd⟩:=Hz cX;obtain⟨p0,p1,p2,p3,p4,p5,p6,p7,p8,p9,p10,p11⟩:=bu cI;have Gs:Hid _:=cX;have uJ:Hid _:=cI;clear aB cI cX;by_cases aT:ne=0;rotate_left
 .have SO:(ne !=0)=true:=by simpa using aT
  have HNZ:Hid _:=aT;clear aT;go_wp2_with fail;refine IL (v:=Im #[Ik #[Y ⟨#[]⟩,Ia false,J be 0 0,J be 0 0,J be 0 0,J be 0 0],U O ne]) ?_ rfl ?_
  .simp[results,Tryz.results23,go_sem,q0,q1,q2,q3,q4,q5]
  .unfold jD
   exact⟨((((((aY.out).setCell (p:=⟨w.heap.size+1,0,be⟩) (by simp) _).setCell (p:=⟨w.heap.size+1,1,be⟩) (by simp) _).setCell (p:=⟨w.heap.size+1,2,be⟩) (by simp) _).setCell (p:=⟨w.heap.size+1,3,be⟩) (by simp) _).setCell (p:=⟨w.heap.size+1,4,be⟩) (by simp) _).setCell (p:=⟨w.heap.size+1,5,be⟩) (by simp) _,.inl ⟨HNZ.out,rfl⟩⟩
 subst aT;have Eh:=Kz.out rfl w1 aY.out;clear Kz mr;go_wp2_with fail;refine Eh.mono ?_;rintro e w2 ⟨um,ur,us,ug,uw,rfl,fB,aI⟩;obtain⟨im,jm,nF,_⟩:=aA fB.ms;obtain⟨ir,jr,uR,_⟩:=aA fB.rs;obtain⟨is_,js,tF,_⟩:=aA fB.sv;obtain⟨ig,jg,zt,_⟩:=aA fB.gw;obtain⟨ih,jh,EA,_⟩:=aA fB.wh;simp only at nF uR tF zt EA;rw[Hkm.out] at nF;rw[Hkr.out] at uR;rw[Hks.out] at tF;rw[Hkg.out] at zt;rw[Hkh.out] at EA;subst nF uR tF zt EA;have iU:=aI.size;have dS:=(aI.block _ (by omega)).trans uJ.out;have ly:Hid _:=(aI.block _ (by omega)).trans Gs.out;have bp:Hid _:=aY.out.trans (aI.mono (by omega));clear p0 p1 p2 p3 p4 p5 p6 p7 p8 p9 p10 p11 q0 vI q1 vJ q2 xa q3 xb q4 xc q5 xd;obtain⟨p0,p1,p2,p3,p4,p5,p6,p7,p8,p9,p10,p11⟩:=bu dS;obtain⟨pz0,pz1,pz2,pz3,pz4,pz5,pz6,pz7,pz8,pz9,alr,als⟩:=jS dS;have uV:w.heap.size<w2.heap.size:=by omega
 have ny:=ly.out;obtain⟨q0,q1,q2,q3,q4,q5⟩:=fo ny;obtain⟨vI,vJ,xa,xb,xc,xd⟩:=Hz ny;have zv:w.heap.size+1<w2.heap.size:=by omega
 have HOm:Hid (Own (w.heap.size+2) w2 (J im km jm) ms):=fB.ms.mono (by omega);have HOs:Hid (Sv.Own (w.heap.size+2) w2 (J is_ ks js) sv):=fB.sv.mono (by omega);have HOg:Hid (Gw.Own (w.heap.size+2) w2 (J ig kg jg) gw):=fB.gw.mono (by omega);have HOh:Hid (Wh.Own (w.heap.size+2) w2 (J ih kh jh) wh):=fB.wh.mono (by omega);clear fB aI dS ny Eh;go_wp2_with fail;refine IL (v:=Im #[Ik #[Y nm,Ia true,J im km jm,J is_ ks js,J ig kg jg,J ih kh jh],U O 0]) ?_ rfl ?_
 .simp[results,Tryz.results23,go_sem,q0,q1,q2,q3,q4,q5]
 .unfold jD
  refine⟨((((((mM bp.out (by omega) _ _ _ _ _ _ _ _ _ _ _ _).setCell (p:=⟨w.heap.size+1,0,be⟩) (by simp) _).setCell (p:=⟨w.heap.size+1,1,be⟩) (by simp) _).setCell (p:=⟨w.heap.size+1,2,be⟩) (by simp) _).setCell (p:=⟨w.heap.size+1,3,be⟩) (by simp) _).setCell (p:=⟨w.heap.size+1,4,be⟩) (by simp) _).setCell (p:=⟨w.heap.size+1,5,be⟩) (by simp) _,.inr ⟨rfl,_,_,_,_,rfl,?_,?_,?_,?_⟩⟩
  .exact Own.mono (Il (Il (Il (Il (Il (Il (cV (HOm.out) (by omega) _ _ _ _ _ _ _ _ _ _ _ _) (a:=⟨w.heap.size+1,0,be⟩) (by simp only;omega) _) (a:=⟨w.heap.size+1,1,be⟩) (by simp only;omega) _) (a:=⟨w.heap.size+1,2,be⟩) (by simp only;omega) _) (a:=⟨w.heap.size+1,3,be⟩) (by simp only;omega) _) (a:=⟨w.heap.size+1,4,be⟩) (by simp only;omega) _) (a:=⟨w.heap.size+1,5,be⟩) (by simp only;omega) _) (by omega)
  .exact Sv.Own.mono (Il (Il (Il (Il (Il (Il (cV (HOs.out) (by omega) _ _ _ _ _ _ _ _ _ _ _ _) (a:=⟨w.heap.size+1,0,be⟩) (by simp only;omega) _) (a:=⟨w.heap.size+1,1,be⟩) (by simp only;omega) _) (a:=⟨w.heap.size+1,2,be⟩) (by simp only;omega) _) (a:=⟨w.heap.size+1,3,be⟩) (by simp only;omega) _) (a:=⟨w.heap.size+1,4,be⟩) (by simp only;omega) _) (a:=⟨w.heap.size+1,5,be⟩) (by simp only;omega) _) (by omega)
  .exact Gw.Own.mono (Il (Il (Il (Il (Il (Il (cV (HOg.out) (by omega) _ _ _ _ _ _ _ _ _ _ _ _) (a:=⟨w.heap.size+1,0,be⟩) (by simp only;omega) _) (a:=⟨w.heap.size+1,1,be⟩) (by simp only;omega) _) (a:=⟨w.heap.size+1,2,be⟩) (by simp only;omega) _) (a:=⟨w.heap.size+1,3,be⟩) (by simp only;omega) _) (a:=⟨w.heap.size+1,4,be⟩) (by simp only;omega) _) (a:=⟨w.heap.size+1,5,be⟩) (by simp only;omega) _) (by omega)
  .exact Wh.Own.mono (Il (Il (Il (Il (Il (Il (cV (HOh.out) (by omega) _ _ _ _ _ _ _ _ _ _ _ _) (a:=⟨w.heap.size+1,0,be⟩) (by simp only;omega) _) (a:=⟨w.heap.size+1,1,be⟩) (by simp only;omega) _) (a:=⟨w.heap.size+1,2,be⟩) (by simp only;omega) _) (a:=⟨w.heap.size+1,3,be⟩) (by simp only;omega) _) (a:=⟨w.heap.size+1,4,be⟩) (by simp only;omega) _) (a:=⟨w.heap.size+1,5,be⟩) (by simp only;omega) _) (by omega)
end Go.Proofs.YtfidhgjmifendaaGreatDoor
namespace Go.Proofs
open Go.Shelf
def Tryz.EC:Go.Shelf.Ren:=⟨fun|6=>47|15=>71|14=>76|28=>123|29=>124|20=>132|21=>133|22=>134|23=>135|24=>136|25=>137|26=>138|27=>139|46=>194|47=>195|48=>196|49=>197|50=>198|57=>230|n=>n,fun|22=>34|24=>50|25=>99|3=>3|39=>129|0=>0|53=>165|55=>167|4=>4|46=>174|45=>173|50=>153|5=>5|9=>9|66=>225|70=>229|76=>262|77=>263|n=>n,fun|n=>n⟩
theorem Tryz.Wp:Go.Proofs.SlLaysF0.n6 Tryz.prog Tryz.EC:={
 mixed:=by kernel_rfl
 f6:=⟨Tryz.f47.name,by decide,Tryz.func47.trans (congrArg AI (by kernel_rfl))⟩
 f14:=⟨Tryz.f76.name,by decide,Tryz.func76.trans (congrArg AI (by kernel_rfl))⟩
 f15:=Tryz.func71.trans (congrArg AI (by kernel_rfl))
 f20:=⟨Tryz.f132.name,by decide,Tryz.func132.trans (congrArg AI (by kernel_rfl))⟩
 f21:=⟨Tryz.f133.name,by decide,Tryz.func133.trans (congrArg AI (by kernel_rfl))⟩
 f22:=⟨Tryz.f134.name,by decide,Tryz.func134.trans (congrArg AI (by kernel_rfl))⟩
 f23:=⟨Tryz.f135.name,by decide,Tryz.func135.trans (congrArg AI (by kernel_rfl))⟩
 f24:=⟨Tryz.f136.name,by decide,Tryz.func136.trans (congrArg AI (by kernel_rfl))⟩
 f25:=⟨Tryz.f137.name,by decide,Tryz.func137.trans (congrArg AI (by kernel_rfl))⟩
 f26:=⟨Tryz.f138.name,by decide,Tryz.func138.trans (congrArg AI (by kernel_rfl))⟩
 f27:=⟨Tryz.f139.name,by decide,Tryz.func139.trans (congrArg AI (by kernel_rfl))⟩
 f28:=Tryz.func123.trans (congrArg AI (by kernel_rfl))
 f29:=Tryz.func124.trans (congrArg AI (by kernel_rfl))
 f46:=⟨Tryz.f194.name,by decide,Tryz.func194.trans (congrArg AI (by kernel_rfl))⟩
 f47:=Tryz.func195.trans (congrArg AI (by kernel_rfl))
 f48:=Tryz.func196.trans (congrArg AI (by kernel_rfl))
 f49:=⟨Tryz.f197.name,by decide,Tryz.func197.trans (congrArg AI (by kernel_rfl))⟩
 f50:=⟨Tryz.f198.name,by decide,Tryz.func198.trans (congrArg AI (by kernel_rfl))⟩
 f57:=⟨Tryz.f230.name,by decide,Tryz.func230.trans (congrArg AI (by kernel_rfl))⟩
 t0:=Tryz.underlying0
 a0:=Tryz.isAgg0
 z0:=Tryz.sizeOf0
 v0:=Tryz.zeroValue0
 t3:=Tryz.underlying3
 a3:=Tryz.isAgg3
 z3:=Tryz.sizeOf3
 v3:=Tryz.zeroValue3
 t4:=Tryz.underlying4
 a4:=Tryz.isAgg4
 z4:=Tryz.sizeOf4
 v4:=Tryz.zeroValue4
 t5:=Tryz.underlying5
 a5:=Tryz.isAgg5
 z5:=Tryz.sizeOf5
 v5:=Tryz.zeroValue5
 t9:=Tryz.underlying9
 a9:=Tryz.isAgg9
 z9:=Tryz.sizeOf9
 v9:=Tryz.zeroValue9
 t22:=Tryz.underlying34
 a22:=Tryz.isAgg34
 z22:=Tryz.sizeOf34
 v22:=Tryz.zeroValue34
 t25:=Tryz.underlying99
 a25:=Tryz.isAgg99
 z25:=Tryz.sizeOf99
 v25:=Tryz.zeroValue99
 t39:=Tryz.underlying129
 a39:=Tryz.isAgg129
 z39:=Tryz.sizeOf129
 v39:=Tryz.zeroValue129
 t45:=Tryz.underlying173
 a45:=Tryz.isAgg173
 z45:=Tryz.sizeOf173
 v45:=Tryz.zeroValue173
 t46:=Tryz.underlying174
 a46:=Tryz.isAgg174
 z46:=Tryz.sizeOf174
 v46:=Tryz.zeroValue174
 t50:=Tryz.underlying153
 a50:=Tryz.isAgg153
 z50:=Tryz.sizeOf153
 v50:=Tryz.zeroValue153
 t53:=Tryz.underlying165
 a53:=Tryz.isAgg165
 z53:=Tryz.sizeOf165
 v53:=Tryz.zeroValue165
 t55:=Tryz.underlying167
 a55:=Tryz.isAgg167
 z55:=Tryz.sizeOf167
 v55:=Tryz.zeroValue167
 t66:=Tryz.underlying225
 a66:=Tryz.isAgg225
 z66:=Tryz.sizeOf225
 v66:=Tryz.zeroValue225
 t70:=Tryz.underlying229
 a70:=Tryz.isAgg229
 z70:=Tryz.sizeOf229
 v70:=Tryz.zeroValue229
 t76:=Tryz.underlying262
 a76:=Tryz.isAgg262
 z76:=Tryz.sizeOf262
 v76:=Tryz.zeroValue262
 t77:=Tryz.underlying263
 a77:=Tryz.isAgg263
 z77:=Tryz.sizeOf263
 v77:=Tryz.zeroValue263 }
end Go.Proofs
namespace Go.Proofs.YtfidhgjmifendaaGreatDoor
open Go.RowKit Go.Sort Go.Lib
def SP(a b:Mem):Int:=bO a.name b.name
theorem ED(x y:Mem)(W:World):aF 48 #[Ik #[Y x.name,U O x.state,U O x.aM,U O x.addr,Ia x.server],Ik #[Y y.name,U O y.state,U O y.aM,U O y.addr,Ia y.server]] W λe w'=>e=AT (U O (SP x y))/\∃q os',w'=grow (W.drewN q) os':=by
 unfold SP;go_enter Tryz.func48,Tryz.ntmps48;go_wp2_with (go_at_call 49;refine(gr _ _ _).mono ?_;rintro e w' ⟨rfl,rfl⟩);go_ret;exact⟨rfl,0,_,by rw[alloc_eq_grow,alloc_eq_grow,grow_grow];rfl⟩
theorem KC[Inhabited Mem](blk off size:Nat)(w:World):CmpLays Tryz.prog 48 #[] Mem.cs 5 SP blk off size w:=λ_ _ _ _ x y=>ED x y _
theorem aec:SWO (ltOf SP) where
 irrefl x:=by simp[ltOf,SP,(bR x.name x.name).2 rfl]
 trans x y z:=by
  simp only[ltOf,SP,decide_eq_true_eq,fC];exact λh1 h2=>fY h1 h2
 ntrans x y z:=by
  intro h1 h2;have h1:=of_decide_eq_false h1;have h2:=of_decide_eq_false h2;refine decide_eq_false λh3=>?_;have h3:bO x.name z.name<0:=h3;rcases Int.lt_trichotomy (bO x.name y.name) 0 with h|h|h
  .exact h1 h
  .have e:x.name=y.name:=(bR _ _).1 h
   rw[e] at h3;exact h2 h3
  .have h4:=(mW _ _).1 h
   exact h2 ((fC _ _).2 (fY h4 ((fC _ _).1 h3)))
theorem EE[Inhabited Mem]{base:Nat}{w:World}{g c:Nat}{l:List Mem}(h:Own base w (J (AI ⟨g,0,be⟩) l.length c) l):HoldsK Mem.cs 5 w g 0 l.toArray:=by
 rcases h.2 with⟨h1,_⟩|⟨g',c',cur,h1,ey,hg,fK,dN,bZ,bf⟩
 .cases h1
 .simp only[Value.slice.injEq,Option.some.injEq,Addr.mk.injEq] at h1
  obtain⟨⟨rfl,_,_⟩,_,_⟩:=h1;intro j hj;rw[size_flatK] at hj;have Ef:j<l.length*5:=by simpa using hj
  refine⟨?_,an hg _⟩;rw[ae hg,ID,get_flatK Mem.cs 5 l.toArray j (by simpa using Ef)];have e1:=ec l (j/5) (by omega) (j%5) (by omega);rw[show j/5*5+j%5=j by omega] at e1;have e2:cur[j]?=(fl l)[j]?:=by rw[<- bf,IM (by omega)];simp
  rw[e2,e1];have e3:l.toArray[j/5]! = l.getD (j/5) dm:=by
   have aR:j/5<l.length:=by omega
   simp[Iq,aR]
  rw[e3];have hl:j%5<(l.getD (j/5) dm).cs.length:=by rw[bB];omega
  rw[Ie hl,getElem!_pos (l.getD (j/5) dm).cs (j%5) hl];rfl
theorem zx[Inhabited Mem]{w:World}{g m:Nat}{d:Array Mem}{os:Array Obj}{cur:Array Value}{T:TypeId}{fr:Nat×Nat}(hg:w.heap[g]?=AI (By cur T fr)) : (sortWorldK Mem.cs 5 w g 0 m d os).heap[g]?=AI (By (putCells id 0 (flatK Mem.cs 5 d) cur) T fr):=by
 have aR:=(BY.1 hg).1;have uV:g<(putRowK Mem.cs 5 (Sort.ahead w m) g 0 d).heap.size:=by
  show g<(putRow id (Sort.ahead w m) g 0 _).heap.size;rw[size_putRow];exact aR
 show((putRowK Mem.cs 5 (Sort.ahead w m) g 0 d).heap++os)[g]?=_;rw[Array.getElem?_append_left uV];show(w.heap.modify g (onCells (putCells id 0 (flatK Mem.cs 5 d))))[g]?=_;rw[Array.getElem?_modify,if_pos rfl,hg];rfl
theorem BL[Inhabited Mem]{base:Nat}{w:World}{g c m:Nat}{l:List Mem}{os:Array Obj}(h:Own base w (J (AI ⟨g,0,be⟩) l.length c) l)(d:Array Mem)(hs:d.size=l.length) :
 Own base (sortWorldK Mem.cs 5 w g 0 m d os) (J (AI ⟨g,0,be⟩) l.length c) d.toList:=by
 rcases h.2 with⟨h1,_⟩|⟨g',c',cur,h1,ey,hg,fK,dN,bZ,bf⟩
 .cases h1
 .simp only[Value.slice.injEq,Option.some.injEq,Addr.mk.injEq] at h1
  obtain⟨⟨rfl,_,_⟩,_,rfl⟩:=h1;have hl:d.toList.length=l.length:=by simpa using hs
  have ho:Own base (sortWorldK Mem.cs 5 w g 0 m d os) (J (AI ⟨g,0,be⟩) d.toList.length c) d.toList:=by
   refine ic ey (zx hg) (by simp[putCells,bZ]) (by omega) dN ?_;apply List.ext_getElem?;intro t;by_cases ht:t<d.toList.length*5
   .have htc:t<cur.size:=by rw[bZ];have:l.length*5<=c*5:=Nat.mul_le_mul_right 5 fK;omega
    rw[IM ht];have e1:=ec d.toList (t/5) (by omega) (t%5) (by omega);rw[show t/5*5+t%5=t by omega] at e1;rw[e1];have cC:t<d.size*5:=by simpa using ht
    have e2:(putCells id 0 (flatK Mem.cs 5 d) cur).toList[t]?=AI (flatK Mem.cs 5 d)[t]! := by
     simp only[putCells,Array.getElem?_toList,Array.getElem?_mapIdx,Array.getElem?_eq_getElem htc,Option.map_some];rw[if_pos ⟨Nat.zero_le _,by rw[size_flatK];omega⟩];rfl
    rw[e2,get_flatK Mem.cs 5 d t cC];have e3:d[t/5]! = d.toList.getD (t/5) dm:=by
     have aR:t/5<d.size:=by omega
     simp[Iq,aR]
    rw[e3];have mo:t%5<(d.toList.getD (t/5) dm).cs.length:=by rw[bB];omega
    rw[Ie mo,getElem!_pos (d.toList.getD (t/5) dm).cs (t%5) mo]
   .rw[I0 (by rw[List.length_take];omega),I0 (by rw[cM];omega)]
  rw[<- hl];exact ho
end Go.Proofs.YtfidhgjmifendaaGreatDoor
