import Derived.Test.YtfidjlcdlakceaaGreatDoortf34
set_option maxHeartbeats 25600000
set_option maxRecDepth 100000
open Option renaming none→Y,some→Z
open Go renaming Ending→QI,heap_alloc_new→Ie,bodyPost_ret→Ix,TypeId→Jc
open Go.Ending renaming returned→sh
open Go.Value renaming tuple→Il,agg→Im,string→I,slice→U,int→O,pointer→If,func→IZ,bool→AI
open Go.IntKind renaming i64→J
open Go.Obj renaming cells→AT
open Go.RowKit.Below renaming refl→Ib,heap_alloc→It
open Nat renaming le_refl→By,zero_add→IM,reduceAdd→OV
open Array renaming getElem?_eq_some_iff→Ia
open Go.World renaming frozen?→Ig
namespace Go.Proofs.YtfidjlcdlakceaaGreatDoor
open Go.RowKit
theorem Ra{S:Nat->Prop}{w w':World}(h:Sh (λk=>S k\/w.heap.size<=k) w w'):Sh S w w':=by
 refine⟨h.os,h.tape,h.output,h.size,λk hk hn=>h.block k hk ?_⟩;rintro(e|e)
 .exact hn e
 .omega
theorem Sh.iG{S:Nat->Prop}{L:Nat}{a w:World}(h:Sh (λk=>S k\/L<=k) a w){b i:Nat}(hb:L<=b)(x:Value):Sh (λk=>S k\/L<=k) a (w.setCell ⟨b,i,Y⟩ x):=h.setCell (S:=λk=>S k\/L<=k) (.inr hb) x
theorem Sh.uL{S:Nat->Prop}{L:Nat}{a w:World}(h:Sh (λk=>S k\/L<=k) a w){b:Nat}(hb:L<=b)(x0 x1 x2 x3 x4 x5 x6 x7 x8 x9 x10 x11:Value):Sh (λk=>S k\/L<=k) a ((((((((((((w.setCell ⟨b,0,Y⟩ x0).setCell ⟨b,1,Y⟩ x1).setCell ⟨b,2,Y⟩ x2).setCell ⟨b,3,Y⟩ x3).setCell ⟨b,4,Y⟩ x4).setCell ⟨b,5,Y⟩ x5).setCell ⟨b,6,Y⟩ x6).setCell ⟨b,7,Y⟩ x7).setCell ⟨b,8,Y⟩ x8).setCell ⟨b,9,Y⟩ x9).setCell ⟨b,10,Y⟩ x10).setCell ⟨b,11,Y⟩ x11):=((((((((((((h).iG (i:=0) hb _).iG (i:=1) hb _).iG (i:=2) hb _).iG (i:=3) hb _).iG (i:=4) hb _).iG (i:=5) hb _).iG (i:=6) hb _).iG (i:=7) hb _).iG (i:=8) hb _).iG (i:=9) hb _).iG (i:=10) hb _).iG (i:=11) hb _
def kH(ne er:Int)(S:Nat->Prop)(R:Nd->World->Prop)(w:World)(e:QI)(w':World):Prop:=Sh S w w' /\
 ((ne≠0/\Below w.heap.size w w'/\e=sh (Il #[Im #[I ⟨#[]⟩,I ⟨#[]⟩,U Y 0 0,U Y 0 0,U Y 0 0,U Y 0 0,O J 0,O J 0,O J 0,O J 0,O J 0,U Y 0 0],O J ne]))\/(ne=0/\er≠0/\e=sh (Il #[Im #[I ⟨#[]⟩,I ⟨#[]⟩,U Y 0 0,U Y 0 0,U Y 0 0,U Y 0 0,O J 0,O J 0,O J 0,O J 0,O J 0,U Y 0 0],O J er])) \/
 (ne=0/\er=0/\∃n' um ur us ug uw,e=sh (Il #[Im (fD n' um ur us ug uw),O J 0])/\gK w.heap.size w' n' um ur us ug uw/\oE n'/\R n' w'))
theorem xM(kf:Nat)(cs:Array Value)(eg:∀args w,(callFunc kf args).run Tryz.prog w=.ok (.enter kf args) w)(n:Nd)(vm vr vs vg vw:Value)(w:World)(h:jL w n vm vr vs vg vw)(S:Nat->Prop)(er:Int)(R:Nd->World->Prop)(hF:n.e=0->∀W b,Below w.heap.size w W->w.heap.size+2<=b->Wk (w.heap.size+2) W b n->aP kf (#[If (Z ⟨b,0,Y⟩)]++cs) W λe w'=>e=sh (O J er)/\Sh (λk=>w.heap.size+2<=k\/S k) W w'/\(er=0->∃n',Wk (w.heap.size+2) w' b n'/\R n' w'))(hR:∀n' W j x,R n' W->R n' (W.setCell ⟨w.heap.size+1,j,Y⟩ x))(hS:∀k,S k->k<w.heap.size) :
 aP 45 #[Im (fD n vm vr vs vg vw),IZ (.func kf) #[] cs] w λe w'=>kH n.e er S R w e w':=by
 have ze:Hid _:=h;have CN:Hid _:=h.ok;have rL:Hid (∀W,Below w.heap.size w W->aP _ _ _ _):=λW hW=>oD n vm vr vs vg vw W (h.below hW);have Dg:Hid (n.e=0->∀W,Below w.heap.size w W->aP 48 #[Im (fD n vm vr vs vg vw)] W λe w'=>∃um ur us ug uw,e=sh (Im (fD n um ur us ug uw))/\gK W.heap.size w' n um ur us ug uw/\Below W.heap.size W w'):=λhe W hW=>by
  have hp:=Nd.parts (Nd.gx he).1;have l1:=(aF hp.ms).1;have l2:=(ll hp.rs).1;have l3:=(Sv.aF hp.sv).1;have l4:=(Gw.aF hp.gw).1;have l5:=(Wh.aF hp.wh).1;exact xI n vm vr vs vg vw W (h.below hW) (by omega) (by omega) (by omega) (by omega) (by omega)
 have HF:Hid _:=hF;have HR:Hid _:=hR;have HSL:Hid _:=hS;clear hF hR hS;obtain⟨nm,ct,ms,rs,sv,gw,⟨px,py,pz,ph,pq⟩,wh⟩:=n;obtain⟨⟨em,cm,rfl,_,_⟩,⟨wR,cr,rfl,_,_⟩,⟨es,wS,rfl,_,_⟩,⟨wT,cg,rfl,_,_⟩,⟨eh,ch,rfl,_,_⟩,_,_⟩:=h;simp only[fD] at rL Dg ⊢;generalize vu:ms.length=km at *;have Hkm:Hid _:=vu;generalize Vp:rs.length=kr at *;have Hkr:Hid _:=Vp;generalize hks:sv.length=ks at *;have Hks:Hid _:=hks;generalize hkg:gw.length=kg at *;have Hkg:Hid _:=hkg;generalize hkh:wh.length=kh at *;have Hkh:Hid _:=hkh;clear vu Vp hks hkg hkh;have Mg:Hid (∃ne,ne=Nd.e ⟨nm,ct,ms,rs,sv,gw,⟨px,py,pz,ph,pq⟩,wh⟩):=⟨_,rfl⟩;generalize Nd.e ⟨nm,ct,ms,rs,sv,gw,⟨px,py,pz,ph,pq⟩,wh⟩=ne at *;obtain⟨W0,dK⟩:∃W0,W0=(w.alloc (AT #[I nm,I ct,U em km cm,U wR kr cr,U es ks wS,U wT kg cg,O J px,O J py,O J pz,O J ph,O J pq,U eh kh ch] 30)).alloc (AT #[I ⟨#[]⟩,I ⟨#[]⟩,U Y 0 0,U Y 0 0,U Y 0 0,U Y 0 0,O J 0,O J 0,O J 0,O J 0,O J 0,U Y 0 0] 30):=⟨_,rfl⟩;have df:Below w.heap.size w W0:=by rw[dK];exact((Ib _ _).alloc (By _) _).alloc (by simp) _
 have dt:W0.heap[w.heap.size]?=Z (AT #[I nm,I ct,U em km cm,U wR kr cr,U es ks wS,U wT kg cg,O J px,O J py,O J pz,O J ph,O J pq,U eh kh ch] 30 (0,0)):=by
  rw[dK,It _ _ _ (by simp)];exact Ie w _
 have bW:W0.heap[w.heap.size+1]?=Z (AT #[I ⟨#[]⟩,I ⟨#[]⟩,U Y 0 0,U Y 0 0,U Y 0 0,U Y 0 0,O J 0,O J 0,O J 0,O J 0,O J 0,U Y 0 0] 30 (0,0)):=by
  have h:=Ie (w.alloc (AT #[I nm,I ct,U em km cm,U wR kr cr,U es ks wS,U wT kg cg,O J px,O J py,O J pz,O J ph,O J pq,U eh kh ch] 30)) (AT #[I ⟨#[]⟩,I ⟨#[]⟩,U Y 0 0,U Y 0 0,U Y 0 0,U Y 0 0,O J 0,O J 0,O J 0,O J 0,O J 0,U Y 0 0] 30);rw[dK];simpa using h
 have nP:W0.heap.size=w.heap.size+2:=by rw[dK];simp
 have dy:Hid _:=df;have wB:Hid _:=dt;have xJ:Hid _:=bW;clear df dt bW;go_enter Tryz.func45,Tryz.ntmps45;go_wp2_with fail;rw[<- dK];clear dK;refine(rL.out W0 dy.out).mono ?_;rintro e w1 ⟨rfl,al⟩;have bb:=(al.block _ (by omega)).trans wB.out;have cS:=(al.block _ (by omega)).trans xJ.out;have aR:Hid _:=dy.out.trans (al.mono (by omega));have gI:=(Ia.1 cS).1;have q0:=af cS 0;have FB:w1.frozen? ⟨w.heap.size+1,0,Y⟩=false:=by simp[Ig,cS]
 have q1:=af cS 1;have Eb:w1.frozen? ⟨w.heap.size+1,1,Y⟩=false:=by simp[Ig,cS]
 have q2:=af cS 2;have FC:w1.frozen? ⟨w.heap.size+1,2,Y⟩=false:=by simp[Ig,cS]
 have q3:=af cS 3;have FD:w1.frozen? ⟨w.heap.size+1,3,Y⟩=false:=by simp[Ig,cS]
 have q4:=af cS 4;have FE:w1.frozen? ⟨w.heap.size+1,4,Y⟩=false:=by simp[Ig,cS]
 have q5:=af cS 5;have FF:w1.frozen? ⟨w.heap.size+1,5,Y⟩=false:=by simp[Ig,cS]
 have q6:=af cS 6;have VB:w1.frozen? ⟨w.heap.size+1,6,Y⟩=false:=by simp[Ig,cS]
 have q7:=af cS 7;have VC:w1.frozen? ⟨w.heap.size+1,7,Y⟩=false:=by simp[Ig,cS]
 have q8:=af cS 8;have VD:w1.frozen? ⟨w.heap.size+1,8,Y⟩=false:=by simp[Ig,cS]
 have q9:=af cS 9;have VE:w1.frozen? ⟨w.heap.size+1,9,Y⟩=false:=by simp[Ig,cS]
 have q10:=af cS 10;have zt:w1.frozen? ⟨w.heap.size+1,10,Y⟩=false:=by simp[Ig,cS]
 have q11:=af cS 11;have zu:w1.frozen? ⟨w.heap.size+1,11,Y⟩=false:=by simp[Ig,cS]
 obtain⟨p0,p1,p2,p3,p4,p5,p6,p7,p8,p9,p10,p11⟩:=bM bb;have Mi:Hid _:=cS;clear al bb cS;by_cases bu:ne=0;rotate_left
 .have abo:(ne !=0)=true:=by simpa using bu
  have HNZ:Hid _:=bu;have zk:Hid (Sh (λk=>S k\/w.heap.size<=k) w w1):=.of aR.out;clear bu;go_wp2_with fail;refine Ix (v:=Il #[Im #[I ⟨#[]⟩,I ⟨#[]⟩,U Y 0 0,U Y 0 0,U Y 0 0,U Y 0 0,O J 0,O J 0,O J 0,O J 0,O J 0,U Y 0 0],O J ne]) ?_ rfl ?_
  .simp[results,Tryz.results45,go_sem,q0,q1,q2,q3,q4,q5,q6,q7,q8,q9,q10,q11]
  .unfold kH
   refine⟨?_,.inl ⟨HNZ.out,?_,rfl⟩⟩
   .exact Ra (zk.out.uL (Nat.le_succ _) _ _ _ _ _ _ _ _ _ _ _ _)
   .exact gj aR.out (by simp) _ _ _ _ _ _ _ _ _ _ _ _
 subst bu;have Kv:=Dg.out rfl w1 aR.out;have wJ:Hid (∀W b,Below w.heap.size w W->w.heap.size+2<=b->Wk (w.heap.size+2) W b ⟨nm,ct,ms,rs,sv,gw,⟨px,py,pz,ph,pq⟩,wh⟩->aP _ _ _ _):=HF.out rfl;clear HF Dg;go_wp2_with fail;refine Kv.mono ?_;rintro e w2 ⟨um,ur,us,ug,uw,rfl,ly,aC⟩;obtain⟨im,jm,sG,_⟩:=az ly.ms;obtain⟨ir,jr,zh,_⟩:=az ly.rs;obtain⟨is_,js,BE,_⟩:=az ly.sv;obtain⟨ig,jg,Ec,_⟩:=az ly.gw;obtain⟨ih,jh,Ed,_⟩:=az ly.wh;simp only at sG zh BE Ec Ed;rw[Hkm.out] at sG;rw[Hkr.out] at zh;rw[Hks.out] at BE;rw[Hkg.out] at Ec;rw[Hkh.out] at Ed;subst sG zh BE Ec Ed;obtain⟨W3,kL⟩:∃W3,W3=w2.alloc (AT #[I nm,I ct,U im km jm,U ir kr jr,U is_ ks js,U ig kg jg,O J px,O J py,O J pz,O J ph,O J pq,U ih kh jh] 81):=⟨_,rfl⟩;have bw:Hid _:=aR.out.trans (aC.mono (by omega));have da:Hid (Below w.heap.size w W3):=by rw[kL];exact bw.out.alloc bw.out.size _
 have iZ:=aC.size;have Np:W3.heap.size=w2.heap.size+1:=by rw[kL];simp
 have Ee:Below w2.heap.size w2 W3:=by rw[kL];exact(Ib _ _).alloc (By _) _
 have mr:Hid _:=(Ee.block _ (by omega)).trans ((aC.block _ (by omega)).trans Mi.out);have aL:∀{v:Value} {k:Nat},v.ownBlock=Z k->k<w2.heap.size->v.ownBlock≠Z w2.heap.size:=λh hk e=>by rw[h] at e;cases e;omega
 have sA:Hid (Wk (w.heap.size+2) W3 w2.heap.size ⟨nm,ct,ms,rs,sv,gw,⟨px,py,pz,ph,pq⟩,wh⟩):=by
  refine⟨_,_,_,_,_,?_,⟨(ly.ms.below Ee).mono (by omega),(ly.rs.below Ee).base (by omega),(ly.sv.below Ee).mono (by omega),(ly.gw.below Ee).mono (by omega),(ly.wh.below Ee).mono (by omega)⟩,⟨λe=>?_,λe=>?_,λe=>?_,λe=>?_,λe=>?_⟩,CN.out⟩
  .rw[kL];exact Ie w2 _
  .have:=(ly.ms.lt _ e).2;omega
  .have:=(ly.rs.lt _ e).2;omega
  .have:=(ly.sv.lt _ e).2;omega
  .have:=(ly.gw.lt _ e).2;omega
  .have:=(ly.wh.lt _ e).2;omega
 have SJ:=wJ.out W3 w2.heap.size da.out (by omega) sA.out;clear ly aC Ee aL q0 FB q1 Eb q2 FC q3 FD q4 FE q5 FF q6 VB q7 VC q8 VD q9 VE q10 zt q11 zu p0 p1 p2 p3 p4 p5 p6 p7 p8 p9 p10 p11;go_wp2_with fail;rw[<- kL];refine SJ.mono ?_;rintro e w4 ⟨rfl,tm,lF⟩;have zk:Hid (Sh (λk=>S k\/w.heap.size<=k) w w4):=(Sh.of da.out).trans (tm.mono (λk hk=>hk.elim (λh=>.inr (by omega)) (λh=>.inl h)));have iQ:=(tm.block _ (by omega) (λhk=>hk.elim (λh=>by omega) (λh=>by have:=HSL.out _ h;omega))).trans mr.out;have TR:Hid _:=lF;have Db:=(Ia.1 iQ).1;have q0:=af iQ 0;have FB:w4.frozen? ⟨w.heap.size+1,0,Y⟩=false:=by simp[Ig,iQ]
 have q1:=af iQ 1;have Eb:w4.frozen? ⟨w.heap.size+1,1,Y⟩=false:=by simp[Ig,iQ]
 have q2:=af iQ 2;have FC:w4.frozen? ⟨w.heap.size+1,2,Y⟩=false:=by simp[Ig,iQ]
 have q3:=af iQ 3;have FD:w4.frozen? ⟨w.heap.size+1,3,Y⟩=false:=by simp[Ig,iQ]
 have q4:=af iQ 4;have FE:w4.frozen? ⟨w.heap.size+1,4,Y⟩=false:=by simp[Ig,iQ]
 have q5:=af iQ 5;have FF:w4.frozen? ⟨w.heap.size+1,5,Y⟩=false:=by simp[Ig,iQ]
 have q6:=af iQ 6;have VB:w4.frozen? ⟨w.heap.size+1,6,Y⟩=false:=by simp[Ig,iQ]
 have q7:=af iQ 7;have VC:w4.frozen? ⟨w.heap.size+1,7,Y⟩=false:=by simp[Ig,iQ]
 have q8:=af iQ 8;have VD:w4.frozen? ⟨w.heap.size+1,8,Y⟩=false:=by simp[Ig,iQ]
 have q9:=af iQ 9;have VE:w4.frozen? ⟨w.heap.size+1,9,Y⟩=false:=by simp[Ig,iQ]
 have q10:=af iQ 10;have zt:w4.frozen? ⟨w.heap.size+1,10,Y⟩=false:=by simp[Ig,iQ]
 have q11:=af iQ 11;have zu:w4.frozen? ⟨w.heap.size+1,11,Y⟩=false:=by simp[Ig,iQ]
 clear tm iQ lF kL SJ Kv;by_cases BF:er=0;rotate_left
 .have aoc:(er !=0)=true:=by simpa using BF
  have HEZ:Hid _:=BF;clear BF;go_wp2_with fail;refine Ix (v:=Il #[Im #[I ⟨#[]⟩,I ⟨#[]⟩,U Y 0 0,U Y 0 0,U Y 0 0,U Y 0 0,O J 0,O J 0,O J 0,O J 0,O J 0,U Y 0 0],O J er]) ?_ rfl ?_
  .simp[results,Tryz.results45,go_sem,q0,q1,q2,q3,q4,q5,q6,q7,q8,q9,q10,q11]
  .unfold kH
   refine⟨?_,.inr (.inl ⟨rfl,HEZ.out,rfl⟩)⟩;exact Ra (zk.out.uL (Nat.le_succ _) _ _ _ _ _ _ _ _ _ _ _ _)
 obtain⟨n',⟨xm,xr,xs,xg,xw,hgk,hown,aiP,kM⟩,hRR⟩:=TR.out BF;subst BF;have uM:Hid _:=hown;have HRR:Hid (R n' w4):=hRR;have AW:Hid _:=kM;obtain⟨im2,jm2,sG,_⟩:=az hown.ms;obtain⟨ir2,jr2,zh,_⟩:=az hown.rs;obtain⟨is2,js2,BE,_⟩:=az hown.sv;obtain⟨ig2,jg2,Ec,_⟩:=az hown.gw;obtain⟨ih2,jh2,Ed,_⟩:=az hown.wh;subst sG zh BE Ec Ed;obtain⟨p0,p1,p2,p3,p4,p5,p6,p7,p8,p9,p10,p11⟩:=bM hgk;clear hown hRR kM aiP hgk TR;obtain⟨n2,c2,ms2,rs2,WZ,gw2,⟨qx,qy,qz,qh,qq⟩,wh2⟩:=n';simp only at p0 p1 p2 p3 p4 p5 p6 p7 p8 p9 p10 p11;go_wp2_with fail;refine Ix (v:=Il #[Im #[I n2,I c2,U im2 ms2.length jm2,U ir2 rs2.length jr2,U is2 WZ.length js2,U ig2 gw2.length jg2,O J qx,O J qy,O J qz,O J qh,O J qq,U ih2 wh2.length jh2],O J 0]) ?_ rfl ?_
 .simp[results,Tryz.results45,go_sem,q0,q1,q2,q3,q4,q5,q6,q7,q8,q9,q10,q11]
 unfold kH;refine⟨?_,.inr (.inr ⟨rfl,rfl,⟨n2,c2,ms2,rs2,WZ,gw2,⟨qx,qy,qz,qh,qq⟩,wh2⟩,_,_,_,_,_,rfl,⟨?_,?_,?_,?_,?_⟩,AW.out,?_⟩)⟩
 .exact Ra (zk.out.uL (Nat.le_succ _) _ _ _ _ _ _ _ _ _ _ _ _)
 .exact Own.mono (bN (uM.out.ms) (by simp) _ _ _ _ _ _ _ _ _ _ _ _) (by omega)
 .exact cd.base (bN (uM.out.rs) (by simp) _ _ _ _ _ _ _ _ _ _ _ _) (by omega)
 .exact Sv.Own.mono (bN (uM.out.sv) (by simp) _ _ _ _ _ _ _ _ _ _ _ _) (by omega)
 .exact Gw.Own.mono (bN (uM.out.gw) (by simp) _ _ _ _ _ _ _ _ _ _ _ _) (by omega)
 .exact Wh.Own.mono (bN (uM.out.wh) (by simp) _ _ _ _ _ _ _ _ _ _ _ _) (by omega)
 .exact HR.out _ _ 11 _ (HR.out _ _ 10 _ (HR.out _ _ 9 _ (HR.out _ _ 8 _ (HR.out _ _ 7 _ (HR.out _ _ 6 _ (HR.out _ _ 5 _ (HR.out _ _ 4 _ (HR.out _ _ 3 _ (HR.out _ _ 2 _ (HR.out _ _ 1 _ (HR.out _ _ 0 _ (HRR.out))))))))))))
def jD(ne er:Int)(n':Nd)(S:Nat->Prop)(R:World->Prop)(w:World)(e:QI)(w':World):Prop:=Sh S w w' /\
 ((ne≠0/\e=sh (Il #[Im #[I ⟨#[]⟩,I ⟨#[]⟩,U Y 0 0,U Y 0 0,U Y 0 0,U Y 0 0,O J 0,O J 0,O J 0,O J 0,O J 0,U Y 0 0],O J ne]))\/(ne=0/\er≠0/\e=sh (Il #[Im #[I ⟨#[]⟩,I ⟨#[]⟩,U Y 0 0,U Y 0 0,U Y 0 0,U Y 0 0,O J 0,O J 0,O J 0,O J 0,O J 0,U Y 0 0],O J er])) \/
 (ne=0/\er=0/\∃um ur us ug uw,e=sh (Il #[Im (fD n' um ur us ug uw),O J 0])/\gK w.heap.size w' n' um ur us ug uw/\oE n'/\R w'))
theorem pN(kf:Nat)(cs:Array Value)(eg:∀args w,(callFunc kf args).run Tryz.prog w=.ok (.enter kf args) w)(n:Nd)(vm vr vs vg vw:Value)(w:World)(h:jL w n vm vr vs vg vw)(S:Nat->Prop)(er:Int)(n':Nd)(R:World->Prop)(hF:n.e=0->∀W b,Below w.heap.size w W->w.heap.size+2<=b->Wk (w.heap.size+2) W b n->aP kf (#[If (Z ⟨b,0,Y⟩)]++cs) W λe w'=>e=sh (O J er)/\Sh (λk=>w.heap.size+2<=k\/S k) W w'/\(er=0->Wk (w.heap.size+2) w' b n'/\R w'))(hR:∀W j x,R W->R (W.setCell ⟨w.heap.size+1,j,Y⟩ x))(hS:∀k,S k->k<w.heap.size) :
 aP 45 #[Im (fD n vm vr vs vg vw),IZ (.func kf) #[] cs] w λe w'=>jD n.e er n' S R w e w':=by
 refine(xM kf cs eg n vm vr vs vg vw w h S er (λk W=>k=n'/\R W) (λhe W b h1 h2 h3=>(hF he W b h1 h2 h3).mono ?_) (λk W j x h=>⟨h.1,hR W j x h.2⟩) hS).mono ?_
 .rintro e w' ⟨h4,h5,h6⟩
  exact⟨h4,h5,λh=>⟨n',(h6 h).1,rfl,(h6 h).2⟩⟩
 .rintro e w' ⟨tm,zL⟩
  refine⟨tm,?_⟩;rcases zL with⟨h1,_,h2⟩|h1|⟨h1,h2,k,um,ur,us,ug,uw,h3,h4,h5,rfl,h6⟩
  .exact .inl ⟨h1,h2⟩
  .exact .inr (.inl h1)
  .exact .inr (.inr ⟨h1,h2,um,ur,us,ug,uw,h3,h4,h5,h6⟩)
def bU(b:Nat):List Value->Nat->World->World
 |[],_,w=>w
 |x::r,j,w=>bU b r (j+1) (w.setCell ⟨b,j,Y⟩ x)
theorem cz{B b:Nat}(hb:B<=b):∀(L:List Value) (j:Nat) {a w:World},Below B a w->Below B a (bU b L j w)
 |[],_,_,_,h=>h
 |_::r,j,_,_,h=>cz hb r (j+1) (h.setCell (p:=⟨b,j,Y⟩) hb _)
theorem bZ{base b n k:Nat}{T:Jc}{v:Value}{xs:List Value}(hb:b<base):∀(L:List Value) (j:Nat) {w:World},w.ownsRow base T k v n xs->(bU b L j w).ownsRow base T k v n xs
 |[],_,_,h=>h
 |_::r,j,_,h=>bZ hb r (j+1) (ownsRow_setCell_below h hb _)
theorem dA{b c:Nat}(hc:c≠b):∀(L:List Value) (j:Nat) (w:World),(bU b L j w).heap[c]?=w.heap[c]?
 |[],_,_=>rfl
 |_::r,j,_=>(dA hc r (j+1) _).trans (Below.heap_setCell _ _ _ _ hc)
theorem mL(b:Nat):∀(L:List Value) (j:Nat) (w:World),(bU b L j w).heap.size=w.heap.size
 |[],_,_=>rfl
 |_::r,j,_=>(mL b r (j+1) _).trans (by simp[World.setCell])
theorem uN{base n k:Nat}{T:Jc}{w w':World}{v:Value}{xs:List Value}(h:w.ownsRow base T k v n xs)(hb:Below w.heap.size w w'):w'.ownsRow base T k v n xs:=by
 rcases h.2 with⟨rfl,h0⟩|⟨g,c,cur,rfl,dQ,hg,eC,dj,cM,aO⟩
 .exact⟨h.1,.inl ⟨rfl,h0⟩⟩
 .have aL:=(Ia.1 hg).1
  exact⟨h.1,.inr ⟨g,c,cur,rfl,dQ,(hb.block g aL).trans hg,eC,dj,cM,aO⟩⟩
theorem nF(w:World):w.drew.heap=w.heap:=rfl
theorem xN{base n k:Nat}{T:Jc}{w:World}{v:Value}{xs:List Value}(h:w.ownsRow base T k v n xs):w.drew.ownsRow base T k v n xs:=h
theorem uO{B:Nat}{a w:World}(h:Below B a w):Below B a w.drew:=⟨h.os,h.tape,h.output,h.size,h.block⟩
theorem lx{b:Nat}{T:Jc}{f:Nat×Nat}:∀(L pre suf:List Value) {w:World},w.heap[b]?=Z (AT (pre++suf).toArray T f)->suf.length=L.length->(bU b L pre.length w).heap[b]?=Z (AT (pre++L).toArray T f)
 |[],pre,suf,w,h,hl=>by
  have:suf=[]:=List.eq_nil_of_length_eq_zero (by simpa using hl)
  subst this;exact h
 |x::r,pre,[],w,h,hl=>absurd hl (by simp)
 |x::r,pre,y::s,w,h,hl=>by
  have h1:=Joins.block_setCell (i:=pre.length) h x;rw[List.setIfInBounds_toArray,show(pre++y::s).set pre.length x=(pre++[x])++s by simp] at h1;have h2:=lx r (pre++[x]) s h1 (by simpa using hl);rw[show(pre++[x]).length=pre.length+1 by simp,show(pre++[x])++r=pre++x::r by simp] at h2;exact h2
theorem kI{b:Nat}{w:World}{T:Jc}{f:Nat×Nat}{c0 c1 c2 c3 c4 c5 c6 c7 c8 c9 c10 c11:Value}(h:w.heap[b]?=Z (AT #[c0,c1,c2,c3,c4,c5,c6,c7,c8,c9,c10,c11] T f))(x0 x1 x2 x3 x4 x5 x6 x7 x8 x9 x10 x11:Value):(bU b [x0,x1,x2,x3,x4,x5,x6,x7,x8,x9,x10,x11] 0 w).heap[b]?=Z (AT #[x0,x1,x2,x3,x4,x5,x6,x7,x8,x9,x10,x11] T f):=lx [x0,x1,x2,x3,x4,x5,x6,x7,x8,x9,x10,x11] [] [c0,c1,c2,c3,c4,c5,c6,c7,c8,c9,c10,c11] h rfl
theorem FG{b:Nat}{w:World}{T:Jc}{f:Nat×Nat}{c0 c1 c2 c3 c4 c5:Value}(h:w.heap[b]?=Z (AT #[c0,c1,c2,c3,c4,c5] T f))(x0 x1 x2 x3 x4 x5:Value):(bU b [x0,x1,x2,x3,x4,x5] 0 w).heap[b]?=Z (AT #[x0,x1,x2,x3,x4,x5] T f):=lx [x0,x1,x2,x3,x4,x5] [] [c0,c1,c2,c3,c4,c5] h rfl
theorem Ef(w:World)(A B C:Array Value)(S0 S1 S2:Jc):∃W,W=((w.alloc (AT A S0)).alloc (AT B S1)).alloc (AT C S2)/\Below w.heap.size w W/\W.heap.size=w.heap.size+3/\W.heap[w.heap.size]?=Z (AT A S0 (0,0))/\W.heap[w.heap.size+1]?=Z (AT B S1 (0,0))/\W.heap[w.heap.size+2]?=Z (AT C S2 (0,0)):=by
 obtain⟨W,e⟩:∃W,W=((w.alloc (AT A S0)).alloc (AT B S1)).alloc (AT C S2):=⟨_,rfl⟩;exact⟨W,e,(by rw[e];exact(((Ib _ _).alloc (by simp<;>omega) _).alloc (by simp<;>omega) _).alloc (by simp<;>omega) _),(by rw[e];simp),(by
  have h:=Ie w (AT A S0);rw[e,It _ _ _ (by simp<;>omega),It _ _ _ (by simp<;>omega)];simpa using h),(by
  have h:=Ie (w.alloc (AT A S0)) (AT B S1);rw[e,It _ _ _ (by simp<;>omega)];simpa using h),(by
  have h:=Ie ((w.alloc (AT A S0)).alloc (AT B S1)) (AT C S2);rw[e];simpa using h)⟩
theorem abp(w:World)(A B C D:Array Value)(S0 S1 S2 S3:Jc):∃W,W=(((w.alloc (AT A S0)).alloc (AT B S1)).alloc (AT C S2)).alloc (AT D S3)/\Below w.heap.size w W/\W.heap.size=w.heap.size+4/\W.heap[w.heap.size]?=Z (AT A S0 (0,0))/\W.heap[w.heap.size+1]?=Z (AT B S1 (0,0))/\W.heap[w.heap.size+2]?=Z (AT C S2 (0,0))/\W.heap[w.heap.size+3]?=Z (AT D S3 (0,0)):=by
 obtain⟨W,e⟩:∃W,W=(((w.alloc (AT A S0)).alloc (AT B S1)).alloc (AT C S2)).alloc (AT D S3):=⟨_,rfl⟩;exact⟨W,e,(by rw[e];exact((((Ib _ _).alloc (by simp<;>omega) _).alloc (by simp<;>omega) _).alloc (by simp<;>omega) _).alloc (by simp<;>omega) _),(by rw[e];simp),(by
  have h:=Ie w (AT A S0);rw[e,It _ _ _ (by simp<;>omega),It _ _ _ (by simp<;>omega),It _ _ _ (by simp<;>omega)];simpa using h),(by
  have h:=Ie (w.alloc (AT A S0)) (AT B S1);rw[e,It _ _ _ (by simp<;>omega),It _ _ _ (by simp<;>omega)];simpa using h),(by
  have h:=Ie ((w.alloc (AT A S0)).alloc (AT B S1)) (AT C S2);rw[e,It _ _ _ (by simp<;>omega)];simpa using h),(by
  have h:=Ie (((w.alloc (AT A S0)).alloc (AT B S1)).alloc (AT C S2)) (AT D S3);rw[e];simpa using h)⟩
def eT(ne er:Int)(n':Nd)(w:World)(e:QI)(w':World):Prop:=Below w.heap.size w w' /\
 ((ne≠0/\e=sh (Il #[Im #[I ⟨#[]⟩,I ⟨#[]⟩,U Y 0 0,U Y 0 0,U Y 0 0,U Y 0 0,O J 0,O J 0,O J 0,O J 0,O J 0,U Y 0 0],O J ne]))\/(ne=0/\er≠0/\e=sh (Il #[Im #[I ⟨#[]⟩,I ⟨#[]⟩,U Y 0 0,U Y 0 0,U Y 0 0,U Y 0 0,O J 0,O J 0,O J 0,O J 0,O J 0,U Y 0 0],O J er])) \/
 (ne=0/\er=0/\∃um ur us ug uw,e=sh (Il #[Im (fD n' um ur us ug uw),O J 0])/\gK w.heap.size w' n' um ur us ug uw/\oE n'))
theorem jD.wrap{ne er:Int}{n':Nd}{w W0 w1:World}{e:QI}{rb:Nat}(h:jD ne er n' (λ_=>False) (λ_=>True) W0 e w1)(hb:Below w.heap.size w W0)(hz:W0.heap[rb]?=Z (AT #[I ⟨#[]⟩,I ⟨#[]⟩,U Y 0 0,U Y 0 0,U Y 0 0,U Y 0 0,O J 0,O J 0,O J 0,O J 0,O J 0,U Y 0 0] 30 (0,0)))(hle:w.heap.size<=rb) :
 w1.heap[rb]?=Z (AT #[I ⟨#[]⟩,I ⟨#[]⟩,U Y 0 0,U Y 0 0,U Y 0 0,U Y 0 0,O J 0,O J 0,O J 0,O J 0,O J 0,U Y 0 0] 30 (0,0))/\∃u0 u1 b2 m2 e2 b3 m3 e3 b4 m4 e4 b5 m5 e5 u6 u7 u8 u9 u10 b11 m11 e11 r,e=sh (Il #[Im #[I u0,I u1,U b2 m2 e2,U b3 m3 e3,U b4 m4 e4,U b5 m5 e5,O J u6,O J u7,O J u8,O J u9,O J u10,U b11 m11 e11],O J r])/\Hid (eT ne er n' w (sh (Il #[Im #[I u0,I u1,U b2 m2 e2,U b3 m3 e3,U b4 m4 e4,U b5 m5 e5,O J u6,O J u7,O J u8,O J u9,O J u10,U b11 m11 e11],O J r])) (bU rb [I u0,I u1,U b2 m2 e2,U b3 m3 e3,U b4 m4 e4,U b5 m5 e5,O J u6,O J u7,O J u8,O J u9,O J u10,U b11 m11 e11] 0 w1)):=by
 obtain⟨tm,zL⟩:=h;have aL:=(Ia.1 hz).1;have al:=tm.below (By _) (λ_ hk=>hk.elim);have aC:=hb.trans (al.mono hb.size);refine⟨(al.block _ aL).trans hz,?_⟩;rcases zL with⟨bu,rfl⟩|⟨bu,BF,rfl⟩|⟨bu,BF,um,ur,us,ug,uw,rfl,hown,kM,_⟩
 .exact⟨_,_,_,_,_,_,_,_,_,_,_,_,_,_,_,_,_,_,_,_,_,_,_,rfl,cz hle _ _ aC,.inl ⟨bu,rfl⟩⟩
 .exact⟨_,_,_,_,_,_,_,_,_,_,_,_,_,_,_,_,_,_,_,_,_,_,_,rfl,cz hle _ _ aC,.inr (.inl ⟨bu,BF,rfl⟩)⟩
 .have ho:gK w.heap.size (bU rb [I n'.name,I n'.ai,um,ur,us,ug,O J n'.p.x,O J n'.p.y,O J n'.p.z,O J n'.p.h,O J n'.p.s,uw] 0 w1) n' um ur us ug uw:=⟨Own.mono (bZ aL _ _ hown.ms) hb.size,cd.base (bZ aL _ _ hown.rs) hb.size,Sv.Own.mono (bZ aL _ _ hown.sv) hb.size,Gw.Own.mono (bZ aL _ _ hown.gw) hb.size,Wh.Own.mono (bZ aL _ _ hown.wh) hb.size⟩
  obtain⟨im2,jm2,sG,_⟩:=az hown.ms;obtain⟨ir2,jr2,zh,_⟩:=az hown.rs;obtain⟨is2,js2,BE,_⟩:=az hown.sv;obtain⟨ig2,jg2,Ec,_⟩:=az hown.gw;obtain⟨ih2,jh2,Ed,_⟩:=az hown.wh;subst sG zh BE Ec Ed;exact⟨_,_,_,_,_,_,_,_,_,_,_,_,_,_,_,_,_,_,_,_,_,_,_,rfl,cz hle _ _ aC,.inr (.inr ⟨bu,BF,_,_,_,_,_,rfl,ho,kM⟩)⟩
theorem Nd.sp{n:Nd}(h:n.e=0):Sp n:=⟨(Nd.parts (Nd.gx h).1).ms,(Nd.parts (Nd.gx h).1).rs,(Nd.parts (Nd.gx h).1).name⟩
theorem Eg(L b tb:Nat)(n:Nd)(t:ByteArray)(w:World)(h:Wk L w b n)(hL:L<=b)(BA:Sp n)(ht:t.size<=maxLen)(hc:w.heap[tb]?=Z (AT #[I t] 9 (0,0))) :
 aP 53 #[If (Z ⟨b,0,Y⟩),If (Z ⟨tb,0,Y⟩)] w λe w'=>e=sh (O J (Ky n t 1 2))/\Sh (λk=>k=b) w w'/\Hid (Ky n t 1 2=0->Wk L w' b (Vu n t 2)):=by
 have HC:Hid (aP _ _ _ _):=DZ L b n t 1 2 w h hL BA.ms BA.rs BA.name ht rfl;have y0:=af hc 0;clear h BA hc;generalize Ky n t 1 2=we at *;go_enter Tryz.func53,Tryz.ntmps53;go_wp2_with fail;refine HC.out.mono ?_;rintro e w1 ⟨rfl,hs,hk⟩;have HS:Hid _:=hs;clear hs;go_wp2_with fail;go_ret;exact⟨rfl,HS.out,hk⟩
theorem KA(n:Nd)(t:ByteArray)(vm vr vs vg vw:Value)(w:World)(h:jL w n vm vr vs vg vw)(ht:t.size<=maxLen) :
 aP 20 #[Im (fD n vm vr vs vg vw),I t] w λe w'=>eT n.e (Ky n t 1 2) (Vu n t 2) w e w':=by
 have ze:Hid _:=h;obtain⟨W0,dK⟩:∃W0,W0=w.heap.size:=⟨_,rfl⟩;clear dK W0;have xO:Hid (∀W0,Below w.heap.size w W0->W0.heap.size=w.heap.size+3->W0.heap[w.heap.size+1]?=Z (AT #[I t] 9 (0,0))->aP 45 #[Im (fD n vm vr vs vg vw),IZ (.func 53) #[] #[If (Z ⟨w.heap.size+1,0,Y⟩)]] W0 λe w'=>jD n.e (Ky n t 1 2) (Vu n t 2) (λ_=>False) (λ_=>True) W0 e w'):=λW0 hb hs hc1=>
  pN 53 #[If (Z ⟨w.heap.size+1,0,Y⟩)] (enters_of Tryz.func53 (by kernel_rfl) rfl) n vm vr vs vg vw W0 (h.below hb) (λ_=>False) (Ky n t 1 2) (Vu n t 2) (λ_=>True)
   (λhe W b hW aC hk=>by
    refine(Eg (W0.heap.size+2) b (w.heap.size+1) n t W hk (by omega) (Nd.sp he) ht ((hW.block _ (by omega)).trans hc1)).mono ?_;rintro e w' ⟨rfl,hs,hh⟩;exact⟨rfl,hs.mono (λk hk=>.inl (by omega)),λh=>⟨hh.out h,trivial⟩⟩
   ) (λ_ _ _ _=>trivial) (λ_ hk=>hk.elim)
 obtain⟨nm,ct,ms,rs,sv,gw,⟨px,py,pz,ph,pq⟩,wh⟩:=n;obtain⟨⟨em,cm,rfl,_,_⟩,⟨wR,cr,rfl,_,_⟩,⟨es,wS,rfl,_,_⟩,⟨wT,cg,rfl,_,_⟩,⟨eh,ch,rfl,_,_⟩,_,_⟩:=h;simp only[fD] at xO ⊢;generalize ms.length=km at *;generalize rs.length=kr at *;generalize sv.length=ks at *;generalize gw.length=kg at *;generalize wh.length=kh at *;generalize Nd.e ⟨nm,ct,ms,rs,sv,gw,⟨px,py,pz,ph,pq⟩,wh⟩=ne at *;generalize Ky ⟨nm,ct,ms,rs,sv,gw,⟨px,py,pz,ph,pq⟩,wh⟩ t 1 2=er at *;generalize Vu ⟨nm,ct,ms,rs,sv,gw,⟨px,py,pz,ph,pq⟩,wh⟩ t 2=n' at *;obtain⟨W0,dK,df,nP,Mh,hc1,bW⟩:=Ef w #[I nm,I ct,U em km cm,U wR kr cr,U es ks wS,U wT kg cg,O J px,O J py,O J pz,O J ph,O J pq,U eh kh ch] #[I t] #[I ⟨#[]⟩,I ⟨#[]⟩,U Y 0 0,U Y 0 0,U Y 0 0,U Y 0 0,O J 0,O J 0,O J 0,O J 0,O J 0,U Y 0 0] 30 9 30;have FH:=xO.out W0 df nP hc1;have dy:Hid _:=df;have xJ:Hid _:=bW;clear df nP Mh hc1 bW xO;go_enter Tryz.func20,Tryz.ntmps20;go_wp2_with fail;rw[<- dK];refine FH.mono ?_;intro e w1 h;obtain⟨cS,u0,u1,b2,m2,e2,b3,m3,e3,b4,m4,e4,b5,m5,e5,u6,u7,u8,u9,u10,b11,m11,e11,r1,rfl,HR⟩:=h.wrap dy.out xJ.out (by omega);obtain⟨q0,q1,q2,q3,q4,q5,q6,q7,q8,q9,q10,q11⟩:=bM cS;obtain⟨FB,Eb,FC,FD,FE,FF,VB,VC,VD,VE,zt,zu⟩:=mK cS;clear h cS FH dK dy xJ;simp only[bU,IM,OV] at HR;go_wp2_with fail;exact Ix (v:=Il #[Im #[I u0,I u1,U b2 m2 e2,U b3 m3 e3,U b4 m4 e4,U b5 m5 e5,O J u6,O J u7,O J u8,O J u9,O J u10,U b11 m11 e11],O J r1]) (by simp[results,Tryz.results20,go_sem,q0,q1,q2,q3,q4,q5,q6,q7,q8,q9,q10,q11]) rfl HR.out
theorem Wh.Rb{wh:List Wh.bC}(h:Wh.ba wh=0)(hk:∀m∈wh,m.ok):Wh.uJ wh:=⟨(Wh.aF h).2.1,(Wh.aF h).1,hk⟩
theorem KB(L b tb:Nat)(n:Nd)(dN:ByteArray)(whole:Bool)(iR:List Mem)(iz:List Sv.aI)(iA:List Gw.cD)(iB:List Wh.bC)(am aS aG aH:Option Addr)(bm bS bG bH:Nat)(w0 w:World)(h:Wk L w b n)(hL:L<=b)(he:n.e=0)(kM:oE n)(hx:pJ w0 ⟨dN,whole,iR,iz,iA,iB⟩ (U am iR.length bm) (U aS iz.length bS) (U aG iA.length bG) (U aH iB.length bH))(hB:Below w0.heap.size w0 w)(hBL:w0.heap.size<=L)(hlen:whole=true\/iz.length+iA.length+iB.length<=4611686018427387904)(hc:w.heap[tb]?=Z (AT #[I dN,AI whole,U am iR.length bm,U aS iz.length bS,U aG iA.length bG,U aH iB.length bH] 57 (0,0))) :
 aP 49 #[If (Z ⟨b,0,Y⟩),If (Z ⟨tb,0,Y⟩)] w λe w'=>e=sh (O J (oG n ⟨dN,whole,iR,iz,iA,iB⟩))/\Sh (λk=>L<=k) w w'/\Hid (oG n ⟨dN,whole,iR,iz,iA,iB⟩=0->Wk L w' b (s9 n ⟨dN,whole,iR,iz,iA,iB⟩)):=by
 have hp:=Nd.parts (Nd.gx he).1;have HC:Hid (aP 50 #[If (Z ⟨b,0,Y⟩),Im #[I dN,AI whole,U am iR.length bm,U aS iz.length bS,U aG iA.length bG,U aH iB.length bH]] w λe w'=>e=sh (O J (oG n ⟨dN,whole,iR,iz,iA,iB⟩))/\Sh (λk=>L<=k) w w'/\Hid (oG n ⟨dN,whole,iR,iz,iA,iB⟩=0->Wk L w' b (s9 n ⟨dN,whole,iR,iz,iA,iB⟩))):=
  Kz L b n ⟨dN,whole,iR,iz,iA,iB⟩ _ _ _ _ w0 w h hL (Nd.sp he) hp.sv hp.gw (Wh.Rb hp.wh kM.wh) hx hB hBL hlen
 obtain⟨y0,y1,y2,y3,y4,y5⟩:=gV hc;clear h hp hc hx;generalize oG n ⟨dN,whole,iR,iz,iA,iB⟩=we at *;generalize s9 n ⟨dN,whole,iR,iz,iA,iB⟩=nn at *;generalize iR.length=k1 at *;generalize iz.length=k2 at *;generalize iA.length=k3 at *;generalize iB.length=k4 at *;go_enter Tryz.func49,Tryz.ntmps49;go_wp2_with fail;refine HC.out.mono ?_;rintro e w1 ⟨rfl,hs,hk⟩;have HS:Hid _:=hs;clear hs;go_wp2_with fail;go_ret;exact⟨rfl,HS.out,hk⟩
theorem Re(n:Nd)(p:Pk)(zm zs zg zw:Value)(vm vr vs vg vw:Value)(w:World)(h:jL w n vm vr vs vg vw)(hx:pJ w p zm zs zg zw)(hlen:p.whole=true\/p.sv.length+p.gw.length+p.wh.length<=4611686018427387904) :
 aP 18 #[Im (fD n vm vr vs vg vw),Im #[I p.dN,AI p.whole,zm,zs,zg,zw]] w λe w'=>eT n.e (oG n p) (s9 n p) w e w':=by
 have ze:Hid _:=h;have HX:Hid _:=hx;obtain⟨dN,whole,iR,iz,iA,iB⟩:=p;obtain⟨⟨am,bm,rfl,_,_⟩,⟨aS,bS,rfl,_,_⟩,⟨aG,bG,rfl,_,_⟩,⟨aH,bH,rfl,_,_⟩,_,_⟩:=hx;simp only at hlen HX ⊢;obtain⟨W0,dK⟩:∃W0,W0=w.heap.size:=⟨_,rfl⟩;clear dK W0;have xO:Hid (∀W0,Below w.heap.size w W0->W0.heap.size=w.heap.size+3->W0.heap[w.heap.size+1]?=Z (AT #[I dN,AI whole,U am iR.length bm,U aS iz.length bS,U aG iA.length bG,U aH iB.length bH] 57 (0,0))->aP 45 #[Im (fD n vm vr vs vg vw),IZ (.func 49) #[] #[If (Z ⟨w.heap.size+1,0,Y⟩)]] W0 λe w'=>jD n.e (oG n ⟨dN,whole,iR,iz,iA,iB⟩) (s9 n ⟨dN,whole,iR,iz,iA,iB⟩) (λ_=>False) (λ_=>True) W0 e w'):=λW0 hb hs hc1=>
  pN 49 #[If (Z ⟨w.heap.size+1,0,Y⟩)] (enters_of Tryz.func49 (by kernel_rfl) rfl) n vm vr vs vg vw W0 (h.below hb) (λ_=>False) (oG n ⟨dN,whole,iR,iz,iA,iB⟩) (s9 n ⟨dN,whole,iR,iz,iA,iB⟩) (λ_=>True)
   (λhe W b hW aC hk=>by
    refine(KB (W0.heap.size+2) b (w.heap.size+1) n dN whole iR iz iA iB am aS aG aH bm bS bG bH W0 W hk (by omega) he h.ok (HX.out.below hb) hW (by omega) hlen ((hW.block _ (by omega)).trans hc1)).mono ?_;rintro e w' ⟨rfl,hs,hh⟩;exact⟨rfl,hs.mono (λk hk=>.inl hk),λh=>⟨hh.out h,trivial⟩⟩
   ) (λ_ _ _ _=>trivial) (λ_ hk=>hk.elim)
 obtain⟨nm,ct,ms,rs,sv,gw,⟨px,py,pz,ph,pq⟩,wh⟩:=n;obtain⟨⟨em,cm,rfl,_,_⟩,⟨wR,cr,rfl,_,_⟩,⟨es,wS,rfl,_,_⟩,⟨wT,cg,rfl,_,_⟩,⟨eh,ch,rfl,_,_⟩,_,_⟩:=h;simp only[fD] at xO ⊢;generalize ms.length=km at *;generalize rs.length=kr at *;generalize sv.length=ks at *;generalize gw.length=kg at *;generalize wh.length=kh at *;generalize iR.length=k1 at *;generalize iz.length=k2 at *;generalize iA.length=k3 at *;generalize iB.length=k4 at *;generalize Nd.e ⟨nm,ct,ms,rs,sv,gw,⟨px,py,pz,ph,pq⟩,wh⟩=ne at *;generalize oG ⟨nm,ct,ms,rs,sv,gw,⟨px,py,pz,ph,pq⟩,wh⟩ ⟨dN,whole,iR,iz,iA,iB⟩=er at *;generalize s9 ⟨nm,ct,ms,rs,sv,gw,⟨px,py,pz,ph,pq⟩,wh⟩ ⟨dN,whole,iR,iz,iA,iB⟩=n' at *;obtain⟨W0,dK,df,nP,Mh,hc1,bW⟩:=Ef w #[I nm,I ct,U em km cm,U wR kr cr,U es ks wS,U wT kg cg,O J px,O J py,O J pz,O J ph,O J pq,U eh kh ch] #[I dN,AI whole,U am k1 bm,U aS k2 bS,U aG k3 bG,U aH k4 bH] #[I ⟨#[]⟩,I ⟨#[]⟩,U Y 0 0,U Y 0 0,U Y 0 0,U Y 0 0,O J 0,O J 0,O J 0,O J 0,O J 0,U Y 0 0] 30 57 30;have FH:=xO.out W0 df nP hc1;have dy:Hid _:=df;have xJ:Hid _:=bW;clear df nP Mh hc1 bW xO;go_enter Tryz.func18,Tryz.ntmps18;go_wp2_with fail;rw[<- dK];refine FH.mono ?_;intro e w1 h;obtain⟨cS,u0,u1,b2,m2,e2,b3,m3,e3,b4,m4,e4,b5,m5,e5,u6,u7,u8,u9,u10,b11,m11,e11,r1,rfl,HR⟩:=h.wrap dy.out xJ.out (by omega);obtain⟨q0,q1,q2,q3,q4,q5,q6,q7,q8,q9,q10,q11⟩:=bM cS;obtain⟨FB,Eb,FC,FD,FE,FF,VB,VC,VD,VE,zt,zu⟩:=mK cS;clear h cS FH dK dy xJ;simp only[bU,IM,OV] at HR;go_wp2_with fail;exact Ix (v:=Il #[Im #[I u0,I u1,U b2 m2 e2,U b3 m3 e3,U b4 m4 e4,U b5 m5 e5,O J u6,O J u7,O J u8,O J u9,O J u10,U b11 m11 e11],O J r1]) (by simp[results,Tryz.results18,go_sem,q0,q1,q2,q3,q4,q5,q6,q7,q8,q9,q10,q11]) rfl HR.out
end Go.Proofs.YtfidjlcdlakceaaGreatDoor
