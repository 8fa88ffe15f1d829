import Derived.Test.YtfidjlcdlakceaaGreatDoorrt32
set_option maxHeartbeats 25600000
set_option maxRecDepth 100000
open Option renaming none→Y,some→Z
open Go.Ending renaming returned→sh
open Go.Value renaming tuple→Il,agg→Ip,string→I,slice→U,int→O
open Go.IntKind renaming i64→J
open Go renaming heap_alloc_new→Ie,bodyPost_ret→Iy
open Array renaming getElem?_eq_some_iff→Ib
open Go.World renaming frozen?→Ih
namespace Go.Proofs.YtfidjlcdlakceaaGreatDoor
open Go.RowKit
theorem Mj{S:Nat->Prop}{w w':World}(h:Sh (λk=>S k\/w.heap.size<=k) w w'):Sh S w w':=by
 refine⟨h.os,h.tape,h.output,h.size,λk hk hn=>h.block k hk ?_⟩;rintro(e|e)
 .exact hn e
 .omega
theorem Sh.hQ{S:Nat->Prop}{L:Nat}{a w:World}(h:Sh (λk=>S k\/L<=k) a w){b i:Nat}(hb:L<=b)(x:Value):Sh (λk=>S k\/L<=k) a (w.setCell ⟨b,i,Y⟩ x):=h.setCell (S:=λk=>S k\/L<=k) (.inr hb) x
theorem Sh.tC{S:Nat->Prop}{L:Nat}{a w:World}(h:Sh (λk=>S k\/L<=k) a w){b:Nat}(hb:L<=b)(x0 x1 x2 x3 x4 x5 x6 x7 x8 x9 x10 x11:Value):Sh (λk=>S k\/L<=k) a ((((((((((((w.setCell ⟨b,0,Y⟩ x0).setCell ⟨b,1,Y⟩ x1).setCell ⟨b,2,Y⟩ x2).setCell ⟨b,3,Y⟩ x3).setCell ⟨b,4,Y⟩ x4).setCell ⟨b,5,Y⟩ x5).setCell ⟨b,6,Y⟩ x6).setCell ⟨b,7,Y⟩ x7).setCell ⟨b,8,Y⟩ x8).setCell ⟨b,9,Y⟩ x9).setCell ⟨b,10,Y⟩ x10).setCell ⟨b,11,Y⟩ x11):=((((((((((((h).hQ (i:=0) hb _).hQ (i:=1) hb _).hQ (i:=2) hb _).hQ (i:=3) hb _).hQ (i:=4) hb _).hQ (i:=5) hb _).hQ (i:=6) hb _).hQ (i:=7) hb _).hQ (i:=8) hb _).hQ (i:=9) hb _).hQ (i:=10) hb _).hQ (i:=11) hb _
def jU(ne er:Int)(S:Nat->Prop)(R:Nd->World->Prop)(w:World)(e:Ending)(w':World):Prop:=Sh S w w' /\
 ((ne≠0/\Below w.heap.size w w'/\e=sh (Il #[Ip #[I ⟨#[]⟩,I ⟨#[]⟩,U Y 0 0,U Y 0 0,U Y 0 0,U Y 0 0,O J 0,O J 0,O J 0,O J 0,O J 0,U Y 0 0],O J ne]))\/(ne=0/\er≠0/\e=sh (Il #[Ip #[I ⟨#[]⟩,I ⟨#[]⟩,U Y 0 0,U Y 0 0,U Y 0 0,U Y 0 0,O J 0,O J 0,O J 0,O J 0,O J 0,U Y 0 0],O J er])) \/
 (ne=0/\er=0/\∃n' um ur us ug uw,e=sh (Il #[Ip (fB n' um ur us ug uw),O J 0])/\gT w.heap.size w' n' um ur us ug uw/\ri n'/\R n' w'))
theorem vP(kf:Nat)(cs:Array Value)(eg:∀args w,(callFunc kf args).run Tryz.prog w=.ok (.enter kf args) w)(n:Nd)(vm vr vs vg vw:Value)(w:World)(h:ix w n vm vr vs vg vw)(S:Nat->Prop)(er:Int)(R:Nd->World->Prop)(hF:n.e=0->∀W b,Below w.heap.size w W->w.heap.size+2<=b->Wk (w.heap.size+2) W b n->aT kf (#[.pointer (Z ⟨b,0,Y⟩)]++cs) W λe w'=>e=sh (O J er)/\Sh (λk=>w.heap.size+2<=k\/S k) W w'/\(er=0->∃n',Wk (w.heap.size+2) w' b n'/\R n' w'))(hR:∀n' W j x,R n' W->R n' (W.setCell ⟨w.heap.size+1,j,Y⟩ x))(hS:∀k,S k->k<w.heap.size) :
 aT 45 #[Ip (fB n vm vr vs vg vw),.func (.func kf) #[] cs] w λe w'=>jU n.e er S R w e w':=by
 have BI:Hid _:=h;have AU:Hid _:=h.ok;have oO:Hid (∀W,Below w.heap.size w W->aT _ _ _ _):=λW hW=>nB n vm vr vs vg vw W (h.below hW);have AV:Hid (n.e=0->∀W,Below w.heap.size w W->aT 48 #[Ip (fB n vm vr vs vg vw)] W λe w'=>∃um ur us ug uw,e=sh (Ip (fB n um ur us ug uw))/\gT W.heap.size w' n um ur us ug uw/\Below W.heap.size W w'):=λhe W hW=>by
  have hp:=Nd.parts (Nd.jy he).1;have l1:=(aI hp.ms).1;have l2:=(jo hp.rs).1;have l3:=(Sv.aI hp.sv).1;have l4:=(Gw.aI hp.gw).1;have l5:=(Wh.aI hp.wh).1;exact vJ n vm vr vs vg vw W (h.below hW) (by omega) (by omega) (by omega) (by omega) (by omega)
 have HF:Hid _:=hF;have HR:Hid _:=hR;have Va:Hid _:=hS;clear hF hR hS;obtain⟨nm,ct,ms,rs,sv,gw,⟨px,py,pz,ph,pq⟩,wh⟩:=n;obtain⟨⟨em,cm,rfl,_,_⟩,⟨zp,cr,rfl,_,_⟩,⟨es,zq,rfl,_,_⟩,⟨zr,cg,rfl,_,_⟩,⟨eh,ch,rfl,_,_⟩,_,_⟩:=h;simp only[fB] at oO AV ⊢;generalize wM:ms.length=km at *;have Hkm:Hid _:=wM;generalize Wi:rs.length=kr at *;have Hkr:Hid _:=Wi;generalize Wj:sv.length=ks at *;have Hks:Hid _:=Wj;generalize Ve:gw.length=kg at *;have Hkg:Hid _:=Ve;generalize hkh:wh.length=kh at *;have Hkh:Hid _:=hkh;clear wM Wi Wj Ve hkh;have GV:Hid (∃ne,ne=Nd.e ⟨nm,ct,ms,rs,sv,gw,⟨px,py,pz,ph,pq⟩,wh⟩):=⟨_,rfl⟩;generalize Nd.e ⟨nm,ct,ms,rs,sv,gw,⟨px,py,pz,ph,pq⟩,wh⟩=ne at *;obtain⟨W0,eu⟩:∃W0,W0=(w.alloc (.cells #[I nm,I ct,U em km cm,U zp kr cr,U es ks zq,U zr kg cg,O J px,O J py,O J pz,O J ph,O J pq,U eh kh ch] 30)).alloc (.cells #[I ⟨#[]⟩,I ⟨#[]⟩,U Y 0 0,U Y 0 0,U Y 0 0,U Y 0 0,O J 0,O J 0,O J 0,O J 0,O J 0,U Y 0 0] 30):=⟨_,rfl⟩;have eN:Below w.heap.size w W0:=by rw[eu];exact((Below.refl _ _).alloc (Nat.le_refl _) _).alloc (by simp) _
 have eo:W0.heap[w.heap.size]?=Z (.cells #[I nm,I ct,U em km cm,U zp kr cr,U es ks zq,U zr kg cg,O J px,O J py,O J pz,O J ph,O J pq,U eh kh ch] 30 (0,0)):=by
  rw[eu,Below.heap_alloc _ _ _ (by simp)];exact Ie w _
 have cE:W0.heap[w.heap.size+1]?=Z (.cells #[I ⟨#[]⟩,I ⟨#[]⟩,U Y 0 0,U Y 0 0,U Y 0 0,U Y 0 0,O J 0,O J 0,O J 0,O J 0,O J 0,U Y 0 0] 30 (0,0)):=by
  have h:=Ie (w.alloc (.cells #[I nm,I ct,U em km cm,U zp kr cr,U es ks zq,U zr kg cg,O J px,O J py,O J pz,O J ph,O J pq,U eh kh ch] 30)) (.cells #[I ⟨#[]⟩,I ⟨#[]⟩,U Y 0 0,U Y 0 0,U Y 0 0,U Y 0 0,O J 0,O J 0,O J 0,O J 0,O J 0,U Y 0 0] 30);rw[eu];simpa using h
 have r8:W0.heap.size=w.heap.size+2:=by rw[eu];simp
 have dB:Hid _:=eN;have yO:Hid _:=eo;have C8:Hid _:=cE;clear eN eo cE;go_enter Tryz.func45,Tryz.ntmps45;go_wp2_with fail;rw[<- eu];clear eu;refine(oO.out W0 dB.out).mono ?_;rintro e w1 ⟨rfl,an⟩;have bf:=(an.block _ (by omega)).trans yO.out;have cP:=(an.block _ (by omega)).trans C8.out;have aK:Hid _:=dB.out.trans (an.mono (by omega));have gi:=(Ib.1 cP).1;have q0:=af cP 0;have GZ:w1.frozen? ⟨w.heap.size+1,0,Y⟩=false:=by simp[Ih,cP]
 have q1:=af cP 1;have FK:w1.frozen? ⟨w.heap.size+1,1,Y⟩=false:=by simp[Ih,cP]
 have q2:=af cP 2;have G9:w1.frozen? ⟨w.heap.size+1,2,Y⟩=false:=by simp[Ih,cP]
 have q3:=af cP 3;have Ha:w1.frozen? ⟨w.heap.size+1,3,Y⟩=false:=by simp[Ih,cP]
 have q4:=af cP 4;have Hb:w1.frozen? ⟨w.heap.size+1,4,Y⟩=false:=by simp[Ih,cP]
 have q5:=af cP 5;have Hc:w1.frozen? ⟨w.heap.size+1,5,Y⟩=false:=by simp[Ih,cP]
 have q6:=af cP 6;have Wl:w1.frozen? ⟨w.heap.size+1,6,Y⟩=false:=by simp[Ih,cP]
 have q7:=af cP 7;have Wm:w1.frozen? ⟨w.heap.size+1,7,Y⟩=false:=by simp[Ih,cP]
 have q8:=af cP 8;have Wn:w1.frozen? ⟨w.heap.size+1,8,Y⟩=false:=by simp[Ih,cP]
 have q9:=af cP 9;have Wo:w1.frozen? ⟨w.heap.size+1,9,Y⟩=false:=by simp[Ih,cP]
 have q10:=af cP 10;have BJ:w1.frozen? ⟨w.heap.size+1,10,Y⟩=false:=by simp[Ih,cP]
 have q11:=af cP 11;have BK:w1.frozen? ⟨w.heap.size+1,11,Y⟩=false:=by simp[Ih,cP]
 obtain⟨p0,p1,p2,p3,p4,p5,p6,p7,p8,p9,p10,p11⟩:=bT bf;have GW:Hid _:=cP;clear an bf cP;by_cases bE:ne=0;rotate_left
 .have Wp:(ne !=0)=true:=by simpa using bE
  have HNZ:Hid _:=bE;have De:Hid (Sh (λk=>S k\/w.heap.size<=k) w w1):=.of aK.out;clear bE;go_wp2_with fail;refine Iy (v:=Il #[Ip #[I ⟨#[]⟩,I ⟨#[]⟩,U Y 0 0,U Y 0 0,U Y 0 0,U Y 0 0,O J 0,O J 0,O J 0,O J 0,O J 0,U Y 0 0],O J ne]) ?_ rfl ?_
  .simp[results,Tryz.results45,go_sem,q0,q1,q2,q3,q4,q5,q6,q7,q8,q9,q10,q11]
  .unfold jU
   refine⟨?_,.inl ⟨HNZ.out,?_,rfl⟩⟩
   .exact Mj (De.out.tC (Nat.le_succ _) _ _ _ _ _ _ _ _ _ _ _ _)
   .exact fI aK.out (by simp) _ _ _ _ _ _ _ _ _ _ _ _
 subst bE;have HFK:=AV.out rfl w1 aK.out;have qV:Hid (∀W b,Below w.heap.size w W->w.heap.size+2<=b->Wk (w.heap.size+2) W b ⟨nm,ct,ms,rs,sv,gw,⟨px,py,pz,ph,pq⟩,wh⟩->aT _ _ _ _):=HF.out rfl;clear HF AV;go_wp2_with fail;refine HFK.mono ?_;rintro e w2 ⟨um,ur,us,ug,uw,rfl,ky,aD⟩;obtain⟨im,jm,rq,_⟩:=ax ky.ms;obtain⟨ir,jr,xi,_⟩:=ax ky.rs;obtain⟨is_,js,BL,_⟩:=ax ky.sv;obtain⟨ig,jg,BM,_⟩:=ax ky.gw;obtain⟨ih,jh,BN,_⟩:=ax ky.wh;simp only at rq xi BL BM BN;rw[Hkm.out] at rq;rw[Hkr.out] at xi;rw[Hks.out] at BL;rw[Hkg.out] at BM;rw[Hkh.out] at BN;subst rq xi BL BM BN;obtain⟨W3,lR⟩:∃W3,W3=w2.alloc (.cells #[I nm,I ct,U im km jm,U ir kr jr,U is_ ks js,U ig kg jg,O J px,O J py,O J pz,O J ph,O J pq,U ih kh jh] 81):=⟨_,rfl⟩;have bD:Hid _:=aK.out.trans (aD.mono (by omega));have cT:Hid (Below w.heap.size w W3):=by rw[lR];exact bD.out.alloc bD.out.size _
 have nP:=aD.size;have Ni:W3.heap.size=w2.heap.size+1:=by rw[lR];simp
 have BO:Below w2.heap.size w2 W3:=by rw[lR];exact(Below.refl _ _).alloc (Nat.le_refl _) _
 have jM:Hid _:=(BO.block _ (by omega)).trans ((aD.block _ (by omega)).trans GW.out);have aB:∀{v:Value} {k:Nat},v.ownBlock=Z k->k<w2.heap.size->v.ownBlock≠Z w2.heap.size:=λh hk e=>by rw[h] at e;cases e;omega
 have yh:Hid (Wk (w.heap.size+2) W3 w2.heap.size ⟨nm,ct,ms,rs,sv,gw,⟨px,py,pz,ph,pq⟩,wh⟩):=by
  refine⟨_,_,_,_,_,?_,⟨(ky.ms.below BO).mono (by omega),(ky.rs.below BO).base (by omega),(ky.sv.below BO).mono (by omega),(ky.gw.below BO).mono (by omega),(ky.wh.below BO).mono (by omega)⟩,⟨λe=>?_,λe=>?_,λe=>?_,λe=>?_,λe=>?_⟩,AU.out⟩
  .rw[lR];exact Ie w2 _
  .have:=(ky.ms.lt _ e).2;omega
  .have:=(ky.rs.lt _ e).2;omega
  .have:=(ky.sv.lt _ e).2;omega
  .have:=(ky.gw.lt _ e).2;omega
  .have:=(ky.wh.lt _ e).2;omega
 have Nb:=qV.out W3 w2.heap.size cT.out (by omega) yh.out;clear ky aD BO aB q0 GZ q1 FK q2 G9 q3 Ha q4 Hb q5 Hc q6 Wl q7 Wm q8 Wn q9 Wo q10 BJ q11 BK p0 p1 p2 p3 p4 p5 p6 p7 p8 p9 p10 p11;go_wp2_with fail;rw[<- lR];refine Nb.mono ?_;rintro e w4 ⟨rfl,rV,iS⟩;have De:Hid (Sh (λk=>S k\/w.heap.size<=k) w w4):=(Sh.of cT.out).trans (rV.mono (λk hk=>hk.elim (λh=>.inr (by omega)) (λh=>.inl h)));have iu:=(rV.block _ (by omega) (λhk=>hk.elim (λh=>by omega) (λh=>by have:=Va.out _ h;omega))).trans jM.out;have NY:Hid _:=iS;have yw:=(Ib.1 iu).1;have q0:=af iu 0;have GZ:w4.frozen? ⟨w.heap.size+1,0,Y⟩=false:=by simp[Ih,iu]
 have q1:=af iu 1;have FK:w4.frozen? ⟨w.heap.size+1,1,Y⟩=false:=by simp[Ih,iu]
 have q2:=af iu 2;have G9:w4.frozen? ⟨w.heap.size+1,2,Y⟩=false:=by simp[Ih,iu]
 have q3:=af iu 3;have Ha:w4.frozen? ⟨w.heap.size+1,3,Y⟩=false:=by simp[Ih,iu]
 have q4:=af iu 4;have Hb:w4.frozen? ⟨w.heap.size+1,4,Y⟩=false:=by simp[Ih,iu]
 have q5:=af iu 5;have Hc:w4.frozen? ⟨w.heap.size+1,5,Y⟩=false:=by simp[Ih,iu]
 have q6:=af iu 6;have Wl:w4.frozen? ⟨w.heap.size+1,6,Y⟩=false:=by simp[Ih,iu]
 have q7:=af iu 7;have Wm:w4.frozen? ⟨w.heap.size+1,7,Y⟩=false:=by simp[Ih,iu]
 have q8:=af iu 8;have Wn:w4.frozen? ⟨w.heap.size+1,8,Y⟩=false:=by simp[Ih,iu]
 have q9:=af iu 9;have Wo:w4.frozen? ⟨w.heap.size+1,9,Y⟩=false:=by simp[Ih,iu]
 have q10:=af iu 10;have BJ:w4.frozen? ⟨w.heap.size+1,10,Y⟩=false:=by simp[Ih,iu]
 have q11:=af iu 11;have BK:w4.frozen? ⟨w.heap.size+1,11,Y⟩=false:=by simp[Ih,iu]
 clear rV iu iS lR Nb HFK;by_cases zt:er=0;rotate_left
 .have amJ:(er !=0)=true:=by simpa using zt
  have HEZ:Hid _:=zt;clear zt;go_wp2_with fail;refine Iy (v:=Il #[Ip #[I ⟨#[]⟩,I ⟨#[]⟩,U Y 0 0,U Y 0 0,U Y 0 0,U Y 0 0,O J 0,O J 0,O J 0,O J 0,O J 0,U Y 0 0],O J er]) ?_ rfl ?_
  .simp[results,Tryz.results45,go_sem,q0,q1,q2,q3,q4,q5,q6,q7,q8,q9,q10,q11]
  .unfold jU
   refine⟨?_,.inr (.inl ⟨rfl,HEZ.out,rfl⟩)⟩;exact Mj (De.out.tC (Nat.le_succ _) _ _ _ _ _ _ _ _ _ _ _ _)
 obtain⟨n',⟨xm,xr,xs,xg,xw,hgk,hown,agS,mU⟩,hRR⟩:=NY.out zt;subst zt;have tD:Hid _:=hown;have GL:Hid (R n' w4):=hRR;have yk:Hid _:=mU;obtain⟨im2,jm2,rq,_⟩:=ax hown.ms;obtain⟨ir2,jr2,xi,_⟩:=ax hown.rs;obtain⟨is2,js2,BL,_⟩:=ax hown.sv;obtain⟨ig2,jg2,BM,_⟩:=ax hown.gw;obtain⟨ih2,jh2,BN,_⟩:=ax hown.wh;subst rq xi BL BM BN;obtain⟨p0,p1,p2,p3,p4,p5,p6,p7,p8,p9,p10,p11⟩:=bT hgk;clear hown hRR mU agS hgk NY;obtain⟨n2,c2,ms2,rs2,SO,gw2,⟨qx,qy,qz,qh,qq⟩,wh2⟩:=n';simp only at p0 p1 p2 p3 p4 p5 p6 p7 p8 p9 p10 p11;go_wp2_with fail;refine Iy (v:=Il #[Ip #[I n2,I c2,U im2 ms2.length jm2,U ir2 rs2.length jr2,U is2 SO.length js2,U ig2 gw2.length jg2,O J qx,O J qy,O J qz,O J qh,O J qq,U ih2 wh2.length jh2],O J 0]) ?_ rfl ?_
 .simp[results,Tryz.results45,go_sem,q0,q1,q2,q3,q4,q5,q6,q7,q8,q9,q10,q11]
 unfold jU;refine⟨?_,.inr (.inr ⟨rfl,rfl,⟨n2,c2,ms2,rs2,SO,gw2,⟨qx,qy,qz,qh,qq⟩,wh2⟩,_,_,_,_,_,rfl,⟨?_,?_,?_,?_,?_⟩,yk.out,?_⟩)⟩
 .exact Mj (De.out.tC (Nat.le_succ _) _ _ _ _ _ _ _ _ _ _ _ _)
 .exact Own.mono (bK (tD.out.ms) (by simp) _ _ _ _ _ _ _ _ _ _ _ _) (by omega)
 .exact bX.base (bK (tD.out.rs) (by simp) _ _ _ _ _ _ _ _ _ _ _ _) (by omega)
 .exact Sv.Own.mono (bK (tD.out.sv) (by simp) _ _ _ _ _ _ _ _ _ _ _ _) (by omega)
 .exact Gw.Own.mono (bK (tD.out.gw) (by simp) _ _ _ _ _ _ _ _ _ _ _ _) (by omega)
 .exact Wh.Own.mono (bK (tD.out.wh) (by simp) _ _ _ _ _ _ _ _ _ _ _ _) (by omega)
 .exact HR.out _ _ 11 _ (HR.out _ _ 10 _ (HR.out _ _ 9 _ (HR.out _ _ 8 _ (HR.out _ _ 7 _ (HR.out _ _ 6 _ (HR.out _ _ 5 _ (HR.out _ _ 4 _ (HR.out _ _ 3 _ (HR.out _ _ 2 _ (HR.out _ _ 1 _ (HR.out _ _ 0 _ (GL.out))))))))))))
def lO(ne er:Int)(n':Nd)(S:Nat->Prop)(R:World->Prop)(w:World)(e:Ending)(w':World):Prop:=Sh S w w' /\
 ((ne≠0/\e=sh (Il #[Ip #[I ⟨#[]⟩,I ⟨#[]⟩,U Y 0 0,U Y 0 0,U Y 0 0,U Y 0 0,O J 0,O J 0,O J 0,O J 0,O J 0,U Y 0 0],O J ne]))\/(ne=0/\er≠0/\e=sh (Il #[Ip #[I ⟨#[]⟩,I ⟨#[]⟩,U Y 0 0,U Y 0 0,U Y 0 0,U Y 0 0,O J 0,O J 0,O J 0,O J 0,O J 0,U Y 0 0],O J er])) \/
 (ne=0/\er=0/\∃um ur us ug uw,e=sh (Il #[Ip (fB n' um ur us ug uw),O J 0])/\gT w.heap.size w' n' um ur us ug uw/\ri n'/\R w'))
theorem zu(kf:Nat)(cs:Array Value)(eg:∀args w,(callFunc kf args).run Tryz.prog w=.ok (.enter kf args) w)(n:Nd)(vm vr vs vg vw:Value)(w:World)(h:ix w n vm vr vs vg vw)(S:Nat->Prop)(er:Int)(n':Nd)(R:World->Prop)(hF:n.e=0->∀W b,Below w.heap.size w W->w.heap.size+2<=b->Wk (w.heap.size+2) W b n->aT kf (#[.pointer (Z ⟨b,0,Y⟩)]++cs) W λe w'=>e=sh (O J er)/\Sh (λk=>w.heap.size+2<=k\/S k) W w'/\(er=0->Wk (w.heap.size+2) w' b n'/\R w'))(hR:∀W j x,R W->R (W.setCell ⟨w.heap.size+1,j,Y⟩ x))(hS:∀k,S k->k<w.heap.size) :
 aT 45 #[Ip (fB n vm vr vs vg vw),.func (.func kf) #[] cs] w λe w'=>lO n.e er n' S R w e w':=by
 refine(vP kf cs eg n vm vr vs vg vw w h S er (λk W=>k=n'/\R W) (λhe W b h1 h2 h3=>(hF he W b h1 h2 h3).mono ?_) (λk W j x h=>⟨h.1,hR W j x h.2⟩) hS).mono ?_
 .rintro e w' ⟨h4,h5,h6⟩
  exact⟨h4,h5,λh=>⟨n',(h6 h).1,rfl,(h6 h).2⟩⟩
 .rintro e w' ⟨rV,xq⟩
  refine⟨rV,?_⟩;rcases xq with⟨h1,_,h2⟩|h1|⟨h1,h2,k,um,ur,us,ug,uw,h3,h4,h5,rfl,h6⟩
  .exact .inl ⟨h1,h2⟩
  .exact .inr (.inl h1)
  .exact .inr (.inr ⟨h1,h2,um,ur,us,ug,uw,h3,h4,h5,h6⟩)
end Go.Proofs.YtfidjlcdlakceaaGreatDoor
