import Derived.Test.YtbfghimjdlpicaaGreatDoorna14
set_option maxHeartbeats 25600000
set_option maxRecDepth 100000
open Option renaming none→be,some→AI
open Go.Ending renaming returned→AT
open Go.Value renaming tuple→Ip,agg→Ik,string→Y,slice→J,int→U
open Go.IntKind renaming i64→O
open Go renaming heap_alloc_new→Ij,bodyPost_ret→IL
open Array renaming getElem?_eq_some_iff→BY
open Go.World renaming frozen?→It
namespace Go.Proofs.YtbfghimjdlpicaaGreatDoor
open Go.RowKit
theorem MJ{S:Nat->Prop}{w w':World}(h:Sh (λk=>S k\/w.heap.size<=k) w w'):Sh S w w':=by
 refine⟨h.os,h.tape,h.output,h.size,λk hk hn=>h.block k hk ?_⟩;rintro(e|e)
 .exact hn e
 .omega
theorem Sh.j7{S:Nat->Prop}{L:Nat}{a w:World}(h:Sh (λk=>S k\/L<=k) a w){b i:Nat}(hb:L<=b)(x:Value):Sh (λk=>S k\/L<=k) a (w.setCell ⟨b,i,be⟩ x):=h.setCell (S:=λk=>S k\/L<=k) (.inr hb) x
theorem Sh.uZ{S:Nat->Prop}{L:Nat}{a w:World}(h:Sh (λk=>S k\/L<=k) a w){b:Nat}(hb:L<=b)(x0 x1 x2 x3 x4 x5 x6 x7 x8 x9 x10 x11:Value):Sh (λk=>S k\/L<=k) a ((((((((((((w.setCell ⟨b,0,be⟩ x0).setCell ⟨b,1,be⟩ x1).setCell ⟨b,2,be⟩ x2).setCell ⟨b,3,be⟩ x3).setCell ⟨b,4,be⟩ x4).setCell ⟨b,5,be⟩ x5).setCell ⟨b,6,be⟩ x6).setCell ⟨b,7,be⟩ x7).setCell ⟨b,8,be⟩ x8).setCell ⟨b,9,be⟩ x9).setCell ⟨b,10,be⟩ x10).setCell ⟨b,11,be⟩ x11):=((((((((((((h).j7 (i:=0) hb _).j7 (i:=1) hb _).j7 (i:=2) hb _).j7 (i:=3) hb _).j7 (i:=4) hb _).j7 (i:=5) hb _).j7 (i:=6) hb _).j7 (i:=7) hb _).j7 (i:=8) hb _).j7 (i:=9) hb _).j7 (i:=10) hb _).j7 (i:=11) hb _
def mm(ne er:Int)(S:Nat->Prop)(R:Nd->World->Prop)(w:World)(e:Ending)(w':World):Prop:=Sh S w w' /\
 ((ne≠0/\Below w.heap.size w w'/\e=AT (Ip #[Ik #[Y ⟨#[]⟩,Y ⟨#[]⟩,J be 0 0,J be 0 0,J be 0 0,J be 0 0,U O 0,U O 0,U O 0,U O 0,U O 0,J be 0 0],U O ne]))\/(ne=0/\er≠0/\e=AT (Ip #[Ik #[Y ⟨#[]⟩,Y ⟨#[]⟩,J be 0 0,J be 0 0,J be 0 0,J be 0 0,U O 0,U O 0,U O 0,U O 0,U O 0,J be 0 0],U O er])) \/
 (ne=0/\er=0/\∃n' um ur us ug uw,e=AT (Ip #[Ik (dE n' um ur us ug uw),U O 0])/\cZ w.heap.size w' n' um ur us ug uw/\iE n'/\R n' w'))
theorem xW(kf:Nat)(cs:Array Value)(eg:∀args w,(callFunc kf args).run Tryz.prog w=.ok (.enter kf args) w)(n:Nd)(vm vr vs vg vw:Value)(w:World)(h:eY w n vm vr vs vg vw)(S:Nat->Prop)(er:Int)(R:Nd->World->Prop)(hF:n.e=0->∀W b,Below w.heap.size w W->w.heap.size+2<=b->Wk (w.heap.size+2) W b n->aK kf (#[.pointer (AI ⟨b,0,be⟩)]++cs) W λe w'=>e=AT (U O er)/\Sh (λk=>w.heap.size+2<=k\/S k) W w'/\(er=0->∃n',Wk (w.heap.size+2) w' b n'/\R n' w'))(hR:∀n' W j x,R n' W->R n' (W.setCell ⟨w.heap.size+1,j,be⟩ x))(hS:∀k,S k->k<w.heap.size) :
 aK 32 #[Ik (dE n vm vr vs vg vw),.func (.func kf) #[] cs] w λe w'=>mm n.e er S R w e w':=by
 have nL:Hid _:=h;have mK:Hid _:=h.ok;have od:Hid (∀W,Below w.heap.size w W->aK _ _ _ _):=λW hW=>qo n vm vr vs vg vw W (h.below hW);have MK:Hid (n.e=0->∀W,Below w.heap.size w W->aK 31 #[Ik (dE n vm vr vs vg vw)] W λe w'=>∃um ur us ug uw,e=AT (Ik (dE n um ur us ug uw))/\cZ W.heap.size w' n um ur us ug uw/\Below W.heap.size W w'):=λhe W hW=>by
  have hp:=Nd.parts (Nd.aD he).1;have l1:=(aj hp.ms).1;have l2:=(mW hp.rs).1;have l3:=(Sv.aj hp.sv).1;have l4:=(Gw.aj hp.gw).1;have l5:=(Wh.aj hp.wh).1;exact sH n vm vr vs vg vw W (h.below hW) (by omega) (by omega) (by omega) (by omega) (by omega)
 have HF:Hid _:=hF;have HR:Hid _:=hR;have HSL:Hid _:=hS;clear hF hR hS;obtain⟨nm,ct,ms,rs,sv,gw,⟨px,py,pz,ph,pq⟩,wh⟩:=n;obtain⟨⟨em,cm,rfl,_,_⟩,⟨sJ,cr,rfl,_,_⟩,⟨es,sK,rfl,_,_⟩,⟨sL,cg,rfl,_,_⟩,⟨eh,ch,rfl,_,_⟩,_,_⟩:=h;simp only[dE] at od MK ⊢;generalize Bg:ms.length=km at *;have Hkm:Hid _:=Bg;generalize C5:rs.length=kr at *;have Hkr:Hid _:=C5;generalize We:sv.length=ks at *;have Hks:Hid _:=We;generalize Ws:gw.length=kg at *;have Hkg:Hid _:=Ws;generalize hkh:wh.length=kh at *;have Hkh:Hid _:=hkh;clear Bg C5 We Ws hkh;have Vb:Hid (∃ne,ne=Nd.e ⟨nm,ct,ms,rs,sv,gw,⟨px,py,pz,ph,pq⟩,wh⟩):=⟨_,rfl⟩;generalize Nd.e ⟨nm,ct,ms,rs,sv,gw,⟨px,py,pz,ph,pq⟩,wh⟩=ne at *;obtain⟨W0,bP⟩:∃W0,W0=(w.alloc (.cells #[Y nm,Y ct,J em km cm,J sJ kr cr,J es ks sK,J sL kg cg,U O px,U O py,U O pz,U O ph,U O pq,J eh kh ch] 50)).alloc (.cells #[Y ⟨#[]⟩,Y ⟨#[]⟩,J be 0 0,J be 0 0,J be 0 0,J be 0 0,U O 0,U O 0,U O 0,U O 0,U O 0,J be 0 0] 50):=⟨_,rfl⟩;have bK:Below w.heap.size w W0:=by rw[bP];exact((Below.refl _ _).alloc (Nat.le_refl _) _).alloc (by simp) _
 have dX:W0.heap[w.heap.size]?=AI (.cells #[Y nm,Y ct,J em km cm,J sJ kr cr,J es ks sK,J sL kg cg,U O px,U O py,U O pz,U O ph,U O pq,J eh kh ch] 50 (0,0)):=by
  rw[bP,Below.heap_alloc _ _ _ (by simp)];exact Ij w _
 have dt:W0.heap[w.heap.size+1]?=AI (.cells #[Y ⟨#[]⟩,Y ⟨#[]⟩,J be 0 0,J be 0 0,J be 0 0,J be 0 0,U O 0,U O 0,U O 0,U O 0,U O 0,J be 0 0] 50 (0,0)):=by
  have h:=Ij (w.alloc (.cells #[Y nm,Y ct,J em km cm,J sJ kr cr,J es ks sK,J sL kg cg,U O px,U O py,U O pz,U O ph,U O pq,J eh kh ch] 50)) (.cells #[Y ⟨#[]⟩,Y ⟨#[]⟩,J be 0 0,J be 0 0,J be 0 0,J be 0 0,U O 0,U O 0,U O 0,U O 0,U O 0,J be 0 0] 50);rw[bP];simpa using h
 have fj:W0.heap.size=w.heap.size+2:=by rw[bP];simp
 have df:Hid _:=bK;have Aq:Hid _:=dX;have pC:Hid _:=dt;clear bK dX dt;go_enter Tryz.func32,Tryz.ntmps32;go_wp2_with fail;rw[<- bP];clear bP;refine(od.out W0 df.out).mono ?_;rintro e w1 ⟨rfl,aC⟩;have cI:=(aC.block _ (by omega)).trans Aq.out;have dD:=(aC.block _ (by omega)).trans pC.out;have aZ:Hid _:=df.out.trans (aC.mono (by omega));have fO:=(BY.1 dD).1;have q0:=ae dD 0;have xX:w1.frozen? ⟨w.heap.size+1,0,be⟩=false:=by simp[It,dD]
 have q1:=ae dD 1;have xY:w1.frozen? ⟨w.heap.size+1,1,be⟩=false:=by simp[It,dD]
 have q2:=ae dD 2;have zd:w1.frozen? ⟨w.heap.size+1,2,be⟩=false:=by simp[It,dD]
 have q3:=ae dD 3;have ze:w1.frozen? ⟨w.heap.size+1,3,be⟩=false:=by simp[It,dD]
 have q4:=ae dD 4;have zh:w1.frozen? ⟨w.heap.size+1,4,be⟩=false:=by simp[It,dD]
 have q5:=ae dD 5;have zi:w1.frozen? ⟨w.heap.size+1,5,be⟩=false:=by simp[It,dD]
 have q6:=ae dD 6;have Fc:w1.frozen? ⟨w.heap.size+1,6,be⟩=false:=by simp[It,dD]
 have q7:=ae dD 7;have Fe:w1.frozen? ⟨w.heap.size+1,7,be⟩=false:=by simp[It,dD]
 have q8:=ae dD 8;have Ff:w1.frozen? ⟨w.heap.size+1,8,be⟩=false:=by simp[It,dD]
 have q9:=ae dD 9;have Fg:w1.frozen? ⟨w.heap.size+1,9,be⟩=false:=by simp[It,dD]
 have q10:=ae dD 10;have rH:w1.frozen? ⟨w.heap.size+1,10,be⟩=false:=by simp[It,dD]
 have q11:=ae dD 11;have rI:w1.frozen? ⟨w.heap.size+1,11,be⟩=false:=by simp[It,dD]
 obtain⟨p0,p1,p2,p3,p4,p5,p6,p7,p8,p9,p10,p11⟩:=bQ cI;have Lz:Hid _:=dD;clear aC cI dD;by_cases aP:ne=0;rotate_left
 .have Wt:(ne !=0)=true:=by simpa using aP
  have HNZ:Hid _:=aP;have zj:Hid (Sh (λk=>S k\/w.heap.size<=k) w w1):=.of aZ.out;clear aP;go_wp2_with fail;refine IL (v:=Ip #[Ik #[Y ⟨#[]⟩,Y ⟨#[]⟩,J be 0 0,J be 0 0,J be 0 0,J be 0 0,U O 0,U O 0,U O 0,U O 0,U O 0,J be 0 0],U O ne]) ?_ rfl ?_
  .simp[results,Tryz.results32,go_sem,q0,q1,q2,q3,q4,q5,q6,q7,q8,q9,q10,q11]
  .unfold mm
   refine⟨?_,.inl ⟨HNZ.out,?_,rfl⟩⟩
   .exact MJ (zj.out.uZ (Nat.le_succ _) _ _ _ _ _ _ _ _ _ _ _ _)
   .exact oq aZ.out (by simp) _ _ _ _ _ _ _ _ _ _ _ _
 subst aP;have GU:=MK.out rfl w1 aZ.out;have wJ:Hid (∀W b,Below w.heap.size w W->w.heap.size+2<=b->Wk (w.heap.size+2) W b ⟨nm,ct,ms,rs,sv,gw,⟨px,py,pz,ph,pq⟩,wh⟩->aK _ _ _ _):=HF.out rfl;clear HF MK;go_wp2_with fail;refine GU.mono ?_;rintro e w2 ⟨um,ur,us,ug,uw,rfl,fS,aL⟩;obtain⟨im,jm,ou,_⟩:=aE fS.ms;obtain⟨ir,jr,vc,_⟩:=aE fS.rs;obtain⟨is_,js,tS,_⟩:=aE fS.sv;obtain⟨ig,jg,zk,_⟩:=aE fS.gw;obtain⟨ih,jh,GV,_⟩:=aE fS.wh;simp only at ou vc tS zk GV;rw[Hkm.out] at ou;rw[Hkr.out] at vc;rw[Hks.out] at tS;rw[Hkg.out] at zk;rw[Hkh.out] at GV;subst ou vc tS zk GV;obtain⟨W3,ee⟩:∃W3,W3=w2.alloc (.cells #[Y nm,Y ct,J im km jm,J ir kr jr,J is_ ks js,J ig kg jg,U O px,U O py,U O pz,U O ph,U O pq,J ih kh jh] 107):=⟨_,rfl⟩;have bA:Hid _:=aZ.out.trans (aL.mono (by omega));have cF:Hid (Below w.heap.size w W3):=by rw[ee];exact bA.out.alloc bA.out.size _
 have jb:=aL.size;have tR:W3.heap.size=w2.heap.size+1:=by rw[ee];simp
 have C8:Below w2.heap.size w2 W3:=by rw[ee];exact(Below.refl _ _).alloc (Nat.le_refl _) _
 have qV:Hid _:=(C8.block _ (by omega)).trans ((aL.block _ (by omega)).trans Lz.out);have aX:∀{v:Value} {k:Nat},v.ownBlock=AI k->k<w2.heap.size->v.ownBlock≠AI w2.heap.size:=λh hk e=>by rw[h] at e;cases e;omega
 have rJ:Hid (Wk (w.heap.size+2) W3 w2.heap.size ⟨nm,ct,ms,rs,sv,gw,⟨px,py,pz,ph,pq⟩,wh⟩):=by
  refine⟨_,_,_,_,_,?_,⟨(fS.ms.below C8).mono (by omega),(fS.rs.below C8).base (by omega),(fS.sv.below C8).mono (by omega),(fS.gw.below C8).mono (by omega),(fS.wh.below C8).mono (by omega)⟩,⟨λe=>?_,λe=>?_,λe=>?_,λe=>?_,λe=>?_⟩,mK.out⟩
  .rw[ee];exact Ij w2 _
  .have:=(fS.ms.lt _ e).2;omega
  .have:=(fS.rs.lt _ e).2;omega
  .have:=(fS.sv.lt _ e).2;omega
  .have:=(fS.gw.lt _ e).2;omega
  .have:=(fS.wh.lt _ e).2;omega
 have HFC:=wJ.out W3 w2.heap.size cF.out (by omega) rJ.out;clear fS aL C8 aX q0 xX q1 xY q2 zd q3 ze q4 zh q5 zi q6 Fc q7 Fe q8 Ff q9 Fg q10 rH q11 rI p0 p1 p2 p3 p4 p5 p6 p7 p8 p9 p10 p11;go_wp2_with fail;rw[<- ee];refine HFC.mono ?_;rintro e w4 ⟨rfl,Ck,vd⟩;have zj:Hid (Sh (λk=>S k\/w.heap.size<=k) w w4):=(Sh.of cF.out).trans (Ck.mono (λk hk=>hk.elim (λh=>.inr (by omega)) (λh=>.inl h)));have nP:=(Ck.block _ (by omega) (λhk=>hk.elim (λh=>by omega) (λh=>by have:=HSL.out _ h;omega))).trans qV.out;have iO:Hid _:=vd;have Bc:=(BY.1 nP).1;have q0:=ae nP 0;have xX:w4.frozen? ⟨w.heap.size+1,0,be⟩=false:=by simp[It,nP]
 have q1:=ae nP 1;have xY:w4.frozen? ⟨w.heap.size+1,1,be⟩=false:=by simp[It,nP]
 have q2:=ae nP 2;have zd:w4.frozen? ⟨w.heap.size+1,2,be⟩=false:=by simp[It,nP]
 have q3:=ae nP 3;have ze:w4.frozen? ⟨w.heap.size+1,3,be⟩=false:=by simp[It,nP]
 have q4:=ae nP 4;have zh:w4.frozen? ⟨w.heap.size+1,4,be⟩=false:=by simp[It,nP]
 have q5:=ae nP 5;have zi:w4.frozen? ⟨w.heap.size+1,5,be⟩=false:=by simp[It,nP]
 have q6:=ae nP 6;have Fc:w4.frozen? ⟨w.heap.size+1,6,be⟩=false:=by simp[It,nP]
 have q7:=ae nP 7;have Fe:w4.frozen? ⟨w.heap.size+1,7,be⟩=false:=by simp[It,nP]
 have q8:=ae nP 8;have Ff:w4.frozen? ⟨w.heap.size+1,8,be⟩=false:=by simp[It,nP]
 have q9:=ae nP 9;have Fg:w4.frozen? ⟨w.heap.size+1,9,be⟩=false:=by simp[It,nP]
 have q10:=ae nP 10;have rH:w4.frozen? ⟨w.heap.size+1,10,be⟩=false:=by simp[It,nP]
 have q11:=ae nP 11;have rI:w4.frozen? ⟨w.heap.size+1,11,be⟩=false:=by simp[It,nP]
 clear Ck nP vd ee HFC GU;by_cases Bh:er=0;rotate_left
 .have anV:(er !=0)=true:=by simpa using Bh
  have HEZ:Hid _:=Bh;clear Bh;go_wp2_with fail;refine IL (v:=Ip #[Ik #[Y ⟨#[]⟩,Y ⟨#[]⟩,J be 0 0,J be 0 0,J be 0 0,J be 0 0,U O 0,U O 0,U O 0,U O 0,U O 0,J be 0 0],U O er]) ?_ rfl ?_
  .simp[results,Tryz.results32,go_sem,q0,q1,q2,q3,q4,q5,q6,q7,q8,q9,q10,q11]
  .unfold mm
   refine⟨?_,.inr (.inl ⟨rfl,HEZ.out,rfl⟩)⟩;exact MJ (zj.out.uZ (Nat.le_succ _) _ _ _ _ _ _ _ _ _ _ _ _)
 obtain⟨n',⟨xm,xr,xs,xg,xw,hgk,hown,agY,gP⟩,hRR⟩:=iO.out Bh;subst Bh;have ML:Hid _:=hown;have HRR:Hid (R n' w4):=hRR;have agZ:Hid _:=gP;obtain⟨im2,jm2,ou,_⟩:=aE hown.ms;obtain⟨ir2,jr2,vc,_⟩:=aE hown.rs;obtain⟨is2,js2,tS,_⟩:=aE hown.sv;obtain⟨ig2,jg2,zk,_⟩:=aE hown.gw;obtain⟨ih2,jh2,GV,_⟩:=aE hown.wh;subst ou vc tS zk GV;obtain⟨p0,p1,p2,p3,p4,p5,p6,p7,p8,p9,p10,p11⟩:=bQ hgk;clear hown hRR gP agY hgk iO;obtain⟨n2,c2,ms2,rs2,sv2,gw2,⟨qx,qy,qz,qh,qq⟩,wh2⟩:=n';simp only at p0 p1 p2 p3 p4 p5 p6 p7 p8 p9 p10 p11;go_wp2_with fail;refine IL (v:=Ip #[Ik #[Y n2,Y c2,J im2 ms2.length jm2,J ir2 rs2.length jr2,J is2 sv2.length js2,J ig2 gw2.length jg2,U O qx,U O qy,U O qz,U O qh,U O qq,J ih2 wh2.length jh2],U O 0]) ?_ rfl ?_
 .simp[results,Tryz.results32,go_sem,q0,q1,q2,q3,q4,q5,q6,q7,q8,q9,q10,q11]
 unfold mm;refine⟨?_,.inr (.inr ⟨rfl,rfl,⟨n2,c2,ms2,rs2,sv2,gw2,⟨qx,qy,qz,qh,qq⟩,wh2⟩,_,_,_,_,_,rfl,⟨?_,?_,?_,?_,?_⟩,agZ.out,?_⟩)⟩
 .exact MJ (zj.out.uZ (Nat.le_succ _) _ _ _ _ _ _ _ _ _ _ _ _)
 .exact Own.mono (dw (ML.out.ms) (by simp) _ _ _ _ _ _ _ _ _ _ _ _) (by omega)
 .exact cV.base (dw (ML.out.rs) (by simp) _ _ _ _ _ _ _ _ _ _ _ _) (by omega)
 .exact Sv.Own.mono (dw (ML.out.sv) (by simp) _ _ _ _ _ _ _ _ _ _ _ _) (by omega)
 .exact Gw.Own.mono (dw (ML.out.gw) (by simp) _ _ _ _ _ _ _ _ _ _ _ _) (by omega)
 .exact Wh.Own.mono (dw (ML.out.wh) (by simp) _ _ _ _ _ _ _ _ _ _ _ _) (by omega)
 .exact HR.out _ _ 11 _ (HR.out _ _ 10 _ (HR.out _ _ 9 _ (HR.out _ _ 8 _ (HR.out _ _ 7 _ (HR.out _ _ 6 _ (HR.out _ _ 5 _ (HR.out _ _ 4 _ (HR.out _ _ 3 _ (HR.out _ _ 2 _ (HR.out _ _ 1 _ (HR.out _ _ 0 _ (HRR.out))))))))))))
def fZ(ne er:Int)(n':Nd)(S:Nat->Prop)(R:World->Prop)(w:World)(e:Ending)(w':World):Prop:=Sh S w w' /\
 ((ne≠0/\e=AT (Ip #[Ik #[Y ⟨#[]⟩,Y ⟨#[]⟩,J be 0 0,J be 0 0,J be 0 0,J be 0 0,U O 0,U O 0,U O 0,U O 0,U O 0,J be 0 0],U O ne]))\/(ne=0/\er≠0/\e=AT (Ip #[Ik #[Y ⟨#[]⟩,Y ⟨#[]⟩,J be 0 0,J be 0 0,J be 0 0,J be 0 0,U O 0,U O 0,U O 0,U O 0,U O 0,J be 0 0],U O er])) \/
 (ne=0/\er=0/\∃um ur us ug uw,e=AT (Ip #[Ik (dE n' um ur us ug uw),U O 0])/\cZ w.heap.size w' n' um ur us ug uw/\iE n'/\R w'))
theorem jM(kf:Nat)(cs:Array Value)(eg:∀args w,(callFunc kf args).run Tryz.prog w=.ok (.enter kf args) w)(n:Nd)(vm vr vs vg vw:Value)(w:World)(h:eY w n vm vr vs vg vw)(S:Nat->Prop)(er:Int)(n':Nd)(R:World->Prop)(hF:n.e=0->∀W b,Below w.heap.size w W->w.heap.size+2<=b->Wk (w.heap.size+2) W b n->aK kf (#[.pointer (AI ⟨b,0,be⟩)]++cs) W λe w'=>e=AT (U O er)/\Sh (λk=>w.heap.size+2<=k\/S k) W w'/\(er=0->Wk (w.heap.size+2) w' b n'/\R w'))(hR:∀W j x,R W->R (W.setCell ⟨w.heap.size+1,j,be⟩ x))(hS:∀k,S k->k<w.heap.size) :
 aK 32 #[Ik (dE n vm vr vs vg vw),.func (.func kf) #[] cs] w λe w'=>fZ n.e er n' S R w e w':=by
 refine(xW kf cs eg n vm vr vs vg vw w h S er (λk W=>k=n'/\R W) (λhe W b h1 h2 h3=>(hF he W b h1 h2 h3).mono ?_) (λk W j x h=>⟨h.1,hR W j x h.2⟩) hS).mono ?_
 .rintro e w' ⟨h4,h5,h6⟩
  exact⟨h4,h5,λh=>⟨n',(h6 h).1,rfl,(h6 h).2⟩⟩
 .rintro e w' ⟨Ck,Ra⟩
  refine⟨Ck,?_⟩;rcases Ra with⟨h1,_,h2⟩|h1|⟨h1,h2,k,um,ur,us,ug,uw,h3,h4,h5,rfl,h6⟩
  .exact .inl ⟨h1,h2⟩
  .exact .inr (.inl h1)
  .exact .inr (.inr ⟨h1,h2,um,ur,us,ug,uw,h3,h4,h5,h6⟩)
end Go.Proofs.YtbfghimjdlpicaaGreatDoor
