import Derived.Test.YtipbebleapjcjaaGreatDoornc16
import Derived.Shelf.SlSortCmp.SmallK
set_option maxHeartbeats 25600000
set_option maxRecDepth 100000
open Array renaming extract_size->UC,getElem?_eq_some_iff->Ig,getElem?_modify->On
open Go renaming Ending->QG,bodyPost_ret->IE,callFunc->Q6,heap_alloc_new->Ii,maxLen->Il,ownsRow_setCell_other->IN,rounds_succ->JF,wpList_append_own->IY,wp_loop_rounds->J2
open Go.Addr.mk renaming injEq->JV
open Go.Builtin renaming clear_->Q4,zeroCells->Q1
open Go.Ending renaming returned->Ia
open Go.IntKind renaming i64->J
open Go.Joins renaming block_setCell->It
open Go.Obj renaming cells->Ib
open Go.Proofs renaming cell?_sortWorld_other->Qx,enters_of->QF,sortWorld->Uf,sortWorldK->QT
open Go.Proofs.Tryz renaming func165->Qz,isAgg0->Qe,isAgg137->QB,isAgg256->QC,isAgg3->No,isAgg4->OE,isAgg5->Qw,isAgg9->Oj,ntmps165->Qg,prog->AT,sizeOf0->OZ,sizeOf137->Qp,sizeOf256->Qq,sizeOf3->JY,sizeOf4->Oo,sizeOf5->Qd,sizeOf9->J8,underlying0->Oe,underlying137->OK,underlying22->OW,underlying256->OL,underlying258->Ux,underlying3->IH,underlying4->Jo,underlying5->JA,underlying9->IF,zeroValue0->Oq,zeroValue137->OU,zeroValue256->OV,zeroValue3->J0,zeroValue4->J1,zeroValue5->OF,zeroValue9->Ob
open Go.RowKit renaming ownsRow_setCell_below->Io
open Go.RowKit.Below renaming heap_alloc->Iv,heap_setCell->IC,refl->If
open Go.Sort renaming ahead->Ju,heap_grow_old->QZ
open Go.Value renaming agg->Iu,bool->Ic,func->JD,int->O,pointer->Ik,slice->sh,string->I,tuple->Ir
open Go.Value.slice renaming injEq->IM
open Go.World renaming block_lt_of_cell?->II,cell?_setCell_far->UE,frozen?->Ij,new_ne->Jn,ownsRow->Oy,setCell->Ui
open Go.World.ownsRow renaming cellAt->ON,frozenAt->JE,lt->I3,stored->M2
open List renaming append_nil->QM,eq_nil_of_length_eq_zero->I5,filter_append->JJ,foldl_cons->Ut,getD->Ip,getElem?_eq_getElem->Ih,getElem?_eq_none->IK,getElem?_set_ne->OO,getElem?_set_self->QO,getElem?_take_of_lt->IQ,getElem_mem->IU,getElem_of_mem->I2,length_map->I8,length_nil->OH,length_set->Jm,length_take->IA,mem_map->Ot,pairwise_iff_getElem->Jy,range->J5,take_succ_eq_append_getElem->Iz
open Nat renaming le_refl->By,le_trans->IB,zero_add->I6,zero_le->Iw
open Option renaming none->U,some->AI
open Option.some renaming injEq->Jd
open Go.Proofs.Tryz
namespace Go.Proofs.YtipbebleapjcjaaGreatDoor
open Go.RowKit
theorem ae8{S:Nat->Prop}{w w':World}(h:Sh (λk=>S k\/w.heap.size<=k) w w'):Sh S w w':=by
 refine⟨h.os,h.tape,h.output,h.size,λk hk hn=>h.block k hk ?_⟩;rintro(e|e)
 .exact hn e
 .omega
theorem Sh.uO{S:Nat->Prop}{L:Nat}{a w:World}(h:Sh (λk=>S k\/L<=k) a w){b i:Nat}(hb:L<=b)(x:Value):Sh (λk=>S k\/L<=k) a (w.setCell ⟨b,i,U⟩ x):=h.setCell (S:=λk=>S k\/L<=k) (.inr hb) x
theorem Sh.Gk{S:Nat->Prop}{L:Nat}{a w:World}(h:Sh (λk=>S k\/L<=k) a w){b:Nat}(hb:L<=b)(x0 x1 x2 x3 x4 x5 x6 x7 x8 x9 x10 x11:Value):Sh (λk=>S k\/L<=k) a ((((((((((((w.setCell ⟨b,0,U⟩ x0).setCell ⟨b,1,U⟩ x1).setCell ⟨b,2,U⟩ x2).setCell ⟨b,3,U⟩ x3).setCell ⟨b,4,U⟩ x4).setCell ⟨b,5,U⟩ x5).setCell ⟨b,6,U⟩ x6).setCell ⟨b,7,U⟩ x7).setCell ⟨b,8,U⟩ x8).setCell ⟨b,9,U⟩ x9).setCell ⟨b,10,U⟩ x10).setCell ⟨b,11,U⟩ x11):=((((((((((((h).uO (i:=0) hb _).uO (i:=1) hb _).uO (i:=2) hb _).uO (i:=3) hb _).uO (i:=4) hb _).uO (i:=5) hb _).uO (i:=6) hb _).uO (i:=7) hb _).uO (i:=8) hb _).uO (i:=9) hb _).uO (i:=10) hb _).uO (i:=11) hb _
def xA(ne er:Int)(S:Nat->Prop)(R:Nd->World->Prop)(w:World)(e:QG)(w':World):Prop:=Sh S w w' /\
 ((ne≠0/\Below w.heap.size w w'/\e=Ia (Ir #[Iu #[I ⟨#[]⟩,I ⟨#[]⟩,sh U 0 0,sh U 0 0,sh U 0 0,sh U 0 0,O J 0,O J 0,O J 0,O J 0,O J 0,sh U 0 0],O J ne]))\/(ne=0/\er≠0/\e=Ia (Ir #[Iu #[I ⟨#[]⟩,I ⟨#[]⟩,sh U 0 0,sh U 0 0,sh U 0 0,sh U 0 0,O J 0,O J 0,O J 0,O J 0,O J 0,sh U 0 0],O J er])) \/
 (ne=0/\er=0/\∃n' um ur us ug uw,e=Ia (Ir #[Iu (sR n' um ur us ug uw),O J 0])/\uB w.heap.size w' n' um ur us ug uw/\Eb n'/\R n' w'))
theorem KN(kf:Nat)(cs:Array Value)(eg:∀args w,(Q6 kf args).run AT w=.ok (.enter kf args) w)(n:Nd)(vm vr vs vg vw:Value)(w:World)(h:uL w n vm vr vs vg vw)(S:Nat->Prop)(er:Int)(R:Nd->World->Prop)(hF:n.e=0->∀W b,Below w.heap.size w W->w.heap.size+2<=b->Wk (w.heap.size+2) W b n->ni kf (#[Ik (AI ⟨b,0,U⟩)]++cs) W λe w'=>e=Ia (O J er)/\Sh (λk=>w.heap.size+2<=k\/S k) W w'/\(er=0->∃n',Wk (w.heap.size+2) w' b n'/\R n' w'))(hR:∀n' W j x,R n' W->R n' (W.setCell ⟨w.heap.size+1,j,U⟩ x))(hS:∀k,S k->k<w.heap.size) :
 ni 53 #[Iu (sR n vm vr vs vg vw),JD (.func kf) #[] cs] w λe w'=>xA n.e er S R w e w':=by
 have xY:Hid _:=h.ok;have yt:Hid (∀W,Below w.heap.size w W->ni _ _ _ _):=λW hW=>A6 n vm vr vs vg vw W (h.below hW);have Lf:Hid (n.e=0->∀W,Below w.heap.size w W->ni 52 #[Iu (sR n vm vr vs vg vw)] W λe w'=>∃um ur us ug uw,e=Ia (Iu (sR n um ur us ug uw))/\uB W.heap.size w' n um ur us ug uw/\Below W.heap.size W w'):=λhe W hW=>by
  have hp:=Nd.parts (Nd.wM he).1;have l1:=(mU hp.ms).1;have l2:=(wA hp.rs).1;have l3:=(Sv.mU hp.sv).1;have l4:=(Gw.mU hp.gw).1;have l5:=(Wh.mU hp.wh).1;exact Ky n vm vr vs vg vw W (h.below hW) (by omega) (by omega) (by omega) (by omega) (by omega)
 have HF:Hid _:=hF;have HR:Hid _:=hR;have HSL:Hid _:=hS;clear hF hR hS;obtain⟨nm,ct,ms,rs,sv,gw,⟨px,py,pz,ph,pq⟩,wh⟩:=n;obtain⟨⟨em,cm,rfl,_,_⟩,⟨PJ,cr,rfl,_,_⟩,⟨es,PK,rfl,_,_⟩,⟨PM,cg,rfl,_,_⟩,⟨eh,ch,rfl,_,_⟩,_,_⟩:=h;simp only[sR] at yt Lf ⊢;generalize K8:ms.length=km at *;have Hkm:Hid _:=K8;generalize hkr:rs.length=kr at *;have Hkr:Hid _:=hkr;generalize hks:sv.length=ks at *;have Hks:Hid _:=hks;generalize hkg:gw.length=kg at *;have Hkg:Hid _:=hkg;generalize hkh:wh.length=kh at *;have Hkh:Hid _:=hkh;clear K8 hkr hks hkg hkh;generalize Nd.e ⟨nm,ct,ms,rs,sv,gw,⟨px,py,pz,ph,pq⟩,wh⟩=ne at *;obtain⟨W0,rm⟩:∃W0,W0=(w.alloc (Ib #[I nm,I ct,sh em km cm,sh PJ kr cr,sh es ks PK,sh PM kg cg,O J px,O J py,O J pz,O J ph,O J pq,sh eh kh ch] 30)).alloc (Ib #[I ⟨#[]⟩,I ⟨#[]⟩,sh U 0 0,sh U 0 0,sh U 0 0,sh U 0 0,O J 0,O J 0,O J 0,O J 0,O J 0,sh U 0 0] 30):=⟨_,rfl⟩;have rG:Below w.heap.size w W0:=by rw[rm];exact((If _ _).alloc (By _) _).alloc (by simp) _
 have pS:W0.heap[w.heap.size]?=AI (Ib #[I nm,I ct,sh em km cm,sh PJ kr cr,sh es ks PK,sh PM kg cg,O J px,O J py,O J pz,O J ph,O J pq,sh eh kh ch] 30 (0,0)):=by
  rw[rm,Iv _ _ _ (by simp)];exact Ii w _
 have oS:W0.heap[w.heap.size+1]?=AI (Ib #[I ⟨#[]⟩,I ⟨#[]⟩,sh U 0 0,sh U 0 0,sh U 0 0,sh U 0 0,O J 0,O J 0,O J 0,O J 0,O J 0,sh U 0 0] 30 (0,0)):=by
  have h:=Ii (w.alloc (Ib #[I nm,I ct,sh em km cm,sh PJ kr cr,sh es ks PK,sh PM kg cg,O J px,O J py,O J pz,O J ph,O J pq,sh eh kh ch] 30)) (Ib #[I ⟨#[]⟩,I ⟨#[]⟩,sh U 0 0,sh U 0 0,sh U 0 0,sh U 0 0,O J 0,O J 0,O J 0,O J 0,O J 0,sh U 0 0] 30);rw[rm];simpa using h
 have Ct:W0.heap.size=w.heap.size+2:=by rw[rm];simp
 have pN:Hid _:=rG;have Kj:Hid _:=pS;have Wl:Hid _:=oS;clear rG pS oS;go_enter func53,ntmps53;go_wp2_with fail;rw[<- rm];clear rm;refine(yt.out W0 pN.out).mono ?_;rintro e w1 ⟨rfl,mO⟩;have ou:=(mO.block _ (by omega)).trans Kj.out;have pC:=(mO.block _ (by omega)).trans Wl.out;have mY:Hid _:=pN.out.trans (mO.mono (by omega));have sj:=(Ig.1 pC).1;have q0:=fi pC 0;have qz0:w1.frozen? ⟨w.heap.size+1,0,U⟩=false:=by simp[Ij,pC]
 have q1:=fi pC 1;have qz1:w1.frozen? ⟨w.heap.size+1,1,U⟩=false:=by simp[Ij,pC]
 have q2:=fi pC 2;have qz2:w1.frozen? ⟨w.heap.size+1,2,U⟩=false:=by simp[Ij,pC]
 have q3:=fi pC 3;have qz3:w1.frozen? ⟨w.heap.size+1,3,U⟩=false:=by simp[Ij,pC]
 have q4:=fi pC 4;have qz4:w1.frozen? ⟨w.heap.size+1,4,U⟩=false:=by simp[Ij,pC]
 have q5:=fi pC 5;have qz5:w1.frozen? ⟨w.heap.size+1,5,U⟩=false:=by simp[Ij,pC]
 have q6:=fi pC 6;have qz6:w1.frozen? ⟨w.heap.size+1,6,U⟩=false:=by simp[Ij,pC]
 have q7:=fi pC 7;have qz7:w1.frozen? ⟨w.heap.size+1,7,U⟩=false:=by simp[Ij,pC]
 have q8:=fi pC 8;have qz8:w1.frozen? ⟨w.heap.size+1,8,U⟩=false:=by simp[Ij,pC]
 have q9:=fi pC 9;have qz9:w1.frozen? ⟨w.heap.size+1,9,U⟩=false:=by simp[Ij,pC]
 have q10:=fi pC 10;have TV:w1.frozen? ⟨w.heap.size+1,10,U⟩=false:=by simp[Ij,pC]
 have q11:=fi pC 11;have TW:w1.frozen? ⟨w.heap.size+1,11,U⟩=false:=by simp[Ij,pC]
 obtain⟨p0,p1,p2,p3,p4,p5,p6,p7,p8,p9,p10,p11⟩:=oA ou;have Tq:Hid _:=pC;clear mO ou pC;by_cases nK:ne=0;rotate_left
 .have amr:(ne !=0)=true:=by simpa using nK
  have HNZ:Hid _:=nK;have Wm:Hid (Sh (λk=>S k\/w.heap.size<=k) w w1):=.of mY.out;clear nK;go_wp2_with fail;refine IE (v:=Ir #[Iu #[I ⟨#[]⟩,I ⟨#[]⟩,sh U 0 0,sh U 0 0,sh U 0 0,sh U 0 0,O J 0,O J 0,O J 0,O J 0,O J 0,sh U 0 0],O J ne]) ?_ rfl ?_
  .simp[results,results53,go_sem,q0,q1,q2,q3,q4,q5,q6,q7,q8,q9,q10,q11]
  .unfold xA
   refine⟨?_,.inl ⟨HNZ.out,?_,rfl⟩⟩
   .exact ae8 (Wm.out.Gk (Nat.le_succ _) _ _ _ _ _ _ _ _ _ _ _ _)
   .exact th mY.out (by simp) _ _ _ _ _ _ _ _ _ _ _ _
 subst nK;have HFK:=Lf.out rfl w1 mY.out;have zy:Hid (∀W b,Below w.heap.size w W->w.heap.size+2<=b->Wk (w.heap.size+2) W b ⟨nm,ct,ms,rs,sv,gw,⟨px,py,pz,ph,pq⟩,wh⟩->ni _ _ _ _):=HF.out rfl;clear HF Lf;go_wp2_with fail;refine HFK.mono ?_;rintro e w2 ⟨um,ur,us,ug,uw,rfl,xW,mZ⟩;obtain⟨im,jm,Ec,_⟩:=mR xW.ms;obtain⟨ir,jr,LI,_⟩:=mR xW.rs;obtain⟨is_,js,TZ,_⟩:=mR xW.sv;obtain⟨ig,jg,T0,_⟩:=mR xW.gw;obtain⟨ih,jh,T1,_⟩:=mR xW.wh;simp only at Ec LI TZ T0 T1;rw[Hkm.out] at Ec;rw[Hkr.out] at LI;rw[Hks.out] at TZ;rw[Hkg.out] at T0;rw[Hkh.out] at T1;subst Ec LI TZ T0 T1;obtain⟨W3,sN⟩:∃W3,W3=w2.alloc (Ib #[I nm,I ct,sh im km jm,sh ir kr jr,sh is_ ks js,sh ig kg jg,O J px,O J py,O J pz,O J ph,O J pq,sh ih kh jh] 41):=⟨_,rfl⟩;have nR:Hid _:=mY.out.trans (mZ.mono (by omega));have oT:Hid (Below w.heap.size w W3):=by rw[sN];exact nR.out.alloc nR.out.size _
 have AP:=mZ.size;have V0:W3.heap.size=w2.heap.size+1:=by rw[sN];simp
 have T2:Below w2.heap.size w2 W3:=by rw[sN];exact(If _ _).alloc (By _) _
 have tu:Hid _:=(T2.block _ (by omega)).trans ((mZ.block _ (by omega)).trans Tq.out);have mS:∀{v:Value} {k:Nat},v.ownBlock=AI k->k<w2.heap.size->v.ownBlock≠AI w2.heap.size:=λh hk e=>by rw[h] at e;cases e;omega
 have NV:Hid (Wk (w.heap.size+2) W3 w2.heap.size ⟨nm,ct,ms,rs,sv,gw,⟨px,py,pz,ph,pq⟩,wh⟩):=by
  refine⟨_,_,_,_,_,?_,⟨(xW.ms.below T2).mono (by omega),(xW.rs.below T2).base (by omega),(xW.sv.below T2).mono (by omega),(xW.gw.below T2).mono (by omega),(xW.wh.below T2).mono (by omega)⟩,⟨λe=>?_,λe=>?_,λe=>?_,λe=>?_,λe=>?_⟩,xY.out⟩
  .rw[sN];exact Ii w2 _
  .have:=(xW.ms.lt _ e).2;omega
  .have:=(xW.rs.lt _ e).2;omega
  .have:=(xW.sv.lt _ e).2;omega
  .have:=(xW.gw.lt _ e).2;omega
  .have:=(xW.wh.lt _ e).2;omega
 have Wu:=zy.out W3 w2.heap.size oT.out (by omega) NV.out;clear xW mZ T2 mS q0 qz0 q1 qz1 q2 qz2 q3 qz3 q4 qz4 q5 qz5 q6 qz6 q7 qz7 q8 qz8 q9 qz9 q10 TV q11 TW p0 p1 p2 p3 p4 p5 p6 p7 p8 p9 p10 p11;go_wp2_with fail;rw[<- sN];refine Wu.mono ?_;rintro e w4 ⟨rfl,EJ,yg⟩;have Wm:Hid (Sh (λk=>S k\/w.heap.size<=k) w w4):=(Sh.of oT.out).trans (EJ.mono (λk hk=>hk.elim (λh=>.inr (by omega)) (λh=>.inl h)));have uZ:=(EJ.block _ (by omega) (λhk=>hk.elim (λh=>by omega) (λh=>by have:=HSL.out _ h;omega))).trans tu.out;have Hc:Hid _:=yg;have Lh:=(Ig.1 uZ).1;have q0:=fi uZ 0;have qz0:w4.frozen? ⟨w.heap.size+1,0,U⟩=false:=by simp[Ij,uZ]
 have q1:=fi uZ 1;have qz1:w4.frozen? ⟨w.heap.size+1,1,U⟩=false:=by simp[Ij,uZ]
 have q2:=fi uZ 2;have qz2:w4.frozen? ⟨w.heap.size+1,2,U⟩=false:=by simp[Ij,uZ]
 have q3:=fi uZ 3;have qz3:w4.frozen? ⟨w.heap.size+1,3,U⟩=false:=by simp[Ij,uZ]
 have q4:=fi uZ 4;have qz4:w4.frozen? ⟨w.heap.size+1,4,U⟩=false:=by simp[Ij,uZ]
 have q5:=fi uZ 5;have qz5:w4.frozen? ⟨w.heap.size+1,5,U⟩=false:=by simp[Ij,uZ]
 have q6:=fi uZ 6;have qz6:w4.frozen? ⟨w.heap.size+1,6,U⟩=false:=by simp[Ij,uZ]
 have q7:=fi uZ 7;have qz7:w4.frozen? ⟨w.heap.size+1,7,U⟩=false:=by simp[Ij,uZ]
 have q8:=fi uZ 8;have qz8:w4.frozen? ⟨w.heap.size+1,8,U⟩=false:=by simp[Ij,uZ]
 have q9:=fi uZ 9;have qz9:w4.frozen? ⟨w.heap.size+1,9,U⟩=false:=by simp[Ij,uZ]
 have q10:=fi uZ 10;have TV:w4.frozen? ⟨w.heap.size+1,10,U⟩=false:=by simp[Ij,uZ]
 have q11:=fi uZ 11;have TW:w4.frozen? ⟨w.heap.size+1,11,U⟩=false:=by simp[Ij,uZ]
 clear EJ uZ yg sN Wu HFK;by_cases PN:er=0;rotate_left
 .have aEr:(er !=0)=true:=by simpa using PN
  have HEZ:Hid _:=PN;clear PN;go_wp2_with fail;refine IE (v:=Ir #[Iu #[I ⟨#[]⟩,I ⟨#[]⟩,sh U 0 0,sh U 0 0,sh U 0 0,sh U 0 0,O J 0,O J 0,O J 0,O J 0,O J 0,sh U 0 0],O J er]) ?_ rfl ?_
  .simp[results,results53,go_sem,q0,q1,q2,q3,q4,q5,q6,q7,q8,q9,q10,q11]
  .unfold xA
   refine⟨?_,.inr (.inl ⟨rfl,HEZ.out,rfl⟩)⟩;exact ae8 (Wm.out.Gk (Nat.le_succ _) _ _ _ _ _ _ _ _ _ _ _ _)
 obtain⟨n',⟨xm,xr,xs,xg,xw,hgk,hown,awy,tR⟩,hRR⟩:=Hc.out PN;subst PN;have Gl:Hid _:=hown;have HRR:Hid (R n' w4):=hRR;have N9:Hid _:=tR;obtain⟨im2,jm2,Ec,_⟩:=mR hown.ms;obtain⟨ir2,jr2,LI,_⟩:=mR hown.rs;obtain⟨is2,js2,TZ,_⟩:=mR hown.sv;obtain⟨ig2,jg2,T0,_⟩:=mR hown.gw;obtain⟨ih2,jh2,T1,_⟩:=mR hown.wh;subst Ec LI TZ T0 T1;obtain⟨p0,p1,p2,p3,p4,p5,p6,p7,p8,p9,p10,p11⟩:=oA hgk;clear hown hRR tR awy hgk Hc;obtain⟨n2,c2,ms2,rs2,sv2,gw2,⟨qx,qy,qz,qh,qq⟩,wh2⟩:=n';simp only at p0 p1 p2 p3 p4 p5 p6 p7 p8 p9 p10 p11;go_wp2_with fail;refine IE (v:=Ir #[Iu #[I n2,I c2,sh im2 ms2.length jm2,sh ir2 rs2.length jr2,sh is2 sv2.length js2,sh ig2 gw2.length jg2,O J qx,O J qy,O J qz,O J qh,O J qq,sh ih2 wh2.length jh2],O J 0]) ?_ rfl ?_
 .simp[results,results53,go_sem,q0,q1,q2,q3,q4,q5,q6,q7,q8,q9,q10,q11]
 unfold xA;refine⟨?_,.inr (.inr ⟨rfl,rfl,⟨n2,c2,ms2,rs2,sv2,gw2,⟨qx,qy,qz,qh,qq⟩,wh2⟩,_,_,_,_,_,rfl,⟨?_,?_,?_,?_,?_⟩,N9.out,?_⟩)⟩
 .exact ae8 (Wm.out.Gk (Nat.le_succ _) _ _ _ _ _ _ _ _ _ _ _ _)
 .exact Own.mono (oi (Gl.out.ms) (by simp) _ _ _ _ _ _ _ _ _ _ _ _) (by omega)
 .exact oE.base (oi (Gl.out.rs) (by simp) _ _ _ _ _ _ _ _ _ _ _ _) (by omega)
 .exact Sv.Own.mono (oi (Gl.out.sv) (by simp) _ _ _ _ _ _ _ _ _ _ _ _) (by omega)
 .exact Gw.Own.mono (oi (Gl.out.gw) (by simp) _ _ _ _ _ _ _ _ _ _ _ _) (by omega)
 .exact Wh.Own.mono (oi (Gl.out.wh) (by simp) _ _ _ _ _ _ _ _ _ _ _ _) (by omega)
 .exact HR.out _ _ 11 _ (HR.out _ _ 10 _ (HR.out _ _ 9 _ (HR.out _ _ 8 _ (HR.out _ _ 7 _ (HR.out _ _ 6 _ (HR.out _ _ 5 _ (HR.out _ _ 4 _ (HR.out _ _ 3 _ (HR.out _ _ 2 _ (HR.out _ _ 1 _ (HR.out _ _ 0 _ (HRR.out))))))))))))
def yX(ne er:Int)(n':Nd)(S:Nat->Prop)(R:World->Prop)(w:World)(e:QG)(w':World):Prop:=Sh S w w' /\
 ((ne≠0/\e=Ia (Ir #[Iu #[I ⟨#[]⟩,I ⟨#[]⟩,sh U 0 0,sh U 0 0,sh U 0 0,sh U 0 0,O J 0,O J 0,O J 0,O J 0,O J 0,sh U 0 0],O J ne]))\/(ne=0/\er≠0/\e=Ia (Ir #[Iu #[I ⟨#[]⟩,I ⟨#[]⟩,sh U 0 0,sh U 0 0,sh U 0 0,sh U 0 0,O J 0,O J 0,O J 0,O J 0,O J 0,sh U 0 0],O J er])) \/
 (ne=0/\er=0/\∃um ur us ug uw,e=Ia (Ir #[Iu (sR n' um ur us ug uw),O J 0])/\uB w.heap.size w' n' um ur us ug uw/\Eb n'/\R w'))
theorem PO(kf:Nat)(cs:Array Value)(eg:∀args w,(Q6 kf args).run AT w=.ok (.enter kf args) w)(n:Nd)(vm vr vs vg vw:Value)(w:World)(h:uL w n vm vr vs vg vw)(S:Nat->Prop)(er:Int)(n':Nd)(R:World->Prop)(hF:n.e=0->∀W b,Below w.heap.size w W->w.heap.size+2<=b->Wk (w.heap.size+2) W b n->ni kf (#[Ik (AI ⟨b,0,U⟩)]++cs) W λe w'=>e=Ia (O J er)/\Sh (λk=>w.heap.size+2<=k\/S k) W w'/\(er=0->Wk (w.heap.size+2) w' b n'/\R w'))(hR:∀W j x,R W->R (W.setCell ⟨w.heap.size+1,j,U⟩ x))(hS:∀k,S k->k<w.heap.size) :
 ni 53 #[Iu (sR n vm vr vs vg vw),JD (.func kf) #[] cs] w λe w'=>yX n.e er n' S R w e w':=by
 refine(KN kf cs eg n vm vr vs vg vw w h S er (λk W=>k=n'/\R W) (λhe W b h1 h2 h3=>(hF he W b h1 h2 h3).mono ?_) (λk W j x h=>⟨h.1,hR W j x h.2⟩) hS).mono ?_
 .rintro e w' ⟨h4,h5,h6⟩
  exact⟨h4,h5,λh=>⟨n',(h6 h).1,rfl,(h6 h).2⟩⟩
 .rintro e w' ⟨EJ,Er⟩
  refine⟨EJ,?_⟩;rcases Er with⟨h1,_,h2⟩|h1|⟨h1,h2,k,um,ur,us,ug,uw,h3,h4,h5,rfl,h6⟩
  .exact .inl ⟨h1,h2⟩
  .exact .inr (.inl h1)
  .exact .inr (.inr ⟨h1,h2,um,ur,us,ug,uw,h3,h4,h5,h6⟩)
def tM(ne er:Int)(n':Nd)(w:World)(e:QG)(w':World):Prop:=Below w.heap.size w w' /\
 ((ne≠0/\e=Ia (Ir #[Iu #[I ⟨#[]⟩,I ⟨#[]⟩,sh U 0 0,sh U 0 0,sh U 0 0,sh U 0 0,O J 0,O J 0,O J 0,O J 0,O J 0,sh U 0 0],O J ne]))\/(ne=0/\er≠0/\e=Ia (Ir #[Iu #[I ⟨#[]⟩,I ⟨#[]⟩,sh U 0 0,sh U 0 0,sh U 0 0,sh U 0 0,O J 0,O J 0,O J 0,O J 0,O J 0,sh U 0 0],O J er])) \/
 (ne=0/\er=0/\∃um ur us ug uw,e=Ia (Ir #[Iu (sR n' um ur us ug uw),O J 0])/\uB w.heap.size w' n' um ur us ug uw/\Eb n'))
theorem yX.wrap{ne er:Int}{n':Nd}{w W0 w1:World}{e:QG}{rb:Nat}(h:yX ne er n' (λ_=>False) (λ_=>True) W0 e w1)(hb:Below w.heap.size w W0)(hz:W0.heap[rb]?=AI (Ib #[I ⟨#[]⟩,I ⟨#[]⟩,sh U 0 0,sh U 0 0,sh U 0 0,sh U 0 0,O J 0,O J 0,O J 0,O J 0,O J 0,sh U 0 0] 30 (0,0)))(hle:w.heap.size<=rb) :
 w1.heap[rb]?=AI (Ib #[I ⟨#[]⟩,I ⟨#[]⟩,sh U 0 0,sh U 0 0,sh U 0 0,sh U 0 0,O J 0,O J 0,O J 0,O J 0,O J 0,sh U 0 0] 30 (0,0))/\∃u0 u1 b2 m2 e2 b3 m3 e3 b4 m4 e4 b5 m5 e5 u6 u7 u8 u9 u10 b11 m11 e11 r,e=Ia (Ir #[Iu #[I u0,I u1,sh b2 m2 e2,sh b3 m3 e3,sh b4 m4 e4,sh b5 m5 e5,O J u6,O J u7,O J u8,O J u9,O J u10,sh b11 m11 e11],O J r])/\Hid (tM ne er n' w (Ia (Ir #[Iu #[I u0,I u1,sh b2 m2 e2,sh b3 m3 e3,sh b4 m4 e4,sh b5 m5 e5,O J u6,O J u7,O J u8,O J u9,O J u10,sh b11 m11 e11],O J r])) (pH rb [I u0,I u1,sh b2 m2 e2,sh b3 m3 e3,sh b4 m4 e4,sh b5 m5 e5,O J u6,O J u7,O J u8,O J u9,O J u10,sh b11 m11 e11] 0 w1)):=by
 obtain⟨EJ,Er⟩:=h;have mS:=(Ig.1 hz).1;have mO:=EJ.below (By _) (λ_ hk=>hk.elim);have mZ:=hb.trans (mO.mono hb.size);refine⟨(mO.block _ mS).trans hz,?_⟩;rcases Er with⟨nK,rfl⟩|⟨nK,PN,rfl⟩|⟨nK,PN,um,ur,us,ug,uw,rfl,hown,tR,_⟩
 .exact⟨_,_,_,_,_,_,_,_,_,_,_,_,_,_,_,_,_,_,_,_,_,_,_,rfl,o9 hle _ _ mZ,.inl ⟨nK,rfl⟩⟩
 .exact⟨_,_,_,_,_,_,_,_,_,_,_,_,_,_,_,_,_,_,_,_,_,_,_,rfl,o9 hle _ _ mZ,.inr (.inl ⟨nK,PN,rfl⟩)⟩
 .have ho:uB w.heap.size (pH rb [I n'.name,I n'.mM,um,ur,us,ug,O J n'.p.x,O J n'.p.y,O J n'.p.z,O J n'.p.h,O J n'.p.s,uw] 0 w1) n' um ur us ug uw:=⟨Own.mono (oD mS _ _ hown.ms) hb.size,oE.base (oD mS _ _ hown.rs) hb.size,Sv.Own.mono (oD mS _ _ hown.sv) hb.size,Gw.Own.mono (oD mS _ _ hown.gw) hb.size,Wh.Own.mono (oD mS _ _ hown.wh) hb.size⟩
  obtain⟨im2,jm2,Ec,_⟩:=mR hown.ms;obtain⟨ir2,jr2,LI,_⟩:=mR hown.rs;obtain⟨is2,js2,TZ,_⟩:=mR hown.sv;obtain⟨ig2,jg2,T0,_⟩:=mR hown.gw;obtain⟨ih2,jh2,T1,_⟩:=mR hown.wh;subst Ec LI TZ T0 T1;exact⟨_,_,_,_,_,_,_,_,_,_,_,_,_,_,_,_,_,_,_,_,_,_,_,rfl,o9 hle _ _ mZ,.inr (.inr ⟨nK,PN,_,_,_,_,_,rfl,ho,tR⟩)⟩
theorem Nd.sp{n:Nd}(h:n.e=0):Sp n:=⟨(Nd.parts (Nd.wM h).1).ms,(Nd.parts (Nd.wM h).1).rs,(Nd.parts (Nd.wM h).1).name⟩
theorem T3(L b tb:Nat)(n:Nd)(t:ByteArray)(w:World)(h:Wk L w b n)(hL:L<=b)(Wr:Sp n)(ht:t.size<=Il)(hc:w.heap[tb]?=AI (Ib #[I t] 9 (0,0))) :
 ni 56 #[Ik (AI ⟨b,0,U⟩),Ik (AI ⟨tb,0,U⟩)] w λe w'=>e=Ia (O J (wsE n t 1 2))/\Sh (λk=>k=b) w w'/\Hid (wsE n t 1 2=0->Wk L w' b (wsN n t 2)):=by
 have HC:Hid (ni _ _ _ _):=Tx L b n t 1 2 w h hL Wr.ms Wr.rs Wr.name ht rfl;have y0:=fi hc 0;clear h Wr hc;generalize wsE n t 1 2=we at *;go_enter func56,ntmps56;go_wp2_with fail;refine HC.out.mono ?_;rintro e w1 ⟨rfl,hs,hk⟩;have HS:Hid _:=hs;clear hs;go_wp2_with fail;go_ret;exact⟨rfl,HS.out,hk⟩
theorem aaT(n:Nd)(t:ByteArray)(vm vr vs vg vw:Value)(w:World)(h:uL w n vm vr vs vg vw)(ht:t.size<=Il) :
 ni 27 #[Iu (sR n vm vr vs vg vw),I t] w λe w'=>tM n.e (wsE n t 1 2) (wsN n t 2) w e w':=by
 obtain⟨W0,rm⟩:∃W0,W0=w.heap.size:=⟨_,rfl⟩;clear rm W0;have HWS:Hid (∀W0,Below w.heap.size w W0->W0.heap.size=w.heap.size+3->W0.heap[w.heap.size+1]?=AI (Ib #[I t] 9 (0,0))->ni 53 #[Iu (sR n vm vr vs vg vw),JD (.func 56) #[] #[Ik (AI ⟨w.heap.size+1,0,U⟩)]] W0 λe w'=>yX n.e (wsE n t 1 2) (wsN n t 2) (λ_=>False) (λ_=>True) W0 e w'):=λW0 hb hs zq=>
  PO 56 #[Ik (AI ⟨w.heap.size+1,0,U⟩)] (QF func56 (by kernel_rfl) rfl) n vm vr vs vg vw W0 (h.below hb) (λ_=>False) (wsE n t 1 2) (wsN n t 2) (λ_=>True)
   (λhe W b hW mZ hk=>by
    refine(T3 (W0.heap.size+2) b (w.heap.size+1) n t W hk (by omega) (Nd.sp he) ht ((hW.block _ (by omega)).trans zq)).mono ?_;rintro e w' ⟨rfl,hs,hh⟩;exact⟨rfl,hs.mono (λk hk=>.inl (by omega)),λh=>⟨hh.out h,trivial⟩⟩
   ) (λ_ _ _ _=>trivial) (λ_ hk=>hk.elim)
 obtain⟨nm,ct,ms,rs,sv,gw,⟨px,py,pz,ph,pq⟩,wh⟩:=n;obtain⟨⟨em,cm,rfl,_,_⟩,⟨PJ,cr,rfl,_,_⟩,⟨es,PK,rfl,_,_⟩,⟨PM,cg,rfl,_,_⟩,⟨eh,ch,rfl,_,_⟩,_,_⟩:=h;simp only[sR] at HWS ⊢;generalize ms.length=km at *;generalize rs.length=kr at *;generalize sv.length=ks at *;generalize gw.length=kg at *;generalize wh.length=kh at *;generalize Nd.e ⟨nm,ct,ms,rs,sv,gw,⟨px,py,pz,ph,pq⟩,wh⟩=ne at *;generalize wsE ⟨nm,ct,ms,rs,sv,gw,⟨px,py,pz,ph,pq⟩,wh⟩ t 1 2=er at *;generalize wsN ⟨nm,ct,ms,rs,sv,gw,⟨px,py,pz,ph,pq⟩,wh⟩ t 2=n' at *;obtain⟨W0,rm,rG,Ct,hx0,zq,oS⟩:=alA w #[I nm,I ct,sh em km cm,sh PJ kr cr,sh es ks PK,sh PM kg cg,O J px,O J py,O J pz,O J ph,O J pq,sh eh kh ch] #[I t] #[I ⟨#[]⟩,I ⟨#[]⟩,sh U 0 0,sh U 0 0,sh U 0 0,sh U 0 0,O J 0,O J 0,O J 0,O J 0,O J 0,sh U 0 0] 30 9 30;have HWC:=HWS.out W0 rG Ct zq;have pN:Hid _:=rG;have Wl:Hid _:=oS;clear rG Ct hx0 zq oS HWS;go_enter func27,ntmps27;go_wp2_with fail;rw[<- rm];refine HWC.mono ?_;intro e w1 h;obtain⟨pC,u0,u1,b2,m2,e2,b3,m3,e3,b4,m4,e4,b5,m5,e5,u6,u7,u8,u9,u10,b11,m11,e11,r1,rfl,HR⟩:=h.wrap pN.out Wl.out (by omega);obtain⟨q0,q1,q2,q3,q4,q5,q6,q7,q8,q9,q10,q11⟩:=oA pC;obtain⟨qz0,qz1,qz2,qz3,qz4,qz5,qz6,qz7,qz8,qz9,TV,TW⟩:=FH pC;clear h pC HWC rm pN Wl;simp only[pH,I6,Nat.reduceAdd] at HR;go_wp2_with fail;exact IE (v:=Ir #[Iu #[I u0,I u1,sh b2 m2 e2,sh b3 m3 e3,sh b4 m4 e4,sh b5 m5 e5,O J u6,O J u7,O J u8,O J u9,O J u10,sh b11 m11 e11],O J r1]) (by simp[results,results27,go_sem,q0,q1,q2,q3,q4,q5,q6,q7,q8,q9,q10,q11]) rfl HR.out
def nwE(nm ct:ByteArray)(ad:Int):Int:=if(mT nm&&mT ct)=true then(if within ad 0 4294967295=true then 0 else 3) else 1
def nwN(nm ct:ByteArray)(ad:Int)(sv:Bool):Nd:=⟨nm,ct,[⟨nm,1,1,ad,sv⟩],[],[],[],⟨0,0,0,0,1000⟩,[]⟩
theorem WM(nm ct:ByteArray)(ad:Int)(sv:Bool)(w:World)(hn:nm.size<=Il)(hc:ct.size<=Il) :
 ni 24 #[I nm,I ct,O J ad,Ic sv] w λe w'=>tM (nwE nm ct ad) 0 (nwN nm ct ad sv) w e w':=by
 have HE:Hid (nwE nm ct ad=if(mT nm&&mT ct)=true then(if within ad 0 4294967295=true then 0 else 3) else 1):=rfl;obtain⟨W1,uj⟩:∃W1,W1=(w.alloc (Ib #[I ⟨#[]⟩,I ⟨#[]⟩,sh U 0 0,sh U 0 0,sh U 0 0,sh U 0 0,O J 0,O J 0,O J 0,O J 0,O J 0,sh U 0 0] 30)).alloc (Ib #[I nm,I ct] 9):=⟨_,rfl⟩;have ou:W1.heap[w.heap.size+1]?=AI (Ib #[I nm,I ct] 9 (0,0)):=by
  have h:=Ii (w.alloc (Ib #[I ⟨#[]⟩,I ⟨#[]⟩,sh U 0 0,sh U 0 0,sh U 0 0,sh U 0 0,O J 0,O J 0,O J 0,O J 0,O J 0,sh U 0 0] 30)) (Ib #[I nm,I ct] 9);rw[uj];simpa using h
 have pC:W1.heap[w.heap.size]?=AI (Ib #[I ⟨#[]⟩,I ⟨#[]⟩,sh U 0 0,sh U 0 0,sh U 0 0,sh U 0 0,O J 0,O J 0,O J 0,O J 0,O J 0,sh U 0 0] 30 (0,0)):=by
  rw[uj,Iv _ _ _ (by simp)];exact Ii w _
 have sj:W1.heap.size=w.heap.size+2:=by rw[uj];simp
 have mY:Hid (Below w.heap.size w W1):=by rw[uj];exact((If _ _).alloc (By _) _).alloc (by simp) _
 have HL:Hid (ni _ _ _ _):=NN nm ct hn hc _ 2 W1 (fi ou 0) (fi ou 1);obtain⟨q0,q1,q2,q3,q4,q5,q6,q7,q8,q9,q10,q11⟩:=oA pC;obtain⟨qz0,qz1,qz2,qz3,qz4,qz5,qz6,qz7,qz8,qz9,TV,TW⟩:=FH pC;have Th:w.heap.size<W1.heap.size:=by omega
 clear ou pC sj;generalize nwE nm ct ad=ne at *;generalize(mT nm&&mT ct)=lb at *;go_enter func24,ntmps24;go_wp2_with fail;rw[<- uj];refine HL.out.mono ?_;rintro e w1 ⟨rfl,hww⟩;have hwq:=hww.symm;subst hwq;clear uj HL hww;cases lb
 .have HR:Hid (ne=1):=HE.out.trans (by simp)
  go_wp2_with fail;refine IE (v:=Ir #[Iu #[I ⟨#[]⟩,I ⟨#[]⟩,sh U 0 0,sh U 0 0,sh U 0 0,sh U 0 0,O J 0,O J 0,O J 0,O J 0,O J 0,sh U 0 0],O J 1]) ?_ rfl ?_
  .simp[results,results24,go_sem,q0,q1,q2,q3,q4,q5,q6,q7,q8,q9,q10,q11]
  .unfold tM
   exact⟨((((((((((((mY.out).setCell (p:=⟨w.heap.size,0,U⟩) (by simp) _).setCell (p:=⟨w.heap.size,1,U⟩) (by simp) _).setCell (p:=⟨w.heap.size,2,U⟩) (by simp) _).setCell (p:=⟨w.heap.size,3,U⟩) (by simp) _).setCell (p:=⟨w.heap.size,4,U⟩) (by simp) _).setCell (p:=⟨w.heap.size,5,U⟩) (by simp) _).setCell (p:=⟨w.heap.size,6,U⟩) (by simp) _).setCell (p:=⟨w.heap.size,7,U⟩) (by simp) _).setCell (p:=⟨w.heap.size,8,U⟩) (by simp) _).setCell (p:=⟨w.heap.size,9,U⟩) (by simp) _).setCell (p:=⟨w.heap.size,10,U⟩) (by simp) _).setCell (p:=⟨w.heap.size,11,U⟩) (by simp) _,.inl ⟨by rw[HR.out];simp,by rw[HR.out]⟩⟩
 rcases ha:within ad 0 4294967295 with _|_
 .have HR:Hid (ne=3):=HE.out.trans (by simp[ha])
  go_wp2_with (go_at_call 51;refine(qf _ _).mono ?_;rintro e w' ⟨rfl,hx⟩;have hy:=hx.symm;subst hy;rw[ha]);refine IE (v:=Ir #[Iu #[I ⟨#[]⟩,I ⟨#[]⟩,sh U 0 0,sh U 0 0,sh U 0 0,sh U 0 0,O J 0,O J 0,O J 0,O J 0,O J 0,sh U 0 0],O J 3]) ?_ rfl ?_
  .simp[results,results24,go_sem,q0,q1,q2,q3,q4,q5,q6,q7,q8,q9,q10,q11]
  .unfold tM
   exact⟨((((((((((((mY.out).setCell (p:=⟨w.heap.size,0,U⟩) (by simp) _).setCell (p:=⟨w.heap.size,1,U⟩) (by simp) _).setCell (p:=⟨w.heap.size,2,U⟩) (by simp) _).setCell (p:=⟨w.heap.size,3,U⟩) (by simp) _).setCell (p:=⟨w.heap.size,4,U⟩) (by simp) _).setCell (p:=⟨w.heap.size,5,U⟩) (by simp) _).setCell (p:=⟨w.heap.size,6,U⟩) (by simp) _).setCell (p:=⟨w.heap.size,7,U⟩) (by simp) _).setCell (p:=⟨w.heap.size,8,U⟩) (by simp) _).setCell (p:=⟨w.heap.size,9,U⟩) (by simp) _).setCell (p:=⟨w.heap.size,10,U⟩) (by simp) _).setCell (p:=⟨w.heap.size,11,U⟩) (by simp) _,.inl ⟨by rw[HR.out];simp,by rw[HR.out]⟩⟩
 have HR:Hid (ne=0):=HE.out.trans (by simp[ha]);have HEV:Hid (∀V:World,V.heap.size=W1.heap.size->((V.alloc (Ib #[I nm,O J 1,O J 1,O J ad,Ic sv] 55)).alloc (Ib #[I nm,O J 1,O J 1,O J ad,Ic sv] 55)).heap[W1.heap.size+1]?=AI (Ib #[I nm,O J 1,O J 1,O J ad,Ic sv] 55 (0,0))):=λV hV=>by
  have h:=Ii (V.alloc (Ib #[I nm,O J 1,O J 1,O J ad,Ic sv] 55)) (Ib #[I nm,O J 1,O J 1,O J ad,Ic sv] 55);rw[show(V.alloc (Ib #[I nm,O J 1,O J 1,O J ad,Ic sv] 55)).heap.size=W1.heap.size+1 by simp[hV]] at h;exact h
 go_wp2_with (go_at_call 51;refine(qf _ _).mono ?_;rintro e w' ⟨rfl,hx⟩;have hy:=hx.symm;subst hy;rw[ha]);refine IE (v:=Ir #[Iu #[I nm,I ct,sh (AI ⟨W1.heap.size+1,0,U⟩) 1 1,sh U 0 0,sh U 0 0,sh U 0 0,O J 0,O J 0,O J 0,O J 0,O J 1000,sh U 0 0],O J 0]) ?_ rfl ?_
 .simp[results,results24,go_sem,Th,q0,q1,q2,q3,q4,q5,q6,q7,q8,q9,q10,q11]
 .unfold tM
  refine⟨((((((((((((((mY.out).setCell (p:=⟨w.heap.size,0,U⟩) (by simp) _).setCell (p:=⟨w.heap.size,1,U⟩) (by simp) _).setCell (p:=⟨w.heap.size,2,U⟩) (by simp) _).setCell (p:=⟨w.heap.size,3,U⟩) (by simp) _).setCell (p:=⟨w.heap.size,4,U⟩) (by simp) _).setCell (p:=⟨w.heap.size,5,U⟩) (by simp) _).setCell (p:=⟨w.heap.size,6,U⟩) (by simp) _).setCell (p:=⟨w.heap.size,7,U⟩) (by simp) _).setCell (p:=⟨w.heap.size,8,U⟩) (by simp) _).setCell (p:=⟨w.heap.size,9,U⟩) (by simp) _).setCell (p:=⟨w.heap.size,10,U⟩) (by simp) _).setCell (p:=⟨w.heap.size,11,U⟩) (by simp) _).alloc (by simp[Ui];omega) _).alloc (by simp[Ui];omega) _,.inr (.inr ⟨HR.out,rfl,_,_,_,_,_,rfl,⟨?_,Ns _ _,Sv.nh _ _,Gw.nh _ _,Wh.nh _ _⟩,?_⟩)⟩
  .exact EO (ms:=[⟨nm,1,1,ad,sv⟩]) (G:=1) (cur:=#[I nm,O J 1,O J 1,O J ad,Ic sv]) (by omega) (HEV.out _ (by simp[Ui])) rfl (by simp) (by unfold Il;omega) rfl
  .exact⟨λm hm=>by simp[nwN] at hm;subst hm;exact hn,λr hr=>by simp[nwN] at hr,λr hr=>by simp[nwN] at hr,λr hr=>by simp[nwN] at hr,λr hr=>by simp[nwN] at hr,hn,hc⟩
def vp(n:Nd)(ne:Int)(w:World)(e:QG)(w':World):Prop:=Below w.heap.size w w' /\
 ((ne≠0/\e=Ia (Ir #[Iu #[I ⟨#[]⟩,Ic false,sh U 0 0,sh U 0 0,sh U 0 0,sh U 0 0],O J ne])) \/
 (ne=0/\∃um us ug uw,e=Ia (Ir #[Iu #[I n.name,Ic true,um,us,ug,uw],O J 0])/\Own w.heap.size w' um n.ms/\Sv.Own w.heap.size w' us n.sv/\Gw.Own w.heap.size w' ug n.gw/\Wh.Own w.heap.size w' uw n.wh))
theorem aaU(n:Nd)(vm vr vs vg vw:Value)(w:World)(h:uL w n vm vr vs vg vw) :
 ni 25 #[Iu (sR n vm vr vs vg vw)] w λe w'=>vp n n.e w e w':=by
 have yt:Hid (∀W,Below w.heap.size w W->ni _ _ _ _):=λW hW=>A6 n vm vr vs vg vw W (h.below hW);have Lf:Hid (n.e=0->∀W,Below w.heap.size w W->ni 52 #[Iu (sR n vm vr vs vg vw)] W λe w'=>∃um ur us ug uw,e=Ia (Iu (sR n um ur us ug uw))/\uB W.heap.size w' n um ur us ug uw/\Below W.heap.size W w'):=λhe W hW=>by
  have hp:=Nd.parts (Nd.wM he).1;have l1:=(mU hp.ms).1;have l2:=(wA hp.rs).1;have l3:=(Sv.mU hp.sv).1;have l4:=(Gw.mU hp.gw).1;have l5:=(Wh.mU hp.wh).1;exact Ky n vm vr vs vg vw W (h.below hW) (by omega) (by omega) (by omega) (by omega) (by omega)
 obtain⟨nm,ct,ms,rs,sv,gw,⟨px,py,pz,ph,pq⟩,wh⟩:=n;obtain⟨⟨em,cm,rfl,_,_⟩,⟨PJ,cr,rfl,_,_⟩,⟨es,PK,rfl,_,_⟩,⟨PM,cg,rfl,_,_⟩,⟨eh,ch,rfl,_,_⟩,_,_⟩:=h;simp only[sR] at yt Lf ⊢;generalize K8:ms.length=km at *;have Hkm:Hid _:=K8;generalize hkr:rs.length=kr at *;have Hkr:Hid _:=hkr;generalize hks:sv.length=ks at *;have Hks:Hid _:=hks;generalize hkg:gw.length=kg at *;have Hkg:Hid _:=hkg;generalize hkh:wh.length=kh at *;have Hkh:Hid _:=hkh;clear K8 hkr hks hkg hkh;generalize Nd.e ⟨nm,ct,ms,rs,sv,gw,⟨px,py,pz,ph,pq⟩,wh⟩=ne at *;obtain⟨W0,rm⟩:∃W0,W0=(w.alloc (Ib #[I nm,I ct,sh em km cm,sh PJ kr cr,sh es ks PK,sh PM kg cg,O J px,O J py,O J pz,O J ph,O J pq,sh eh kh ch] 30)).alloc (Ib #[I ⟨#[]⟩,Ic false,sh U 0 0,sh U 0 0,sh U 0 0,sh U 0 0] 76):=⟨_,rfl⟩;have rG:Below w.heap.size w W0:=by rw[rm];exact((If _ _).alloc (By _) _).alloc (by simp) _
 have pS:W0.heap[w.heap.size]?=AI (Ib #[I nm,I ct,sh em km cm,sh PJ kr cr,sh es ks PK,sh PM kg cg,O J px,O J py,O J pz,O J ph,O J pq,sh eh kh ch] 30 (0,0)):=by
  rw[rm,Iv _ _ _ (by simp)];exact Ii w _
 have oS:W0.heap[w.heap.size+1]?=AI (Ib #[I ⟨#[]⟩,Ic false,sh U 0 0,sh U 0 0,sh U 0 0,sh U 0 0] 76 (0,0)):=by
  have h:=Ii (w.alloc (Ib #[I nm,I ct,sh em km cm,sh PJ kr cr,sh es ks PK,sh PM kg cg,O J px,O J py,O J pz,O J ph,O J pq,sh eh kh ch] 30)) (Ib #[I ⟨#[]⟩,Ic false,sh U 0 0,sh U 0 0,sh U 0 0,sh U 0 0] 76);rw[rm];simpa using h
 have Ct:W0.heap.size=w.heap.size+2:=by rw[rm];simp
 have pN:Hid _:=rG;have Kj:Hid _:=pS;have Wl:Hid _:=oS;clear rG pS oS;go_enter func25,ntmps25;go_wp2_with fail;rw[<- rm];clear rm;refine(yt.out W0 pN.out).mono ?_;rintro e w1 ⟨rfl,mO⟩;have ou:=(mO.block _ (by omega)).trans Kj.out;have pC:=(mO.block _ (by omega)).trans Wl.out;have mY:Hid _:=pN.out.trans (mO.mono (by omega));have sj:=(Ig.1 pC).1;obtain⟨q0,q1,q2,q3,q4,q5⟩:=xQ pC;obtain⟨qz0,qz1,qz2,qz3,qz4,qz5⟩:=adO pC;obtain⟨p0,p1,p2,p3,p4,p5,p6,p7,p8,p9,p10,p11⟩:=oA ou;have Tq:Hid _:=pC;have vF:Hid _:=ou;clear mO ou pC;by_cases nK:ne=0;rotate_left
 .have amr:(ne !=0)=true:=by simpa using nK
  have HNZ:Hid _:=nK;clear nK;go_wp2_with fail;refine IE (v:=Ir #[Iu #[I ⟨#[]⟩,Ic false,sh U 0 0,sh U 0 0,sh U 0 0,sh U 0 0],O J ne]) ?_ rfl ?_
  .simp[results,results25,go_sem,q0,q1,q2,q3,q4,q5]
  .unfold vp
   exact⟨((((((mY.out).setCell (p:=⟨w.heap.size+1,0,U⟩) (by simp) _).setCell (p:=⟨w.heap.size+1,1,U⟩) (by simp) _).setCell (p:=⟨w.heap.size+1,2,U⟩) (by simp) _).setCell (p:=⟨w.heap.size+1,3,U⟩) (by simp) _).setCell (p:=⟨w.heap.size+1,4,U⟩) (by simp) _).setCell (p:=⟨w.heap.size+1,5,U⟩) (by simp) _,.inl ⟨HNZ.out,rfl⟩⟩
 subst nK;have HFK:=Lf.out rfl w1 mY.out;clear Lf yt;go_wp2_with fail;refine HFK.mono ?_;rintro e w2 ⟨um,ur,us,ug,uw,rfl,xW,mZ⟩;obtain⟨im,jm,Ec,_⟩:=mR xW.ms;obtain⟨ir,jr,LI,_⟩:=mR xW.rs;obtain⟨is_,js,TZ,_⟩:=mR xW.sv;obtain⟨ig,jg,T0,_⟩:=mR xW.gw;obtain⟨ih,jh,T1,_⟩:=mR xW.wh;simp only at Ec LI TZ T0 T1;rw[Hkm.out] at Ec;rw[Hkr.out] at LI;rw[Hks.out] at TZ;rw[Hkg.out] at T0;rw[Hkh.out] at T1;subst Ec LI TZ T0 T1;have AP:=mZ.size;have vR:=(mZ.block _ (by omega)).trans vF.out;have o6:Hid _:=(mZ.block _ (by omega)).trans Tq.out;have nR:Hid _:=mY.out.trans (mZ.mono (by omega));clear p0 p1 p2 p3 p4 p5 p6 p7 p8 p9 p10 p11 q0 qz0 q1 qz1 q2 qz2 q3 qz3 q4 qz4 q5 qz5;obtain⟨p0,p1,p2,p3,p4,p5,p6,p7,p8,p9,p10,p11⟩:=oA vR;obtain⟨pz0,pz1,pz2,pz3,pz4,pz5,pz6,pz7,pz8,pz9,aEt,aEu⟩:=FH vR;have RV:w.heap.size<w2.heap.size:=by omega
 have xC:=o6.out;obtain⟨q0,q1,q2,q3,q4,q5⟩:=xQ xC;obtain⟨qz0,qz1,qz2,qz3,qz4,qz5⟩:=adO xC;have an2:w.heap.size+1<w2.heap.size:=by omega
 have HOm:Hid (Own (w.heap.size+2) w2 (sh im km jm) ms):=xW.ms.mono (by omega);have HOs:Hid (Sv.Own (w.heap.size+2) w2 (sh is_ ks js) sv):=xW.sv.mono (by omega);have HOg:Hid (Gw.Own (w.heap.size+2) w2 (sh ig kg jg) gw):=xW.gw.mono (by omega);have HOh:Hid (Wh.Own (w.heap.size+2) w2 (sh ih kh jh) wh):=xW.wh.mono (by omega);clear xW mZ vR xC HFK;go_wp2_with fail;refine IE (v:=Ir #[Iu #[I nm,Ic true,sh im km jm,sh is_ ks js,sh ig kg jg,sh ih kh jh],O J 0]) ?_ rfl ?_
 .simp[results,results25,go_sem,q0,q1,q2,q3,q4,q5]
 .unfold vp
  refine⟨((((((th nR.out (by omega) _ _ _ _ _ _ _ _ _ _ _ _).setCell (p:=⟨w.heap.size+1,0,U⟩) (by simp) _).setCell (p:=⟨w.heap.size+1,1,U⟩) (by simp) _).setCell (p:=⟨w.heap.size+1,2,U⟩) (by simp) _).setCell (p:=⟨w.heap.size+1,3,U⟩) (by simp) _).setCell (p:=⟨w.heap.size+1,4,U⟩) (by simp) _).setCell (p:=⟨w.heap.size+1,5,U⟩) (by simp) _,.inr ⟨rfl,_,_,_,_,rfl,?_,?_,?_,?_⟩⟩
  .exact Own.mono (Io (Io (Io (Io (Io (Io (oi (HOm.out) (by omega) _ _ _ _ _ _ _ _ _ _ _ _) (a:=⟨w.heap.size+1,0,U⟩) (by simp only;omega) _) (a:=⟨w.heap.size+1,1,U⟩) (by simp only;omega) _) (a:=⟨w.heap.size+1,2,U⟩) (by simp only;omega) _) (a:=⟨w.heap.size+1,3,U⟩) (by simp only;omega) _) (a:=⟨w.heap.size+1,4,U⟩) (by simp only;omega) _) (a:=⟨w.heap.size+1,5,U⟩) (by simp only;omega) _) (by omega)
  .exact Sv.Own.mono (Io (Io (Io (Io (Io (Io (oi (HOs.out) (by omega) _ _ _ _ _ _ _ _ _ _ _ _) (a:=⟨w.heap.size+1,0,U⟩) (by simp only;omega) _) (a:=⟨w.heap.size+1,1,U⟩) (by simp only;omega) _) (a:=⟨w.heap.size+1,2,U⟩) (by simp only;omega) _) (a:=⟨w.heap.size+1,3,U⟩) (by simp only;omega) _) (a:=⟨w.heap.size+1,4,U⟩) (by simp only;omega) _) (a:=⟨w.heap.size+1,5,U⟩) (by simp only;omega) _) (by omega)
  .exact Gw.Own.mono (Io (Io (Io (Io (Io (Io (oi (HOg.out) (by omega) _ _ _ _ _ _ _ _ _ _ _ _) (a:=⟨w.heap.size+1,0,U⟩) (by simp only;omega) _) (a:=⟨w.heap.size+1,1,U⟩) (by simp only;omega) _) (a:=⟨w.heap.size+1,2,U⟩) (by simp only;omega) _) (a:=⟨w.heap.size+1,3,U⟩) (by simp only;omega) _) (a:=⟨w.heap.size+1,4,U⟩) (by simp only;omega) _) (a:=⟨w.heap.size+1,5,U⟩) (by simp only;omega) _) (by omega)
  .exact Wh.Own.mono (Io (Io (Io (Io (Io (Io (oi (HOh.out) (by omega) _ _ _ _ _ _ _ _ _ _ _ _) (a:=⟨w.heap.size+1,0,U⟩) (by simp only;omega) _) (a:=⟨w.heap.size+1,1,U⟩) (by simp only;omega) _) (a:=⟨w.heap.size+1,2,U⟩) (by simp only;omega) _) (a:=⟨w.heap.size+1,3,U⟩) (by simp only;omega) _) (a:=⟨w.heap.size+1,4,U⟩) (by simp only;omega) _) (a:=⟨w.heap.size+1,5,U⟩) (by simp only;omega) _) (by omega)
end Go.Proofs.YtipbebleapjcjaaGreatDoor
namespace Go.Proofs
open Go.Shelf
def Tryz.aaV:Go.Shelf.Ren:=⟨fun|6=>102|15=>158|14=>162|28=>206|29=>207|20=>211|21=>212|22=>213|23=>214|24=>215|25=>216|26=>217|27=>218|46=>244|47=>245|48=>246|49=>247|50=>248|57=>283|n=>n,fun|22=>22|24=>55|25=>162|3=>3|39=>137|0=>0|53=>256|55=>258|4=>4|46=>263|45=>262|50=>42|5=>5|9=>9|66=>284|70=>288|76=>310|77=>311|n=>n,fun|n=>n⟩
theorem Tryz.aqQ:Go.Proofs.SlLaysF0.n6 AT Tryz.aaV:={
 mixed:=by kernel_rfl
 f6:=⟨Tryz.f102.name,by decide,Tryz.func102.trans (congrArg AI (by kernel_rfl))⟩
 f14:=⟨Tryz.f162.name,by decide,Tryz.func162.trans (congrArg AI (by kernel_rfl))⟩
 f15:=Tryz.func158.trans (congrArg AI (by kernel_rfl))
 f20:=⟨Tryz.f211.name,by decide,Tryz.func211.trans (congrArg AI (by kernel_rfl))⟩
 f21:=⟨Tryz.f212.name,by decide,Tryz.func212.trans (congrArg AI (by kernel_rfl))⟩
 f22:=⟨Tryz.f213.name,by decide,Tryz.func213.trans (congrArg AI (by kernel_rfl))⟩
 f23:=⟨Tryz.f214.name,by decide,Tryz.func214.trans (congrArg AI (by kernel_rfl))⟩
 f24:=⟨Tryz.f215.name,by decide,Tryz.func215.trans (congrArg AI (by kernel_rfl))⟩
 f25:=⟨Tryz.f216.name,by decide,Tryz.func216.trans (congrArg AI (by kernel_rfl))⟩
 f26:=⟨Tryz.f217.name,by decide,Tryz.func217.trans (congrArg AI (by kernel_rfl))⟩
 f27:=⟨Tryz.f218.name,by decide,Tryz.func218.trans (congrArg AI (by kernel_rfl))⟩
 f28:=Tryz.func206.trans (congrArg AI (by kernel_rfl))
 f29:=Tryz.func207.trans (congrArg AI (by kernel_rfl))
 f46:=⟨Tryz.f244.name,by decide,Tryz.func244.trans (congrArg AI (by kernel_rfl))⟩
 f47:=Tryz.func245.trans (congrArg AI (by kernel_rfl))
 f48:=Tryz.func246.trans (congrArg AI (by kernel_rfl))
 f49:=⟨Tryz.f247.name,by decide,Tryz.func247.trans (congrArg AI (by kernel_rfl))⟩
 f50:=⟨Tryz.f248.name,by decide,Tryz.func248.trans (congrArg AI (by kernel_rfl))⟩
 f57:=⟨Tryz.f283.name,by decide,Tryz.func283.trans (congrArg AI (by kernel_rfl))⟩
 t0:=Oe
 a0:=Qe
 z0:=OZ
 v0:=Oq
 t3:=IH
 a3:=No
 z3:=JY
 v3:=J0
 t4:=Jo
 a4:=OE
 z4:=Oo
 v4:=J1
 t5:=JA
 a5:=Qw
 z5:=Qd
 v5:=OF
 t9:=IF
 a9:=Oj
 z9:=J8
 v9:=Ob
 t22:=OW
 a22:=isAgg22
 z22:=sizeOf22
 v22:=Tryz.zeroValue22
 t25:=underlying162
 a25:=isAgg162
 z25:=sizeOf162
 v25:=Tryz.zeroValue162
 t39:=OK
 a39:=QB
 z39:=Qp
 v39:=OU
 t45:=underlying262
 a45:=isAgg262
 z45:=sizeOf262
 v45:=Tryz.zeroValue262
 t46:=underlying263
 a46:=isAgg263
 z46:=sizeOf263
 v46:=Tryz.zeroValue263
 t50:=underlying42
 a50:=isAgg42
 z50:=sizeOf42
 v50:=Tryz.zeroValue42
 t53:=OL
 a53:=QC
 z53:=Qq
 v53:=OV
 t55:=Ux
 a55:=isAgg258
 z55:=sizeOf258
 v55:=Tryz.zeroValue258
 t66:=underlying284
 a66:=isAgg284
 z66:=sizeOf284
 v66:=Tryz.zeroValue284
 t70:=underlying288
 a70:=isAgg288
 z70:=sizeOf288
 v70:=Tryz.zeroValue288
 t76:=underlying310
 a76:=isAgg310
 z76:=sizeOf310
 v76:=Tryz.zeroValue310
 t77:=underlying311
 a77:=isAgg311
 z77:=sizeOf311
 v77:=Tryz.zeroValue311 }
end Go.Proofs
namespace Go.Proofs.YtipbebleapjcjaaGreatDoor
open Go.RowKit
def Gm(a b:Int):Int:=if a<b then -1 else if b<a then 1 else 0
theorem Md(a b:Int)(w:World) :
 Calls AT 210 #[O J a,O J b] w λe w'=>e=Ia (O J (Gm a b))/\w'=w:=by
 go_enter func210,ntmps210;go_wp2;all_goals
  go_ret;exact⟨mN (by unfold Gm;(repeat' split)<;>omega),rfl⟩
def orZ(a b:Int):Int:=if a=0 then b else a
theorem Sj(a b:Int)(g:Nat)(c:Nat)(w:World)(h0:w.cell? ⟨g,0,U⟩=AI (O J a))(h1:w.cell? ⟨g,1,U⟩=AI (O J b)) :
 Calls AT 165 #[sh (AI ⟨g,0,U⟩) 2 c] w λe w'=>e=Ia (O J (orZ a b))/\w'=w:=by
 by_cases ha:a=0
 .subst ha
  by_cases hb:b=0
  .subst hb
   go_enter Qz,Qg;go_wp2_with fail;refine J2 3 ?_;rw[JF];go_wp2_with fail;rw[JF];go_wp2_with fail;rw[JF];go_wp2_with fail;go_ret;exact⟨rfl,rfl⟩
  .have hb':(b !=0)=true:=by simpa using hb
   go_enter Qz,Qg;go_wp2_with fail;refine J2 3 ?_;rw[JF];go_wp2_with fail;rw[JF];go_wp2_with fail;go_ret;exact⟨rfl,rfl⟩
 .have ha':(a !=0)=true:=by simpa using ha
  go_enter Qz,Qg;go_wp2_with fail;refine J2 3 ?_;rw[JF];go_wp2_with fail;go_ret;exact⟨mN (by unfold orZ;rw[if_neg ha]),rfl⟩
def cfR(rs:List nQ)(i k:Nat):Int:=orZ (Gm (rs.getD i dr).told (rs.getD k dr).told) (Gm k i)
theorem aaW(ti tk:Int)(lb b off n ca i k:Nat)(w:World)(hl:w.cell? ⟨lb,0,U⟩=AI (sh (AI ⟨b,off,U⟩) n ca))(hi:i<n)(hk:k<n)(hti:w.cell? ⟨b,off+i*6+5,U⟩=AI (O J ti))(htk:w.cell? ⟨b,off+k*6+5,U⟩=AI (O J tk)) :
 Calls AT 209 #[O J i,O J k,Ik (AI ⟨lb,0,U⟩)] w λe w'=>e=Ia (O J (orZ (Gm ti tk) (Gm k i)))/\w'=(w.alloc (Ib #[O J (Gm ti tk),O J (Gm k i)] 3)).drew:=by
 have qg:(0:Int)<=(i:Int):=Int.natCast_nonneg _;have XC:(i:Int)<(n:Int):=by omega
 have Ni:(0:Int)<=(k:Int):=Int.natCast_nonneg _;have hk1:(k:Int)<(n:Int):=by omega
 have h1:=Jn w _ hl;have h2:=Jn w _ hti;have h3:=Jn w _ htk;go_enter func209,ntmps209;go_wp2_with fail;go_region_held3 (λw'=>w'.cell? ⟨lb,0,U⟩=AI (sh (AI ⟨b,off,U⟩) n ca)/\w'.cell? ⟨b,off+i*6+5,U⟩=AI (O J ti)/\w'.cell? ⟨b,off+k*6+5,U⟩=AI (O J tk)) (go_keep) (first|(go_at_call 210;refine(Md _ _ _).mono ?_;rintro e w' ⟨rfl,rfl⟩)|(go_at_call 165;refine(Sj (Gm ti tk) (Gm k i) _ _ _ (oP rfl) (oP rfl)).mono ?_;rintro e w' ⟨rfl,rfl⟩))
 go_wp2_with fail;go_ret;exact⟨rfl,rfl⟩
theorem aih{rs:List nQ}{p:Nat}(hp:p<rs.length)(r:nQ):wrs (ru rs) (p*6) r.cs=ru (rs.set p r):=by
 apply List.ext_getElem?;intro k;by_cases hk:k<rs.length*6
 .have h2:=xP (rs.set p r) (k/6) (by rw[Jm];omega) (k%6) (by omega)
  rw[show k/6*6+k%6=k by omega] at h2;rw[h2];by_cases vO:k/6=p
  .rw[show(rs.set p r).getD (k/6) dr=r by rw[vO];simp[Ip,QO hp]]
   have h3:=Tk r.cs (ru rs) (p*6) (k%6) (by rw[uW];omega) (by rw[uW,pZ];omega);rw[show p*6+k%6=k by omega] at h3;exact h3
  .rw[show(rs.set p r).getD (k/6) dr=rs.getD (k/6) dr by simp[Ip,OO (Ne.symm vO)]]
   rw[zJ _ _ _ _ (by rw[uW];omega)];have h4:=xP rs (k/6) (by omega) (k%6) (by omega);rw[show k/6*6+k%6=k by omega] at h4;exact h4
 .rw[IK (by rw[zI,pZ];omega),IK (by rw[pZ,Jm];omega)]
def qL(times:Int)(r:nQ):Bool:=decide (r.told<times)
theorem KO(r:nQ)(tb:Nat)(times:Int)(w:World)(ht:w.cell? ⟨tb,0,U⟩=AI (O J times)) :
 Calls AT 161 #[Iu #[I r.m.name,O J r.m.state,O J r.m.nJ,O J r.m.addr,Ic r.m.server,O J r.told],Ik (AI ⟨tb,0,U⟩)] w λe w'=>e=Ia (Ic (!qL times r))/\w'=w.alloc (Ib #[I r.m.name,O J r.m.state,O J r.m.nJ,O J r.m.addr,Ic r.m.server,O J r.told] 57):=by
 have hb:=II w _ ht;have Rk:∀ob,(w.alloc ob).cell? ⟨tb,0,U⟩=AI (O J times):=λob=>by
  rw[((If w.heap.size w).alloc (By _) ob).cell (p:=⟨tb,0,U⟩) hb];exact ht
 go_enter func161,ntmps161;go_wp2_with fail;go_ret;refine⟨mW ?_,rfl⟩;unfold qL;by_cases h:r.told<times
 .rw[decide_eq_true h];simp;omega
 .rw[decide_eq_false h];simp;omega
theorem He(rs:List nQ)(n b off c tb:Nat)(times:Int)(w:World)(hn:rs.length=n)(Ho:n<=1000)(hr:vU w b off rs)(hb:n≠0->b<w.heap.size)(ht:w.cell? ⟨tb,0,U⟩=AI (O J times)) :
 Calls AT 121 #[sh (AI ⟨b,off,U⟩) n c,JD (.func 161) #[] #[Ik (AI ⟨tb,0,U⟩)]] w λe w'=>
  ((e=Ia (O J (-1))/\∀j,j<n->qL times (rs.getD j dr)=true)\/(∃i:Nat,i<n/\e=Ia (O J i)/\(∀j,j<i->qL times (rs.getD j dr)=true)/\qL times (rs.getD i dr)=false))/\Below w.heap.size w w':=by
 have HR:Hid (vU w b off rs):=hr;have HN:Hid _:=hn;have HT:Hid _:=ht;have htb:=II w _ ht;have HBB:Hid _:=hb;clear hr hn ht hb;go_enter func121,ntmps121;go_wp2_with fail;go_loopw [8] (λi wr=>∃k:Nat,k<=n/\i=O J k/\Hid (∀j,j<k->qL times (rs.getD j dr)=true)/\Hid (Below w.heap.size w wr)) (λi _=>n-(intOf i).toNat)
 case atStart=>exact⟨0,Iw _,rfl,λj hj=>by omega,If _ _⟩
 case round=>
  obtain⟨k,hk,rfl,HZ,HB⟩:=hrel;by_cases mS:k<n
  .obtain⟨c0,c1,c2,c3,c4,c5⟩:=HR.out.below HB.out (HBB.out (by omega)) k (by rw[HN.out];exact mS)
   have Rk:wr.cell? ⟨tb,0,U⟩=AI (O J times):=by rw[HB.out.cell (p:=⟨tb,0,U⟩) htb];exact HT.out
   have o6:Hid (qL times (rs.getD k dr)=true->∀j,j<k+1->qL times (rs.getD j dr)=true):=λh j hj=>by
    by_cases e:j=k
    .subst e;exact h
    .exact HZ.out j (by omega)
   have hF:=λw h=>KO (rs.getD k dr) tb times w h;rcases vO:qL times (rs.getD k dr) with _|_
   .rw[vO] at hF
    have HKP:Hid _:=vO;clear vO o6;generalize hrk:rs.getD k dr=rk at *;have HRK:Hid _:=hrk;clear hrk;obtain⟨⟨nm,st,lf,ad,sv⟩,td⟩:=rk;simp only at c0 c1 c2 c3 c4 c5 hF;go_wp2_with fail;refine(hF _ Rk).mono ?_;rintro e w1 ⟨rfl,rfl⟩;go_wp2_with fail;go_ret;exact⟨.inr ⟨k,mS,rfl,HZ.out,by rw[HRK.out];exact HKP.out⟩,HB.out.alloc HB.out.size _⟩
   .rw[vO] at hF
    have tu:Hid _:=o6.out vO;clear vO o6 HZ;generalize(rs.getD k dr)=rk at *;obtain⟨⟨nm,st,lf,ad,sv⟩,td⟩:=rk;simp only at c0 c1 c2 c3 c4 c5 hF;go_wp2_with fail;refine(hF _ Rk).mono ?_;rintro e w1 ⟨rfl,rfl⟩;go_wp2_with fail;go_roundw
    case rel=>exact⟨k+1,by omega,by go_num,tu,HB.out.alloc HB.out.size _⟩
    case measure=>simp[intOf];omega
  .have tu:Hid (∀j,j<n->qL times (rs.getD j dr)=true):=λj hj=>HZ.out j (by omega)
   clear HZ;go_wp2_with fail;go_ret;exact⟨.inl ⟨rfl,tu.out⟩,HB.out⟩
def zsR(m:Nat):List Value:=(Q1 #[I ⟨#[]⟩,O J 0,O J 0,O J 0,Ic false,O J 0] m).toList
theorem WN(m:Nat):(zsR m).length=m*6:=by simp[zsR,Q1]
theorem aii(m:Nat):∀v∈zsR m,v.oneCell'=true:=by
 intro v hv;simp only[zsR,Q1,Array.toList_map,Ot] at hv;obtain⟨i,_,rfl⟩:=hv;have h:i%6<6:=Nat.mod_lt _ (by decide);show Value.oneCell' (#[Value.string ⟨#[]⟩,O J 0,O J 0,O J 0,Ic false,O J 0][i%6]!)=true;generalize i%6=k at h
 match k,h with
 |0,_=>rfl
 |1,_=>rfl
 |2,_=>rfl
 |3,_=>rfl
 |4,_=>rfl
 |5,_=>rfl
theorem Gn(w:World)(ty:TypeId)(b o m c:Nat)(hm:0<m)(hc:∀j,j<m*6->(w.cell? ⟨b,o+j,U⟩).isSome=true)(hf:∀j,j<m*6->w.frozen? ⟨b,o+j,U⟩=false) : (Q4 #[23] ty #[sh (AI ⟨b,o,U⟩) m c]).run AT w=.ok (Ir #[]) (w.setCells b o (zsR m)):=by
 have GB:=run_storeCells_cells (P:=AT) b o (zsR m) 0 w (λj hj=>by simpa using hc j (by rw[WN] at hj;exact hj)) (λj hj=>by simpa using hf j (by rw[WN] at hj;exact hj)) (aii m);simp only[Nat.add_zero] at GB;have hzc:(Q1 (Value.agg #[I ⟨#[]⟩,O J 0,O J 0,O J 0,Ic false,O J 0]).cells m).toList=zsR m:=rfl;obtain⟨k,rfl⟩:∃k,m=k+1:=⟨m-1,by omega⟩;simp[Q4,run_underlying underlying23,hzc,GB]
theorem T4{times:Int}{r:nQ}(h:qL times r=true):[r].filter (qL times)=[r]:=by simp[h]
theorem KP{times:Int}{r:nQ}(h:qL times r=false):[r].filter (qL times)=[]:=by simp[h]
structure WO(rs cur:List nQ)(times:Int)(i j:Nat):Prop where
 len:cur.length=rs.length
 head:cur.take i=(rs.take j).filter (qL times)
 tail:cur.drop j=rs.drop j
theorem WO.keep{rs cur:List nQ}{times:Int}{i j:Nat}(h:WO rs cur times i j)(yp:i<j)(hj:j<rs.length)(hk:qL times (rs.getD j dr)=true):WO rs (cur.set i (rs.getD j dr)) times (i+1) (j+1):=by
 have hs:rs.take (j+1)=rs.take j++[rs.getD j dr]:=by rw[Iz hj];simp[Ip,Ih hj]
 have hi:i<cur.length:=by rw[h.len];omega
 refine⟨by rw[Jm];exact h.len,?_,?_⟩
 .rw[hs,JJ,<- h.head,Iz (by rw[Jm];exact hi),List.getElem_set_self,List.take_set,List.set_eq_of_length_le (by rw[IA];omega),T4 hk]
 .rw[List.drop_set_of_lt (by omega)]
  have:=congrArg (List.drop 1) h.tail
  rwa [List.drop_drop,List.drop_drop] at this
theorem WO.skip{rs cur:List nQ}{times:Int}{i j:Nat}(h:WO rs cur times i j)(hj:j<rs.length)(hk:qL times (rs.getD j dr)=false):WO rs cur times i (j+1):=by
 have hs:rs.take (j+1)=rs.take j++[rs.getD j dr]:=by rw[Iz hj];simp[Ip,Ih hj]
 refine⟨h.len,?_,?_⟩
 .rw[hs,JJ,<- h.head,KP hk,QM]
 .have:=congrArg (List.drop 1) h.tail
  rwa [List.drop_drop,List.drop_drop] at this
theorem WO.get{rs cur:List nQ}{times:Int}{i j:Nat}(h:WO rs cur times i j):cur.getD j dr=rs.getD j dr:=by
 have:=congrArg (λl:List nQ=>l[0]?.getD dr) h.tail;simpa[Ip,List.getElem?_drop] using this
theorem filter_all{times:Int}{rs:List nQ}(h:∀j,j<rs.length->qL times (rs.getD j dr)=true):rs.filter (qL times)=rs:=by
 rw[List.filter_eq_self];intro r hr;obtain⟨j,hj,rfl⟩:=I2 hr;have:=h j hj
 rwa [show rs.getD j dr=rs[j] by simp[Ip,Ih hj]] at this
theorem WO.start{rs:List nQ}{times:Int}{i:Nat}(hi:i<rs.length)(h1:∀j,j<i->qL times (rs.getD j dr)=true)(h2:qL times (rs.getD i dr)=false):WO rs rs times i (i+1):=by
 have hs:rs.take (i+1)=rs.take i++[rs.getD i dr]:=by rw[Iz hi];simp[Ip,Ih hi]
 refine⟨rfl,?_,rfl⟩;rw[hs,JJ,filter_all (rs:=rs.take i) (λj hj=>by
  have hji:j<i:=by rw[IA] at hj;omega
  have:=h1 j hji
  rwa [show(rs.take i).getD j dr=rs.getD j dr by simp[Ip,IQ hji]]),KP h2,QM]
def DJ(g:Nat)(w w':World):Prop:=w.heap.size<=w'.heap.size/\∀k,k<w.heap.size->k≠g->w'.heap[k]?=w.heap[k]?
theorem DJ.trans{g:Nat}{a b c:World}(h:DJ g a b)(k:DJ g b c):DJ g a c:=⟨IB h.1 k.1,λj hj hg=>(k.2 j (Nat.lt_of_lt_of_le hj h.1) hg).trans (h.2 j hj hg)⟩
theorem DJ.of{g:Nat}{w w':World}(h:Below w.heap.size w w'):DJ g w w':=⟨h.size,λk hk _=>h.block k hk⟩
theorem DJ.setCell{g:Nat}{w w':World}(h:DJ g w w')(o:Nat)(v:Value):DJ g w (w'.setCell ⟨g,o,U⟩ v):=by
 refine⟨by simpa using h.1,λk hk hg=>?_⟩;have e:(w'.setCell ⟨g,o,U⟩ v).heap[k]?=w'.heap[k]?:=by
  simp only[Ui,On];rw[if_neg (Ne.symm hg)]
 rw[e];exact h.2 k hk hg
theorem DJ.setCells{g:Nat}:∀(vs:List Value) (o:Nat) (w w':World),DJ g w w'->DJ g w (w'.setCells g o vs)
 |[],_,_,_,h=>h
 |v::r,o,w,_,h=>DJ.setCells r (o+1) w _ (h.setCell o v)
theorem Gp(rs:List nQ)(n g c tb base:Nat)(times:Int)(w:World)(hn:rs.length=n)(Ho:n<=1000)(ho:oE base w (sh (AI ⟨g,0,U⟩) n c) rs)(hbase:base<=w.heap.size)(htb:tb<base)(ht:w.cell? ⟨tb,0,U⟩=AI (O J times)) :
 Calls AT 160 #[sh (AI ⟨g,0,U⟩) n c,JD (.func 161) #[] #[Ik (AI ⟨tb,0,U⟩)]] w λe w'=>∃m,e=Ia (sh (AI ⟨g,0,U⟩) m c)/\oE base w' (sh (AI ⟨g,0,U⟩) m c) (rs.filter (qL times))/\Below base w w'/\DJ g w w':=by
 have HO:Hid (oE _ _ _ _):=ho;have HN:Hid _:=hn;have HT:Hid _:=ht;obtain⟨Ak,hgh⟩:=HO.out.lt g rfl;obtain⟨rF,qw⟩:n<=c/\c<=Il:=by
  rcases HO.out.2 with⟨hv,_⟩|⟨g',c',cur,hv,qa,hg,rF,qw,oH,nA⟩
  .cases hv
  .simp only[IM,Jd,JV,and_true] at hv
   obtain⟨rfl,rfl,rfl⟩:=hv;exact⟨by omega,qw⟩
 unfold Il at qw;clear ho hn ht;go_enter func160,ntmps160;go_wp2_with fail;refine(He rs n g 0 c tb times _ HN.out Ho (BS HO.out) (λ_=>hgh) HT.out).mono ?_;rintro e w1 ⟨⟨rfl,qe⟩|⟨i0,qg,rfl,hlo,hhi⟩,mO⟩
 .have HF:Hid _:=filter_all (λj hj=>qe j (by rw[HN.out] at hj;exact hj))
  have uH:Hid (oE _ _ _ _):=HO.out.below mO;have mY:Hid _:=mO.mono hbase;have TU:Hid (DJ g w w1):=DJ.of mO;clear qe mO;go_wp2_with fail;go_ret;exact⟨n,rfl,by rw[HF.out];exact uH.out,mY.out,TU.out⟩
 .have uH:Hid (oE _ _ _ _):=HO.out.below mO
  have mY:Hid (Below base w w1):=mO.mono hbase;have Ko:Hid (WO rs rs times i0 (i0+1)):=WO.start (by rw[HN.out];exact qg) hlo hhi;have TU:Hid (DJ g w w1):=DJ.of mO;clear hlo hhi mO;go_wp2_with fail;go_loopw [5,6] (λx y wr=>∃(i j:Nat) (cur:List nQ),i<j/\j<=n/\x=O J i/\y=O J j/\Hid (WO rs cur times i j)/\Hid (oE base wr (sh (AI ⟨g,0,U⟩) n c) cur)/\Hid (Below base w wr)/\Hid (DJ g w wr)) (λ_ y _=>n-(intOf y).toNat)
  case atStart=>exact⟨i0,i0+1,rs,by omega,by omega,rfl,by go_num,Ko,uH,mY,TU⟩
  case round=>
   clear uH mY Ko TU;obtain⟨i,j,cur,yp,hj,rfl,rfl,HC,Ck,HB,TU⟩:=hrel;have od:base<=wr.heap.size:=by have:=HB.out.size;omega
   have Bo:g<wr.heap.size:=(Ck.out.lt g rfl).2;have Aq:cur.length=n:=by rw[HC.out.len,HN.out]
   by_cases mS:j<n
   .obtain⟨c0,c1,c2,c3,c4,c5⟩:=BS Ck.out j (by rw[Aq];exact mS)
    rw[HC.out.get] at c0 c1 c2 c3 c4 c5;have Rk:∀ob,(wr.alloc ob).cell? ⟨tb,0,U⟩=AI (O J times):=λob=>by
     rw[((If wr.heap.size wr).alloc (By _) ob).cell (p:=⟨tb,0,U⟩) (by simp only;omega),HB.out.cell (p:=⟨tb,0,U⟩) htb];exact HT.out
    have hF:=λw h=>KO (rs.getD j dr) tb times w h;simp only[I6] at c0 c1 c2 c3 c4 c5;rcases vO:qL times (rs.getD j dr) with _|_
    .have HC2:Hid (WO rs cur times i (j+1)):=HC.out.skip (by rw[HN.out];exact mS) vO
     rw[vO] at hF;clear vO HC;generalize(rs.getD j dr)=rk at *;obtain⟨⟨nm,st,lf,ad,sv⟩,td⟩:=rk;simp only at c0 c1 c2 c3 c4 c5 hF;go_wp2_with fail;refine(hF _ (Rk _)).mono ?_;rintro e w2 ⟨rfl,rfl⟩;have mZ:Below wr.heap.size wr ((wr.alloc (Ib #[I nm,O J st,O J lf,O J ad,Ic sv,O J td] 57)).alloc (Ib #[I nm,O J st,O J lf,O J ad,Ic sv,O J td] 57)):=((If _ _).alloc (By _) _).alloc (by simp) _;have sI:=Ck.out.below mZ;have tQ:Hid (oE _ _ _ _):=sI;have oT:Hid _:=HB.out.trans (mZ.mono od);have GO:Hid (DJ _ _ _):=TU.out.trans (DJ.of mZ);clear mZ sI;go_wp2_with fail;refine⟨⟨_,_,_,_,_,_,_,_,_,_,_,_,_,_,_,_,_,_,_,_,_,_,_,⟨i,j+1,cur,by omega,by omega,rfl,by go_num,HC2,tQ,oT,GO⟩,rfl⟩,?_⟩;simp[intOf];omega
    .have HC2:Hid _:=HC.out.keep yp (by rw[HN.out];exact mS) vO
     rw[vO] at hF;have ux:∀o,wr.frozen? ⟨g,o,U⟩=false:=λo=>JE (n:=n) (xs:=ru cur) (by have h:=Ck.out;have h2:wr.ownsRow base 57 6 (sh (AI ⟨g,0,U⟩) n c) cur.length (ru cur):=h;rw[Aq] at h2;exact h2) o;obtain⟨d0,d1,d2,d3,d4,d5⟩:=BS Ck.out i (by rw[Aq];omega);simp only[I6] at d0 d1 d2 d3 d4 d5;clear vO HC;generalize(rs.getD j dr)=rk at *;obtain⟨⟨nm,st,lf,ad,sv⟩,td⟩:=rk;simp only at c0 c1 c2 c3 c4 c5 hF;have hOS:(wr.setCells g (i*6) (nQ.mk ⟨nm,st,lf,ad,sv⟩ td).cs).ownsRow base 57 6 (sh (AI ⟨g,0,U⟩) n c) n (ru (cur.set i ⟨⟨nm,st,lf,ad,sv⟩,td⟩)):=by
      have h2:wr.ownsRow base 57 6 (sh (AI ⟨g,0,U⟩) n c) cur.length (ru cur):=Ck.out;rw[Aq] at h2;have h3:=vG (nQ.mk ⟨nm,st,lf,ad,sv⟩ td).cs _ (i*6) _ h2
      rwa [aih (by rw[Aq];omega)] at h3
     have HOS:Hid (oE base (wr.setCells g (i*6) (nQ.mk ⟨nm,st,lf,ad,sv⟩ td).cs) (sh (AI ⟨g,0,U⟩) n c) (cur.set i ⟨⟨nm,st,lf,ad,sv⟩,td⟩)):=(show Oy _ _ _ _ _ (cur.set i ⟨⟨nm,st,lf,ad,sv⟩,td⟩).length _ by rw[Jm,Aq];exact hOS);have HFS:Hid (DJ g w (wr.setCells g (i*6) (nQ.mk ⟨nm,st,lf,ad,sv⟩ td).cs)):=DJ.setCells _ _ _ _ TU.out;have HBS:Hid (Below base w (wr.setCells g (i*6) (nQ.mk ⟨nm,st,lf,ad,sv⟩ td).cs)):=rS Ak _ _ _ _ HB.out;clear hOS;go_wp2_with fail;refine(hF _ (Rk _)).mono ?_;rintro e w2 ⟨rfl,rfl⟩;go_wp2_with fail;have hbz:Below (wr.setCells g (i*6) (nQ.mk ⟨nm,st,lf,ad,sv⟩ td).cs).heap.size (wr.setCells g (i*6) (nQ.mk ⟨nm,st,lf,ad,sv⟩ td).cs) (((wr.setCells g (i*6) (nQ.mk ⟨nm,st,lf,ad,sv⟩ td).cs).alloc (Ib #[I nm,O J st,O J lf,O J ad,Ic sv,O J td] 57)).alloc (Ib #[I nm,O J st,O J lf,O J ad,Ic sv,O J td] 57)):=((If _ _).alloc (By _) _).alloc (by simp) _;refine⟨⟨_,_,_,_,_,_,_,_,_,_,_,_,_,_,_,_,_,_,_,_,_,_,_,⟨i+1,j+1,cur.set i ⟨⟨nm,st,lf,ad,sv⟩,td⟩,by omega,by omega,by go_num,by go_num,HC2,HOS.out.below hbz,HBS.out.trans (hbz.mono (by have:=HBS.out.size;omega)),HFS.out.trans (DJ.of hbz)⟩,rfl⟩,?_⟩;simp[intOf];omega
   .have Xg:j=n:=by omega
    subst Xg;have HR:Hid (cur.take i=rs.filter (qL times)):=by
     have h:=HC.out.head;rw[show rs.take j=rs by rw[<- HN.out];exact List.take_length] at h;exact h
    have hOW:wr.ownsRow base 57 6 (sh (AI ⟨g,0,U⟩) j c) j (ru cur):=by
     have h2:wr.ownsRow base 57 6 (sh (AI ⟨g,0,U⟩) j c) cur.length (ru cur):=Ck.out;rw[Aq] at h2;exact h2
    have alc:∀ty,(Q4 #[23] ty #[sh (AI ⟨g,i*6,U⟩) (j-i) (c-i)]).run AT wr=.ok (Ir #[]) (wr.setCells g (i*6) (zsR (j-i))):=λty=>
     Gn _ ty g _ _ _ (by omega) (λk hk=>by rw[ON hOW _ (by omega),Ih (by rw[pZ,Aq];omega)];rfl) (λk _=>JE hOW _)
    have HF:Hid ((wr.setCells g (i*6) (zsR (j-i))).ownsRow base 57 6 (sh (AI ⟨g,0,U⟩) i c) i (ru (cur.take i))):=by
     have h:=Dz (m:=i) (vG (zsR (j-i)) _ (i*6) _ hOW) (by omega);rw[FC (ys:=ru (cur.take i)) (by rw[zI,pZ,Aq];omega) (by rw[pZ,IA];omega) (λk hk=>by
      rw[zJ _ _ _ _ (by omega),<- Fw,IQ hk])] at h
     exact h
    have Mq:Hid ((cur.take i).length=i):=(show(cur.take i).length=i by rw[IA];omega);have HBF:Hid (Below base w (wr.setCells g (i*6) (zsR (j-i)))):=rS Ak _ _ _ _ HB.out;have Sw:Hid (DJ g w (wr.setCells g (i*6) (zsR (j-i)))):=DJ.setCells _ _ _ _ TU.out;have hic:i<=c:=by omega
    have aEB:¬ c=i:=by omega
    clear hOW Ck HB HC;go_wp2_with fail;go_ret;refine⟨i,rfl,?_,HBF.out,Sw.out⟩;rw[<- HR.out];show Oy _ _ _ _ _ (cur.take i).length _;rw[Mq.out];exact HF.out
structure uT(rs:List nQ)(ord:List Nat):Prop where
 perm:ord.Perm (J5 rs.length)
 less:∀i j,i<j->j<ord.length->cfR rs (ord.getD i 0) (ord.getD j 0)<0
theorem uT.len{rs:List nQ}{ord:List Nat}(h:uT rs ord):ord.length=rs.length:=by rw[h.perm.length_eq];simp
theorem uT.bd{rs:List nQ}{ord:List Nat}(h:uT rs ord):∀x∈ord,x<rs.length:=λx hx=>by simpa using h.perm.mem_iff.1 hx
theorem uT.nodup{rs:List nQ}{ord:List Nat}(h:uT rs ord):ord.Nodup:=h.perm.nodup_iff.2 List.nodup_range
theorem Cc{ord:List Nat}{j:Nat}(h:j<ord.length):ord.getD j 0=ord[j]:=by simp[Ip,Ih h]
theorem uT.lt{rs:List nQ}{ord:List Nat}(h:uT rs ord){j:Nat}(hj:j<rs.length):ord.getD j 0<rs.length:=by
 have tS:j<ord.length:=by rw[h.len];exact hj
 rw[Cc tS];exact h.bd _ (IU tS)
theorem uT.fresh{rs:List nQ}{ord:List Nat}(h:uT rs ord){j:Nat}(hj:j<rs.length):ord.getD j 0 ∉ ord.take j:=by
 have tS:j<ord.length:=by rw[h.len];exact hj
 rw[Cc tS];intro hm;obtain⟨i,hi,e⟩:=I2 hm;rw[IA] at hi;rw[List.getElem_take] at e;exact Jy.1 h.nodup i j (by omega) tS (by omega) e
def uq(l:List nQ)(i:Nat):List nQ:=l.set i ⟨(l.getD i dr).m,(l.getD i dr).told+1⟩
def bump(rs:List nQ)(ord:List Nat)(k:Nat):List nQ:=(ord.take k).foldl uq rs
def tU(rs:List nQ)(ord:List Nat)(k:Nat):List Mem:=(ord.take k).map (λi=>(rs.getD i dr).m)
theorem aaX(rs:List nQ)(ord:List Nat):bump rs ord 0=rs:=by simp[bump]
theorem T5(rs:List nQ)(ord:List Nat):tU rs ord 0=[]:=by simp[tU]
theorem PQ{ord:List Nat}{k:Nat}(h:k<ord.length):ord.take (k+1)=ord.take k++[ord.getD k 0]:=by
 rw[Iz h,Cc h]
theorem aaY{rs:List nQ}{ord:List Nat}{k:Nat}(h:k<ord.length):bump rs ord (k+1)=uq (bump rs ord k) (ord.getD k 0):=by
 unfold bump;rw[PQ h,List.foldl_append];rfl
theorem T6{rs:List nQ}{ord:List Nat}{k:Nat}(h:k<ord.length):tU rs ord (k+1)=tU rs ord k++[(rs.getD (ord.getD k 0) dr).m]:=by
 unfold tU;rw[PQ h,List.map_append];rfl
theorem KQ:∀(is:List Nat) (l:List nQ),(is.foldl uq l).length=l.length
 |[],_=>rfl
 |i::r,l=>by rw[Ut,KQ r,uq,Jm]
theorem Gq(rs:List nQ)(ord:List Nat)(k:Nat):(bump rs ord k).length=rs.length:=KQ _ _
theorem DK:∀(is:List Nat) (l:List nQ) (j:Nat),j ∉ is->(is.foldl uq l).getD j dr=l.getD j dr
 |[],_,_,_=>rfl
 |i::r,l,j,h=>by
  simp only[List.mem_cons,not_or] at h;rw[Ut,DK r _ j h.2,uq];simp[Ip,OO (Ne.symm h.1)]
theorem Bd{rs:List nQ}{ord:List Nat}(h:uT rs ord){k:Nat}(hk:k<rs.length):(bump rs ord k).getD (ord.getD k 0) dr=rs.getD (ord.getD k 0) dr:=
 DK _ _ _ (h.fresh hk)
def C5(rs:List nQ)(v:Value):Prop:=∀w,yd w v rs->Calls AT 159 #[v] w λe w'=>∃(g c:Nat) (ord:List Nat),e=Ia (sh (AI ⟨g,0,U⟩) rs.length c)/\uT rs ord/\(∀j,j<rs.length->w'.cell? ⟨g,j,U⟩=AI (O J (ord.getD j 0:Nat)))/\rs.length<=c/\w.heap.size<=g/\Below w.heap.size w w'
theorem ae9{rs:List nQ}{p:Nat}(hp:p<rs.length)(t:Int):(ru rs).set (p*6+5) (O J t)=ru (rs.set p ⟨(rs.getD p dr).m,t⟩):=by
 apply List.ext_getElem?;intro k;by_cases hk:k<rs.length*6
 .have h2:=xP (rs.set p ⟨(rs.getD p dr).m,t⟩) (k/6) (by rw[Jm];omega) (k%6) (by omega)
  rw[show k/6*6+k%6=k by omega] at h2;have h4:=xP rs (k/6) (by omega) (k%6) (by omega);rw[show k/6*6+k%6=k by omega] at h4;rw[h2];by_cases vO:k/6=p
  .rw[show(rs.set p ⟨(rs.getD p dr).m,t⟩).getD (k/6) dr=⟨(rs.getD p dr).m,t⟩ by rw[vO];simp[Ip,QO hp]]
   rw[vO] at h4;by_cases h5:k%6=5
   .rw[show p*6+5=k by omega,QO (by rw[pZ];omega),h5]
    rfl
   .rw[OO (by omega),h4]
    have h6:k%6<5:=by omega
    generalize k%6=q at h6
    match q,h6 with
    |0,_=>rfl
    |1,_=>rfl
    |2,_=>rfl
    |3,_=>rfl
    |4,_=>rfl
  .rw[show(rs.set p ⟨(rs.getD p dr).m,t⟩).getD (k/6) dr=rs.getD (k/6) dr by simp[Ip,OO (Ne.symm vO)],OO (by omega),h4]
 .rw[IK (by rw[Jm,pZ];omega),IK (by rw[pZ,Jm];omega)]
theorem aaZ{n a b:Int}(h:within n a b=true):a<=n/\n<=b:=by simpa[within] using h
theorem aa0{base:Nat}{w:World}{v:Value}{L:List Mem}{m:Mem}(h:w.ownsRow base 55 5 v (L.length+1) (fl L++m.cs)):Own base w v (L++[m]):=by
 have e:fl (L++[m])=fl L++m.cs:=by rw[rV,oq];simp[fl]
 show w.ownsRow base 55 5 v (L++[m]).length (fl (L++[m]));rw[e,List.length_append];exact h
theorem Own.slice{base:Nat}{w:World}{v:Value}{ms:List Mem}(h:Own base w v ms):∃a c,v=sh a ms.length c:=by
 rcases h.2 with⟨rfl,h0⟩|⟨g,c,cur,rfl,_⟩
 .exact⟨U,0,by rw[h0]⟩
 .exact⟨_,c,rfl⟩
theorem aa1(rs:List nQ)(v:Value)(most times:Int)(w:World)(hv:yd w v rs)(h0:o5 rs=0)(hm:within most 1 20=true)(ht:within times 1 100=true)(BA:0<rs.length)(hT:C5 rs v) :
 Calls AT 101 #[v,O J most,O J times] w λe w'=>∃(v1 v2:Value) (ord:List Nat),e=Ia (Ir #[v1,v2,O J 0])/\uT rs ord/\Own w.heap.size w' v1 (tU rs ord (min most.toNat rs.length))/\oE w.heap.size w' v2 ((bump rs ord (min most.toNat rs.length)).filter (qL times))/\Below w.heap.size w w':=by
 obtain⟨j0,hj0,Ni,hks,hkb⟩:=info_parts Tryz.RP;have HV:Hid (yd w v rs):=hv;have HTT:Hid (C5 rs v):=hT;have Cu:1<=most/\most<=20:=by simp[within] at hm;omega
 obtain⟨Cu,XG⟩:=Cu;obtain⟨zY,_,PR,_⟩:=ue h0;have HTO:Hid (sL rs):=PR;have vE:=λ(w:World) (h:yd w v rs)=>sP rs v w h;rw[h0] at vE;clear h0 hT PR;obtain⟨pa,ca,rfl,_,_⟩:=hv;generalize hN:rs.length=n at *;have HN:Hid _:=hN;clear hN;have zZ:Below w.heap.size w (w.alloc (Ib #[O J times] 3)):=(If _ _).alloc (By _) _;go_enter func101,ntmps101;go_wp2_with fail;refine(vE _ (HV.out.below zZ)).mono ?_;rintro e w1 ⟨rfl,mO⟩;have c1:w1.cell? ⟨w.heap.size,0,U⟩=AI (O J times):=by
  rw[mO.cell (p:=⟨w.heap.size,0,U⟩) (by simp)];exact oP rfl
 have mY:Hid _:=zZ.trans (mO.mono (by simp));have pC:w.heap.size<w1.heap.size:=by have:=mO.size;simp at this;omega
 clear mO zZ vE;go_wp2_with (go_at_call 89;refine(oe _ _ _ _).mono ?_;rintro e w' ⟨rfl,rfl⟩;first|rw[hm]|rw[ht]);refine(sQ rs _ _ (HV.out.below mY.out) (by rw[HN.out];omega)).mono ?_;rintro e w3 ⟨v3,rfl,AR,nC⟩;have tQ:Hid (oE _ _ _ _):=AR.base pC;have c3:w3.cell? ⟨w.heap.size,0,U⟩=AI (O J times):=by
  rw[nC.cell (p:=⟨w.heap.size,0,U⟩) (by simp only;omega)];exact c1
 have oT:Hid _:=mY.out.trans (nC.mono mY.out.size);have zV:w.heap.size<w3.heap.size:=by have:=nC.size;omega
 clear nC AR c1;go_wp2_with fail;refine(HTT.out _ (HV.out.below oT.out)).mono ?_;rintro e w4 ⟨gt,ct,ord,rfl,aqR,V5,hcc,aEC,qA⟩;have Hf:Hid _:=aqR;have HCT:Hid _:=V5;have qP:Hid (Below w.heap.size w w4):=oT.out.trans (qA.mono oT.out.size);have C4:Hid (w4.cell? ⟨w.heap.size,0,U⟩=AI (O J times)):=by
  have h:=qA.cell (p:=⟨w.heap.size,0,U⟩) (by simp only;omega);exact h.trans c3
 have Cm:Hid (oE _ _ _ _):=tQ.out.below qA;have HG3:Hid (∀k,v3.ownBlock=AI k->k<w3.heap.size):=λk hk=>(tQ.out.lt k hk).2;have uZ:=qA.size;clear qA c3 tQ V5 aqR;obtain⟨g,c,SZ⟩:∃g c,v3=sh (AI ⟨g,0,U⟩) n c:=by
  rcases Cm.out.2 with⟨_,h0⟩|⟨g,c,cur,h,_⟩
  .have:=HN.out;omega
  .exact⟨g,c,by rw[h,HN.out]⟩
 subst SZ;obtain⟨Ak,hgh⟩:=Cm.out.lt g rfl;have Cv:=HG3.out g rfl;rw[HN.out] at hcc ⊢;have HGT:Hid _:=II w4 ⟨gt,0,U⟩ (HCT.out 0 (by rw[HN.out];exact BA));obtain⟨q,hq⟩:∃q:Nat,q=min most.toNat n:=⟨_,rfl⟩;have awB:min most (n:Int)=(q:Int):=by omega
 have hqn:q<=n:=by omega
 go_wp2_with fail;go_loopw [11,37] (λo i wr=>∃k:Nat,k<=q/\i=O J k/\Hid (Own w4.heap.size wr o (tU rs ord k))/\Hid (oE (w.heap.size+1) wr (sh (AI ⟨g,0,U⟩) n c) (bump rs ord k))/\Hid (wr.cell? ⟨w.heap.size,0,U⟩=AI (O J times))/\Hid (∀j,j<rs.length->wr.cell? ⟨gt,j,U⟩=AI (O J (ord.getD j 0:Nat)))/\Hid (Below w.heap.size w wr)/\w4.heap.size<=wr.heap.size) (λ_ i _=>q-(intOf i).toNat)
 case atStart=>exact⟨0,Iw _,rfl,(by rw[T5];exact nh _ _),(by rw[aaX];exact Cm.out),C4,HCT,qP,By _⟩
 case round=>
  obtain⟨k,hk,rfl,aa2,HRO,HCC,ams,HB,od⟩:=hrel;by_cases mS:k<q
  .have tp:k<rs.length:=by rw[HN.out];omega
   have oc:=ams.out k tp;have qi:ord.getD k 0<n:=by have:=Hf.out.lt tp;rwa [HN.out] at this
   have nE:(bump rs ord k).length=n:=by rw[Gq];exact HN.out
   obtain⟨d0,d1,d2,d3,d4,d5⟩:=BS HRO.out (ord.getD k 0) (by rw[nE];exact qi);rw[Bd Hf.out tp] at d0 d1 d2 d3 d4 d5;have hRO:wr.ownsRow (w.heap.size+1) 57 6 (sh (AI ⟨g,0,U⟩) n c) n (ru (bump rs ord k)):=by
    have h2:wr.ownsRow (w.heap.size+1) 57 6 (sh (AI ⟨g,0,U⟩) n c) (bump rs ord k).length (ru (bump rs ord k)):=HRO.out;rw[nE] at h2;exact h2
   have ux:∀o,wr.frozen? ⟨g,o,U⟩=false:=λo=>JE hRO o;have PR:=HTO.out _ (Hf.out.lt tp);obtain⟨ht3,ht4⟩:=aaZ PR;have amt:Hid (oE (w.heap.size+1) (wr.setCell ⟨g,ord.getD k 0*6+5,U⟩ (O J ((rs.getD (ord.getD k 0) dr).told+1))) (sh (AI ⟨g,0,U⟩) n c) (bump rs ord (k+1))):=by
    have h3:=(M2 hRO (ord.getD k 0*6+5) (O J ((rs.getD (ord.getD k 0) dr).told+1))).1;rw[ae9 (by rw[nE];exact qi),Bd Hf.out tp] at h3;show Oy _ _ _ _ _ (bump rs ord (k+1)).length _;rw[Gq,HN.out,aaY (by rw[Hf.out.len];exact tp),uq,Bd Hf.out tp];exact h3
   have HTS:Hid (tU rs ord (k+1)=tU rs ord k++[(rs.getD (ord.getD k 0) dr).m]):=T6 (by rw[Hf.out.len];exact tp);have htl:(tU rs ord k).length<=20:=by unfold tU;rw[I8,IA];omega
   obtain⟨oa,ocp,hvo⟩:=aa2.out.slice;subst hvo;clear hRO PR;generalize ord.getD k 0=at1 at *;generalize hrk:rs.getD at1 dr=rk at *;clear hrk;obtain⟨⟨nm,st,lf,ad,sv⟩,td⟩:=rk;simp only at d0 d1 d2 d3 d4 d5 ht3 ht4 amt HTS;simp only[I6] at d0 d1 d2 d3 d4 d5;generalize tU rs ord k=TL at *;have HOT:Hid (∀ob,((wr.setCell ⟨g,at1*6+5,U⟩ (O J (td+1))).alloc ob).ownsRow w4.heap.size 55 5 (sh oa TL.length ocp) TL.length (fl TL)):=λob=>
    Own.below (ms:=TL) (Io aa2.out (a:=⟨g,at1*6+5,U⟩) hgh _) ((If _ _).alloc (By _) ob)
   have Mq:Hid (∀j,(sh oa TL.length ocp).ownBlock=AI j->w4.heap.size<=j):=λj hj=>(aa2.out.lt j hj).1;clear aa2 HRO;go_wp2_with (at_builtin;refine IY _ rfl _ _ 22 rfl w4.heap.size 55 j0 _ 5 48 OW hj0 Ni hks hkb rfl (by omega) _ TL.length (fl TL) rfl ?hown ⟨wr.heap.size,0,U⟩ 1 1 (Mem.mk nm st lf ad sv).cs rfl rfl ?hnews (pX _) ?h63 ?hbytes ?hbase ?_)
   case hown=>exact HOT.out _
   case hnews=>(intro j u hj;rw[Addr.add_lit];exact(oP (by simp)).trans (by simpa[Mem.cs] using hj))
   case h63=>(unfold Il;omega)
   case hbytes=>omega
   case hbase=>(simp;omega)
   intro v' w5 r1 r2 r3;have sK:Below w4.heap.size (wr.setCell ⟨g,at1*6+5,U⟩ (O J (td+1))) w5:=
    ((If w4.heap.size (wr.setCell ⟨g,at1*6+5,U⟩ (O J (td+1)))).alloc (by simpa using od) _).grown r2 (by simp;omega) (λj hj=>Mq.out j hj)
   have R1:Hid (Own _ _ _ _):=aa0 r1;have hgr:=(sK.block g hgh).symm;have R2:Hid (oE (w.heap.size+1) w5 (sh (AI ⟨g,0,U⟩) n c) (bump rs ord (k+1))):=by
    obtain⟨h1,h2⟩:=amt.out;refine⟨h1,?_⟩;rcases h2 with h2|⟨g',c',cur,hv,qa,hg,hr⟩
    .exact .inl h2
    .have hgg:g'=g:=by simp only[IM,Jd,JV,and_true] at hv;exact hv.1.symm
     subst hgg;exact .inr ⟨g',c',cur,hv,qa,by rw[<- hgr];exact hg,hr⟩
   have R3:Hid (w5.cell? ⟨w.heap.size,0,U⟩=AI (O J times)):=by
    have h1:=sK.cell (p:=⟨w.heap.size,0,U⟩) (by simp only;omega);have h2:(wr.setCell ⟨g,at1*6+5,U⟩ (O J (td+1))).cell? ⟨w.heap.size,0,U⟩=wr.cell? ⟨w.heap.size,0,U⟩:=UE _ _ _ _ (by simp only;omega);exact h1.trans (h2.trans HCC.out)
   have R4:Hid (∀j,j<rs.length->w5.cell? ⟨gt,j,U⟩=AI (O J (ord.getD j 0:Nat))):=λj hj=>by
    have h1:=sK.cell (p:=⟨gt,j,U⟩) HGT.out;have h2:(wr.setCell ⟨g,at1*6+5,U⟩ (O J (td+1))).cell? ⟨gt,j,U⟩=wr.cell? ⟨gt,j,U⟩:=UE _ _ _ _ (by simp only;omega);exact h1.trans (h2.trans (ams.out j hj))
   have R5:Hid _:=(HB.out.setCell (p:=⟨g,at1*6+5,U⟩) (by simp only;omega) _).trans (sK.mono (by omega));have alE:w4.heap.size<=w5.heap.size:=by have:=sK.size;simp at this;omega
   clear r1 r2 r3 sK hgr amt HOT Mq d0 d1 d2 d3 d4 d5 oc;go_wp2_with fail;exact⟨⟨k+1,by omega,by go_num,(by rw[HTS.out];exact R1.out),R2.out,R3.out,R4.out,R5.out,alE⟩,by simp[intOf];omega⟩
  .have hkq:k=q:=by omega
   subst hkq;have nE:(bump rs ord k).length=n:=by rw[Gq];exact HN.out
   clear ams;go_wp2_with fail;refine(Gp (bump rs ord k) n g c w.heap.size (w.heap.size+1) times _ nE (by omega) HRO.out (by omega) (by omega) HCC.out).mono ?_;rintro e w6 ⟨m,rfl,ho6,sZ,hf6⟩;have S1:Hid (Own w.heap.size w6 u11 (tU rs ord k)):=by
    obtain⟨h1,h2⟩:=aa2.out;refine⟨h1,?_⟩;rcases h2 with h2|⟨g',c',cur,hv,qa,hg,hr⟩
    .exact .inl h2
    .exact .inr ⟨g',c',cur,hv,by omega,by rw[hf6.2 g' (Ig.1 hg).1 (by omega)];exact hg,hr⟩
   have S2:Hid (oE w.heap.size w6 (sh (AI ⟨g,0,U⟩) m c) ((bump rs ord k).filter (qL times))):=ho6.base (by omega);have S3:Hid _:=HB.out.trans (sZ.mono (by omega));clear ho6 sZ hf6 aa2 HRO HCC;go_wp2_with fail;go_ret3
   exact⟨_,_,ord,rfl,Hf.out,by rw[<- hq];exact S1.out,by rw[<- hq];exact S2.out,S3.out⟩
end Go.Proofs.YtipbebleapjcjaaGreatDoor
namespace Go.Proofs
open Go.Shelf
def Tryz.KR:Go.Shelf.Ren:=⟨fun|6=>208|15=>158|14=>242|28=>206|29=>207|20=>275|21=>276|22=>277|23=>278|24=>279|25=>280|26=>281|27=>282|46=>293|47=>245|48=>246|49=>294|50=>295|57=>306|n=>n,fun|22=>207|24=>3|25=>260|3=>3|39=>137|0=>0|53=>256|55=>258|4=>4|46=>263|45=>262|50=>42|5=>5|9=>9|66=>284|70=>288|76=>310|77=>311|n=>n,fun|n=>n⟩
theorem Tryz.ajH:Go.Proofs.SlLaysF.n6 AT Tryz.KR:={
 mixed:=by kernel_rfl
 f6:=⟨Tryz.f208.name,by decide,Tryz.func208.trans (congrArg AI (by kernel_rfl))⟩
 f14:=⟨Tryz.f242.name,by decide,Tryz.func242.trans (congrArg AI (by kernel_rfl))⟩
 f15:=Tryz.func158.trans (congrArg AI (by kernel_rfl))
 f20:=⟨Tryz.f275.name,by decide,Tryz.func275.trans (congrArg AI (by kernel_rfl))⟩
 f21:=⟨Tryz.f276.name,by decide,Tryz.func276.trans (congrArg AI (by kernel_rfl))⟩
 f22:=⟨Tryz.f277.name,by decide,Tryz.func277.trans (congrArg AI (by kernel_rfl))⟩
 f23:=⟨Tryz.f278.name,by decide,Tryz.func278.trans (congrArg AI (by kernel_rfl))⟩
 f24:=⟨Tryz.f279.name,by decide,Tryz.func279.trans (congrArg AI (by kernel_rfl))⟩
 f25:=⟨Tryz.f280.name,by decide,Tryz.func280.trans (congrArg AI (by kernel_rfl))⟩
 f26:=⟨Tryz.f281.name,by decide,Tryz.func281.trans (congrArg AI (by kernel_rfl))⟩
 f27:=⟨Tryz.f282.name,by decide,Tryz.func282.trans (congrArg AI (by kernel_rfl))⟩
 f28:=Tryz.func206.trans (congrArg AI (by kernel_rfl))
 f29:=Tryz.func207.trans (congrArg AI (by kernel_rfl))
 f46:=⟨Tryz.f293.name,by decide,Tryz.func293.trans (congrArg AI (by kernel_rfl))⟩
 f47:=Tryz.func245.trans (congrArg AI (by kernel_rfl))
 f48:=Tryz.func246.trans (congrArg AI (by kernel_rfl))
 f49:=⟨Tryz.f294.name,by decide,Tryz.func294.trans (congrArg AI (by kernel_rfl))⟩
 f50:=⟨Tryz.f295.name,by decide,Tryz.func295.trans (congrArg AI (by kernel_rfl))⟩
 f57:=⟨Tryz.f306.name,by decide,Tryz.func306.trans (congrArg AI (by kernel_rfl))⟩
 t0:=Oe
 a0:=Qe
 z0:=OZ
 v0:=Oq
 t3:=IH
 a3:=No
 z3:=JY
 v3:=J0
 t4:=Jo
 a4:=OE
 z4:=Oo
 v4:=J1
 t5:=JA
 a5:=Qw
 z5:=Qd
 v5:=OF
 t9:=IF
 a9:=Oj
 z9:=J8
 v9:=Ob
 t22:=underlying207
 a22:=isAgg207
 z22:=sizeOf207
 v22:=Tryz.zeroValue207
 a24:=No
 z24:=JY
 t25:=underlying260
 a25:=isAgg260
 z25:=sizeOf260
 v25:=Tryz.zeroValue260
 t39:=OK
 a39:=QB
 z39:=Qp
 v39:=OU
 t45:=underlying262
 a45:=isAgg262
 z45:=sizeOf262
 v45:=Tryz.zeroValue262
 t46:=underlying263
 a46:=isAgg263
 z46:=sizeOf263
 v46:=Tryz.zeroValue263
 t50:=underlying42
 a50:=isAgg42
 z50:=sizeOf42
 v50:=Tryz.zeroValue42
 t53:=OL
 a53:=QC
 z53:=Qq
 v53:=OV
 t55:=Ux
 a55:=isAgg258
 z55:=sizeOf258
 v55:=Tryz.zeroValue258
 t66:=underlying284
 a66:=isAgg284
 z66:=sizeOf284
 v66:=Tryz.zeroValue284
 t70:=underlying288
 a70:=isAgg288
 z70:=sizeOf288
 v70:=Tryz.zeroValue288
 t76:=underlying310
 a76:=isAgg310
 z76:=sizeOf310
 v76:=Tryz.zeroValue310
 t77:=underlying311
 a77:=isAgg311
 z77:=sizeOf311
 v77:=Tryz.zeroValue311 }
end Go.Proofs
namespace Go.Proofs.YtipbebleapjcjaaGreatDoor
open Go.RowKit Go.Sort Go.Shelf Go.Lib
theorem WQ(rs:List nQ)(i k:Nat):cfR rs i k<0↔(rs.getD i dr).told<(rs.getD k dr).told\/((rs.getD i dr).told=(rs.getD k dr).told/\k<i):=by
 unfold cfR orZ Gm;generalize(rs.getD i dr).told=a;generalize(rs.getD k dr).told=b
 repeat' split
 all_goals omega
def cfF(rs:List nQ)(m:Nat)(x y:Fin (m+1)):Int:=cfR rs x.val y.val
theorem ltF(rs:List nQ)(m:Nat)(x y:Fin (m+1)):ltOf (cfF rs m) x y=true↔(rs.getD x.val dr).told<(rs.getD y.val dr).told\/((rs.getD x.val dr).told=(rs.getD y.val dr).told/\y.val<x.val):=by
 unfold ltOf cfF;rw[decide_eq_true_iff,WQ]
theorem C8(rs:List nQ)(m:Nat)(x y:Fin (m+1)):ltOf (cfF rs m) x y=false↔¬ ((rs.getD x.val dr).told<(rs.getD y.val dr).told\/((rs.getD x.val dr).told=(rs.getD y.val dr).told/\y.val<x.val)):=by
 rw[<- ltF,Bool.not_eq_true]
theorem awD(rs:List nQ)(m:Nat):SWO (ltOf (cfF rs m)) where
 irrefl x:=by rw[C8];omega
 trans x y z h1 h2:=by rw[ltF] at *;omega
 ntrans x y z h1 h2:=by rw[C8] at *;omega
def C9(m:Nat)(x:Fin (m+1)):Value:=O J (x.val:Nat)
def xB(m:Nat):Array (Fin (m+1)):=Array.ofFn (λx=>x)
theorem tn(m:Nat):(xB m).size=m+1:=by simp[xB]
theorem PT(m j:Nat)(hj:j<m+1):(xB m)[j]! = ⟨j,hj⟩:=by
 rw[getElem!_pos _ j (by rw[tn];exact hj)];simp[xB]
theorem aa3(m:Nat):(xB m).toList.map (·.val)=J5 (m+1):=by
 apply List.ext_getElem
 .simp[xB]
 .intro j h1 h2
  rw[List.getElem_map,List.getElem_range,Array.getElem_toList];simp only[xB,Array.getElem_ofFn]
theorem T7(W:World)(o:Obj):(W.alloc o).drew=grow (W.drewN 1) #[o]:=by
 simp only[grow,World.alloc,World.drew,World.drewN,Array.push_eq_append]
theorem awE(rs:List nQ)(m lb b off ca g:Nat)(w:World)(hn:rs.length=m+1)(hr:vU w b off rs)(hl:w.cell? ⟨lb,0,U⟩=AI (sh (AI ⟨b,off,U⟩) (m+1) ca))(h1:lb≠g)(h2:b≠g)(hb:b<w.heap.size) :
 CmpLays1 AT 209 #[Ik (AI ⟨lb,0,U⟩)] (C9 m) (cfF rs m) g 0 (xB m).size w:=by
 intro q os dk hs x y;have MR:=II w _ hl;have c1:=(Qx (C9 m) w g 0 q dk os ⟨lb,0,U⟩ h1 MR).trans hl;have c2:=(Qx (C9 m) w g 0 q dk os ⟨b,off+x.val*6+5,U⟩ h2 hb).trans (hr x.val (by rw[hn];exact x.isLt)).2.2.2.2.2;have c3:=(Qx (C9 m) w g 0 q dk os ⟨b,off+y.val*6+5,U⟩ h2 hb).trans (hr y.val (by rw[hn];exact y.isLt)).2.2.2.2.2;refine(aaW _ _ lb b off (m+1) ca x.val y.val _ c1 x.isLt y.isLt c2 c3).mono ?_;rintro e w' ⟨rfl,rfl⟩;exact⟨rfl,1,_,T7 _ _⟩
theorem afa{rs:List nQ}{m:Nat}{d':Array (Fin (m+1))}(hn:rs.length=m+1)(hp:PermIn 0 (xB m).size (xB m) d')(hs:SortedIn (ltOf (cfF rs m)) 0 (xB m).size d'):uT rs (d'.toList.map (·.val)):=by
 obtain⟨od,_,Nf⟩:=hp;rw[UC,show d'.extract 0 (xB m).size=d' by rw[<- od,UC]] at Nf;have hP:(d'.toList.map (·.val)).Perm (J5 rs.length):=by
  rw[hn,<- aa3];exact Nf.map _
 have hlen:(d'.toList.map (·.val)).length=m+1:=by rw[hP.length_eq,hn];simp
 have DZ:=hP.nodup_iff.2 List.nodup_range;refine⟨hP,λi j yp hj=>?_⟩;have hds:d'.size=m+1:=by rw[od,tn]
 have tS:j<d'.size:=by rw[hds];omega
 have hi':i<d'.size:=by omega
 have e1:(d'.toList.map (·.val)).getD i 0=d'[i].val:=by rw[Cc (by omega)];simp
 have e2:(d'.toList.map (·.val)).getD j 0=d'[j].val:=by rw[Cc hj];simp
 have nK:=Jy.1 DZ i j (by omega) hj yp;simp only[List.getElem_map,Array.getElem_toList] at nK;have h:=hs i j (by omega) yp (by rw[tn];omega);rw[getElem!_pos d' j tS,getElem!_pos d' i hi',C8] at h;rw[e1,e2,WQ];omega
abbrev PU(k:Nat):List Value:=(J5 k).map (λj=>Value.int J (j:Nat))
theorem aa4(k:Nat):PU (k+1)=PU k++[O J (k:Nat)]:=by simp[PU,List.range_succ]
theorem Eh{m:Nat}{B:Nat}{w:World}{g off n:Nat}{d:Array (Fin (m+1))}{os:Array Obj}(hg:B<=g)(hB:B<=w.heap.size):Below B w (Uf (C9 m) w g off n d os):=by
 refine⟨rfl,rfl,rfl,by simp[Uf,putRow,mapBlock,Ju,grow],λk hk=>?_⟩;unfold Uf;rw[QZ _ _ (by simp[putRow,mapBlock,Ju];omega)]
 have:g≠k:=by omega
 simp[putRow,mapBlock,Ju,On,this]
theorem T8(rs:List nQ)(v:Value)(m:Nat)(hn:rs.length=m+1)(Ho:m<1000):C5 rs v:=by
 intro w hv;obtain⟨i0,qg,oS,so,sf⟩:=info_parts Tryz.ao2;obtain⟨pa,ca,rfl,_,ha⟩:=hv;obtain⟨b,off,Tn,MR,hr⟩:∃b off,pa=AI ⟨b,off,U⟩/\b<w.heap.size/\vU w b off rs:=by
  rcases ha with h|h
  .rw[h] at hn;simp at hn
  .exact h
 subst Tn;have HR:Hid (vU w b off rs):=hr;have HN:Hid _:=hn;rw[hn];clear ha hr hn;have eg:=QF func209 (by kernel_rfl) rfl;have HEG:Hid _:=eg;clear eg;go_enter func159,ntmps159;go_wp2_with fail;go_loopw [3,7] (λo i wr=>∃k:Nat,k<=m+1/\i=O J k/\Hid (wr.ownsRow (w.heap.size+1) 3 1 o k (PU k))/\Hid (Below (w.heap.size+1) (w.alloc (Ib #[sh (AI ⟨b,off,U⟩) (m+1) ca] 23)) wr)) (λ_ i _=>m+1-(intOf i).toNat)
 case atStart=>exact⟨0,Iw _,rfl,World.ownsRow_nil _ _ _ _,If _ _⟩
 case round=>
  obtain⟨k,hk,rfl,HO,HB⟩:=hrel;have od:w.heap.size+1<=wr.heap.size:=by have:=HB.out.size;simpa using this
  by_cases mS:k<m+1
  .have sI:Hid (∀ob,(wr.alloc ob).ownsRow (w.heap.size+1) 3 1 u3 k (PU k)):=λob=>by
    obtain⟨h1,h2⟩:=HO.out;refine⟨h1,?_⟩;rcases h2 with h2|⟨g,c,cur,hv,qa,hg,hr⟩
    .exact .inl h2
    .exact .inr ⟨g,c,cur,hv,qa,by rw[((If wr.heap.size wr).alloc (By _) ob).block g (Ig.1 hg).1];exact hg,hr⟩
   have Mq:Hid (∀j,u3.ownBlock=AI j->w.heap.size+1<=j):=λj hj=>(I3 HO.out j hj).1;clear HO;go_wp2_with (at_builtin;refine IY _ rfl _ _ 207 rfl (w.heap.size+1) 3 i0 _ 1 8 underlying207 qg oS so sf rfl (by omega) _ k (PU k) rfl ?hown ⟨wr.heap.size,0,U⟩ 1 1 [O J k] rfl rfl ?hnews (by simp[Value.oneCell']) ?h63 ?hbytes ?hbase ?_)
   case hown=>exact sI.out _
   case hnews=>(intro j u hj;rw[Addr.add_lit];exact(oP rfl).trans (by simpa using hj))
   case h63=>(unfold Il;omega)
   case hbytes=>omega
   case hbase=>(simp;omega)
   intro v' w2 r1 r2 r3;have R1:Hid (w2.ownsRow (w.heap.size+1) 3 1 v' (k+1) (PU (k+1))):=by rw[aa4];exact r1
   have R2:Hid (Below (w.heap.size+1) (w.alloc (Ib #[sh (AI ⟨b,off,U⟩) (m+1) ca] 23)) w2):=
    (HB.out.alloc od _).grown r2 (by simp;omega) (λj hj=>Mq.out j hj)
   clear r1 r2 r3;go_wp2_with fail;exact⟨⟨k+1,by omega,by go_num,R1.out,R2.out⟩,by simp[intOf];omega⟩
  .have tp:k=m+1:=by omega
   subst tp;obtain⟨g,c,hu3,qa,qw,nG,ux⟩:∃g c,u3=sh (AI ⟨g,0,U⟩) (m+1) c/\w.heap.size+1<=g/\m+1<=c/\(∀j,j<m+1->wr.cell? ⟨g,j,U⟩=AI (O J (j:Nat)))/\(∀j,wr.frozen? ⟨g,j,U⟩=false):=by
    have hO:=HO.out;rcases HO.out.2 with⟨_,h0⟩|⟨g,c,cur,hv,qa,hg,rF,qw,oH,nA⟩
    .omega
    .subst hv
     refine⟨g,c,rfl,qa,rF,λj hj=>?_,λj=>JE hO j⟩;rw[ON hO j (by omega)];simp[PU,hj]
   subst hu3;have Bo:=II wr ⟨g,0,U⟩ (nG 0 (by omega));have awF:wr.cell? ⟨w.heap.size,0,U⟩=AI (sh (AI ⟨b,off,U⟩) (m+1) ca):=by
    rw[HB.out.cell (p:=⟨w.heap.size,0,U⟩) (by simp only;omega)];exact oP rfl
   have pO:=(HR.out.below ((If w.heap.size w).alloc (By _) _) MR).below HB.out (by omega);have zW:=Any.slices_SortFunc Tryz.ajH (C9 m) (λ_=>rfl) (cfF rs m) (awD rs m) 209 #[Ik (AI ⟨w.heap.size,0,U⟩)] g 0 c (xB m) wr HEG.out (awE rs m w.heap.size b off ca g wr HN.out pO awF (by omega) (by omega) (by omega)) (λj hj=>by
    rw[tn] at hj;rw[PT m j hj,I6];exact⟨nG j hj,ux j⟩) Bo (by rw[tn];omega)
   have aqS:Calls AT 208 #[sh (AI ⟨g,0,U⟩) (m+1) c,JD (.func 209) #[] #[Ik (AI ⟨w.heap.size,0,U⟩)]] wr λe w'=>e=Ia (Ir #[])/\∃d' n os,PermIn 0 (xB m).size (xB m) d'/\SortedIn (ltOf (cfF rs m)) 0 (xB m).size d'/\w'=Uf (C9 m) wr g 0 n d' os:=by
    have h:=zW;rw[show sh (AI ⟨g,0,U⟩) (xB m).size c=sh (AI ⟨g,0,U⟩) (m+1) c by rw[tn]] at h;exact h
   have HHH:Hid (Holds (C9 m) wr g 0 (xB m)):=λj hj=>by
    rw[tn] at hj;rw[PT m j hj,I6];exact⟨nG j hj,ux j⟩
   clear zW nG ux pO HO;go_wp2_with fail;refine aqS.mono ?_;rintro e w2 ⟨rfl,d',nd,os,hp,hs,xN⟩;have Hf:Hid _:=afa HN.out hp hs;have hds:d'.size=m+1:=by rw[hp.1,tn]
   have HCT:Hid (∀j,j<m+1->w2.cell? ⟨g,j,U⟩=AI (O J ((d'.toList.map (·.val)).getD j 0:Nat))):=λj hj=>by
    have h1:=cell?_putRow (C9 m) (Ju wr nd) g 0 (xB m) d' (show Holds (C9 m) (Ju wr nd) g 0 (xB m) from HHH.out) hp.1 j (by omega);have h2:w2.cell? ⟨g,0+j,U⟩=(putRow (C9 m) (Ju wr nd) g 0 d').cell? ⟨g,0+j,U⟩:=by
     rw[xN];exact cell?_grow _ _ _ (by
      have h3:=II (putRow (C9 m) (Ju wr nd) g 0 d') ⟨g,0+j,U⟩ h1;exact h3)
    rw[I6] at h1 h2;rw[h2,h1,getElem!_pos d' j (by omega)];simp[C9,Ip,hds,hj]
   have HBB:Hid (Below w.heap.size w w2):=by
    rw[xN];exact(((If w.heap.size w).alloc (By _) _).trans (HB.out.mono (Nat.le_succ _))).trans (Eh (by omega) (by omega))
   clear HHH hp hs xN;go_wp2_with fail;go_ret;exact⟨g,c,d'.toList.map (·.val),rfl,Hf.out,HCT.out,qw,by omega,HBB.out⟩
end Go.Proofs.YtipbebleapjcjaaGreatDoor
namespace Go.Proofs.YtipbebleapjcjaaGreatDoor
open Go.RowKit Go.Sort Go.Lib
def cfM(a b:Mem):Int:=oh a.name b.name
theorem aa5(x y:Mem)(W:World):ni 103 #[Iu #[I x.name,O J x.state,O J x.nJ,O J x.addr,Ic x.server],Iu #[I y.name,O J y.state,O J y.nJ,O J y.addr,Ic y.server]] W λe w'=>e=Ia (O J (cfM x y))/\∃q os',w'=grow (W.drewN q) os':=by
 unfold cfM;go_enter func103,ntmps103;go_wp2_with (go_at_call 104;refine(sV _ _ _).mono ?_;rintro e w' ⟨rfl,rfl⟩);go_ret;exact⟨rfl,0,_,by rw[alloc_eq_grow,alloc_eq_grow,grow_grow];rfl⟩
theorem afb[Inhabited Mem](blk off size:Nat)(w:World):CmpLays AT 103 #[] Mem.cs 5 cfM blk off size w:=λ_ _ _ _ x y=>aa5 x y _
theorem awG:SWO (ltOf cfM) where
 irrefl x:=by simp[ltOf,cfM,(oQ x.name x.name).2 rfl]
 trans x y z:=by
  simp only[ltOf,cfM,decide_eq_true_eq,pB];exact λh1 h2=>sM h1 h2
 ntrans x y z:=by
  intro h1 h2;have h1:=of_decide_eq_false h1;have h2:=of_decide_eq_false h2;refine decide_eq_false λh3=>?_;have h3:oh x.name z.name<0:=h3;rcases Int.lt_trichotomy (oh x.name y.name) 0 with h|h|h
  .exact h1 h
  .have e:x.name=y.name:=(oQ _ _).1 h
   rw[e] at h3;exact h2 h3
  .have h4:=(Bn _ _).1 h
   exact h2 ((pB _ _).2 (sM h4 ((pB _ _).1 h3)))
theorem aa6[Inhabited Mem]{base:Nat}{w:World}{g c:Nat}{l:List Mem}(h:Own base w (sh (AI ⟨g,0,U⟩) l.length c) l):HoldsK Mem.cs 5 w g 0 l.toArray:=by
 rcases h.2 with⟨h1,_⟩|⟨g',c',cur,h1,qa,hg,rF,qw,oH,nA⟩
 .cases h1
 .simp only[IM,Jd,JV] at h1
  obtain⟨⟨rfl,_,_⟩,_,_⟩:=h1;intro j hj;rw[size_flatK] at hj;have tS:j<l.length*5:=by simpa using hj
  refine⟨?_,tj hg _⟩;rw[fi hg,I6,get_flatK Mem.cs 5 l.toArray j (by simpa using tS)];have e1:=rz l (j/5) (by omega) (j%5) (by omega);rw[show j/5*5+j%5=j by omega] at e1;have e2:cur[j]?=(fl l)[j]?:=by rw[<- nA,IQ (by omega)];simp
  rw[e2,e1];have e3:l.toArray[j/5]! = l.getD (j/5) dm:=by
   have mS:j/5<l.length:=by omega
   simp[Ip,mS]
  rw[e3];have hl:j%5<(l.getD (j/5) dm).cs.length:=by rw[oj];omega
  rw[Ih hl,getElem!_pos (l.getD (j/5) dm).cs (j%5) hl];rfl
theorem PV[Inhabited Mem]{w:World}{g m:Nat}{d:Array Mem}{os:Array Obj}{cur:Array Value}{T:TypeId}{fr:Nat×Nat}(hg:w.heap[g]?=AI (Ib cur T fr)) : (QT Mem.cs 5 w g 0 m d os).heap[g]?=AI (Ib (putCells id 0 (flatK Mem.cs 5 d) cur) T fr):=by
 have mS:=(Ig.1 hg).1;have RV:g<(putRowK Mem.cs 5 (Ju w m) g 0 d).heap.size:=by
  show g<(putRow id (Ju w m) g 0 _).heap.size;rw[size_putRow];exact mS
 show((putRowK Mem.cs 5 (Ju w m) g 0 d).heap++os)[g]?=_;rw[Array.getElem?_append_left RV];show(w.heap.modify g (onCells (putCells id 0 (flatK Mem.cs 5 d))))[g]?=_;rw[On,if_pos rfl,hg];rfl
theorem T9[Inhabited Mem]{base:Nat}{w:World}{g c m:Nat}{l:List Mem}{os:Array Obj}(h:Own base w (sh (AI ⟨g,0,U⟩) l.length c) l)(d:Array Mem)(hs:d.size=l.length) :
 Own base (QT Mem.cs 5 w g 0 m d os) (sh (AI ⟨g,0,U⟩) l.length c) d.toList:=by
 rcases h.2 with⟨h1,_⟩|⟨g',c',cur,h1,qa,hg,rF,qw,oH,nA⟩
 .cases h1
 .simp only[IM,Jd,JV] at h1
  obtain⟨⟨rfl,_,_⟩,_,rfl⟩:=h1;have hl:d.toList.length=l.length:=by simpa using hs
  have ho:Own base (QT Mem.cs 5 w g 0 m d os) (sh (AI ⟨g,0,U⟩) d.toList.length c) d.toList:=by
   refine EO qa (PV hg) (by simp[putCells,oH]) (by omega) qw ?_;apply List.ext_getElem?;intro t;by_cases ht:t<d.toList.length*5
   .have htc:t<cur.size:=by rw[oH];have:l.length*5<=c*5:=Nat.mul_le_mul_right 5 rF;omega
    rw[IQ ht];have e1:=rz d.toList (t/5) (by omega) (t%5) (by omega);rw[show t/5*5+t%5=t by omega] at e1;rw[e1];have od:t<d.size*5:=by simpa using ht
    have e2:(putCells id 0 (flatK Mem.cs 5 d) cur).toList[t]?=AI (flatK Mem.cs 5 d)[t]! := by
     simp only[putCells,Array.getElem?_toList,Array.getElem?_mapIdx,Array.getElem?_eq_getElem htc,Option.map_some];rw[if_pos ⟨Iw _,by rw[size_flatK];omega⟩];rfl
    rw[e2,get_flatK Mem.cs 5 d t od];have e3:d[t/5]! = d.toList.getD (t/5) dm:=by
     have mS:t/5<d.size:=by omega
     simp[Ip,mS]
    rw[e3];have oR:t%5<(d.toList.getD (t/5) dm).cs.length:=by rw[oj];omega
    rw[Ih oR,getElem!_pos (d.toList.getD (t/5) dm).cs (t%5) oR]
   .rw[IK (by rw[IA];omega),IK (by rw[pD];omega)]
  rw[<- hl];exact ho
theorem aqT(n:Nat)(W:World)(h:n<=12):ni 158 #[O .u64 n] W λe w'=>(∃l:Int,e=Ia (O J l))/\w'=W:=
 (Tryz.bits_Len n W (by omega) (by omega)).mono λ_ _ ⟨he,hw⟩=>⟨⟨_,he⟩,hw⟩
theorem PW[Inhabited Mem]{B:Nat}{w:World}{g n:Nat}{d:Array Mem}{os:Array Obj}(hg:B<=g)(hB:B<=w.heap.size):Go.RowKit.Below B w (QT Mem.cs 5 w g 0 n d os):=by
 refine⟨rfl,rfl,rfl,by simp[QT,putRowK,putRow,mapBlock,Ju,grow],λk hk=>?_⟩;unfold QT;rw[QZ _ _ (by simp[putRowK,putRow,mapBlock,Ju];omega)]
 have:g≠k:=by omega
 simp[putRowK,putRow,mapBlock,Ju,On,this]
theorem afc[Inhabited Mem]{w:World}{g n:Nat}{d:Array Mem}{os:Array Obj}:Sh (λk=>k=g) w (QT Mem.cs 5 w g 0 n d os):=by
 refine⟨rfl,rfl,rfl,by simp[QT,putRowK,putRow,mapBlock,Ju,grow],λk hk nK=>?_⟩;unfold QT;rw[QZ _ _ (by simp[putRowK,putRow,mapBlock,Ju];omega)]
 have:g≠k:=λe=>nK e.symm
 simp[putRowK,putRow,mapBlock,Ju,On,this]
def afd(l:List Mem):Prop:=∀i j,i<j->j<l.length->0<=oh (l.getD j dm).name (l.getD i dm).name
theorem Va(base:Nat)(l:List Mem)(g c:Nat)(w:World)(h:Own base w (sh (AI ⟨g,0,U⟩) l.length c) l)(hb:base<=w.heap.size)(hl:l.length<=12) :
 ni 102 #[sh (AI ⟨g,0,U⟩) l.length c,JD (.func 103) #[] #[]] w λe w'=>e=Ia (Ir #[])/\∃l':List Mem,l'.Perm l/\afd l'/\Own base w' (sh (AI ⟨g,0,U⟩) l.length c) l'/\Go.RowKit.Below base w w'/\Sh (λk=>k=g) w w':=by
 have eg:∀args w,(Q6 103 args).run AT w=.ok (.enter 103 args) w:=QF func103 (by kernel_rfl) rfl;have Ak:=h.lt g rfl;have ac0:Inhabited Mem:=⟨dm⟩;have zW:=AnyQ.slices_SortFunc_small_sorted Tryz.aqQ 5 isAgg55 sizeOf55 Mem.cs oj pX cfM 103 #[] awG g 0 c l.toArray w eg (afb g 0 _ w) (aa6 h) Ak.2 (by simpa using hl) aqT;rw[List.size_toArray] at zW;refine Calls.mono zW ?_;rintro e w' ⟨rfl,d,n,os,hp,hs,rfl⟩;obtain⟨p1,_,p3⟩:=hp;have od:d.size=l.length:=by simpa using p1
 refine⟨rfl,d.toList,?_,λi j yp hj=>?_,T9 h d od,PW Ak.1 hb,afc⟩
 .have e1:d.extract 0 l.length=d:=by rw[<- od];simp
  have e2:l.toArray.extract 0 l.length=l.toArray:=by simp
  rw[e1,e2] at p3;simpa using p3
 .have tS:j<d.size:=by simpa using hj
  have h2:=hs i j (Iw _) yp (by rw[<- od];exact tS);have h3:¬ oh (d[j]!).name (d[i]!).name<0:=of_decide_eq_false h2;have e1:d[j]! = d.toList.getD j dm:=by simp[Ip,tS]
  have e2:d[i]! = d.toList.getD i dm:=by simp[Ip,show i<d.size by omega]
  rw[e1,e2] at h3;omega
theorem aa7(f:Value)(w:World) :
 ni 211 #[sh U 0 0,O J 0,O J 0,f] w λe w'=>e=Ia (Ir #[])/\w'=w:=by
 go_enter func211,ntmps211;go_wp2_with fail;refine J2 1 ?_;rw[JF];go_wp2_with fail;go_end0
 exact⟨rfl,rfl⟩
theorem aa8(k:Int)(f:Value)(w:World) :
 ni 162 #[sh U 0 0,O J 0,O J 0,O J k,f] w λe w'=>e=Ia (Ir #[])/\w'=w:=by
 go_enter func162,ntmps162;go_wp2_with fail;refine J2 1 ?_;rw[JF];go_wp2_with (go_at_call 211;refine(aa7 _ _).mono ?_;rintro e w' ⟨rfl,rfl⟩)
 (try simp only[Exit.inBlock,Exit.then]);refine IE (results_none rfl _ _ _) rfl ?_
 exact⟨rfl,rfl⟩
theorem Vb(f:Value)(w:World) :
 ni 102 #[sh U 0 0,f] w λe w'=>e=Ia (Ir #[])/\w'=w:=by
 go_enter func102,ntmps102;go_wp2_with (go_at_call 158;refine(Tryz.bits_Len _ _ (by omega) (by omega)).mono ?_;rintro e w' ⟨rfl,rfl⟩);refine(aa8 _ _ _).mono ?_;rintro e w' ⟨rfl,rfl⟩;go_wp2_with fail;go_end0
 exact⟨rfl,rfl⟩
theorem aa9(base:Nat)(l:List Mem)(v:Value)(w:World)(h:Own base w v l)(hb:base<=w.heap.size)(hl:l.length<=12) :
 ni 102 #[v,JD (.func 103) #[] #[]] w λe w'=>e=Ia (Ir #[])/\∃l':List Mem,l'.Perm l/\afd l'/\Own base w' v l'/\Go.RowKit.Below base w w'/\Sh (λk=>v.ownBlock=AI k) w w':=by
 rcases h.2 with⟨h1,h2⟩|⟨g,c,cur,h1,_⟩
 .subst h1
  have he:=I5 h2;subst he;refine(Vb _ w).mono ?_;rintro e w' ⟨rfl,rfl⟩;exact⟨rfl,[],.refl _,λi j _ hj=>by simp at hj,nh _ _,Go.RowKit.Below.refl _ _,Sh.refl _ _⟩
 .subst h1
  refine(Va base l g c w h hb hl).mono ?_;rintro e w' ⟨rfl,l',h1,h2,h3,h4,h5⟩;exact⟨rfl,l',h1,h2,h3,h4,h5.mono (λk hk=>by rw[hk];rfl)⟩
end Go.Proofs.YtipbebleapjcjaaGreatDoor
namespace Go.Proofs.YtipbebleapjcjaaGreatDoor
open Go.RowKit Go.Sort Go.Shelf Go.Lib
theorem Vc(v:Value)(w:World)(hv:yd w v []) :
 Calls AT 159 #[v] w λe w'=>e=Ia (sh U 0 0)/\Below w.heap.size w w':=by
 obtain⟨pa,ca,rfl,_,_⟩:=hv;simp only[OH];have hs:=λ(fv:Value) (W:World)=>AnyF.slices_SortFunc_none (P:=AT) (ρ:=Tryz.KR) { Tryz.ajH with } U 0 fv W;have HS:Hid _:=hs;clear hs;have zZ:Below w.heap.size w (w.alloc (Ib #[sh pa 0 ca] 23)):=(If _ _).alloc (By _) _;go_enter func159,ntmps159;go_wp2_with fail;refine J2 1 ?_;rw[JF];go_wp2_with fail;refine(HS.out _ _).mono ?_;rintro e w' ⟨rfl,rfl⟩;go_wp2_with fail;go_ret;exact⟨rfl,zZ⟩
theorem Gr(p:Option Addr)(c:Nat)(fv:Value)(w:World) :
 Calls AT 121 #[sh p 0 c,fv] w λe w'=>e=Ia (O J (-1))/\w'=w:=by
 go_enter func121,ntmps121;go_wp2_with fail;refine J2 1 ?_;rw[JF];go_wp2_with fail;go_ret;exact⟨rfl,rfl⟩
theorem Ei(p:Option Addr)(c:Nat)(fv:Value)(w:World) :
 Calls AT 160 #[sh p 0 c,fv] w λe w'=>e=Ia (sh p 0 c)/\w'=w:=by
 go_enter func160,ntmps160;go_wp2_with fail;refine(Gr _ _ _ _).mono ?_;rintro e w' ⟨rfl,rfl⟩;go_wp2_with fail;go_ret;exact⟨rfl,rfl⟩
theorem aba(v:Value)(most times:Int)(w:World)(hv:yd w v [])(h0:o5 []=0)(hm:within most 1 20=true)(ht:within times 1 100=true) :
 Calls AT 101 #[v,O J most,O J times] w λe w'=>∃v1 v2,e=Ia (Ir #[v1,v2,O J 0])/\Own w.heap.size w' v1 []/\oE w.heap.size w' v2 []/\Below w.heap.size w w':=by
 have HV:Hid (yd w v []):=hv;have Cu:1<=most/\most<=20:=by simp[within] at hm;omega
 obtain⟨Cu,XG⟩:=Cu;have vE:=λ(w:World) (h:yd w v [])=>sP [] v w h;rw[h0] at vE;obtain⟨pa,ca,rfl,_,_⟩:=hv;simp only[OH] at *;have zZ:Below w.heap.size w (w.alloc (Ib #[O J times] 3)):=(If _ _).alloc (By _) _;go_enter func101,ntmps101;go_wp2_with fail;refine(vE _ (HV.out.below zZ)).mono ?_;rintro e w1 ⟨rfl,mO⟩;have c1:w1.cell? ⟨w.heap.size,0,U⟩=AI (O J times):=by
  rw[mO.cell (p:=⟨w.heap.size,0,U⟩) (by simp)];exact oP rfl
 have mY:Hid _:=zZ.trans (mO.mono (by simp));clear mO zZ vE;go_wp2_with (go_at_call 89;refine(oe _ _ _ _).mono ?_;rintro e w' ⟨rfl,rfl⟩;first|rw[hm]|rw[ht]);refine(sQ [] _ _ (HV.out.below mY.out) (by simp)).mono ?_;rintro e w3 ⟨v3,rfl,AR,nC⟩;have tQ:Hid (oE _ _ _ _):=AR.base mY.out.size;have oT:Hid _:=mY.out.trans (nC.mono mY.out.size);clear nC AR c1;go_wp2_with fail;refine(Vc _ _ (HV.out.below oT.out)).mono ?_;rintro e w4 ⟨rfl,qA⟩;have qP:Hid _:=oT.out.trans (qA.mono oT.out.size);have Cm:Hid (oE _ _ _ _):=tQ.out.below qA;clear qA tQ;obtain⟨g,c,SZ⟩:∃g c,v3=sh g 0 c:=by
  rcases Cm.out.2 with⟨h,_⟩|⟨g,c,cur,h,_⟩
  .exact⟨_,_,h⟩
  .exact⟨_,_,h⟩
 subst SZ;have awB:min most 0=0:=by omega
 go_wp2_with fail;refine J2 1 ?_;rw[JF];go_wp2_with fail;refine(Ei _ _ _ _).mono ?_;rintro e w' ⟨rfl,rfl⟩;go_wp2_with fail;go_ret3
 exact⟨_,_,rfl,nh _ _,Cm.out,qP.out⟩
end Go.Proofs.YtipbebleapjcjaaGreatDoor
namespace Go.Proofs.YtipbebleapjcjaaGreatDoor
open Go.RowKit
def Me(rs:List nQ)(times:Int)(told:List Mem)(rest:List nQ):Prop:=
 (rs=[]/\told=[]/\rest=[])\/(0<rs.length/\∃ord,uT rs ord/\told=tU rs ord (min 5 rs.length)/\rest=(bump rs ord (min 5 rs.length)).filter (qL times))
theorem Vd{rs:List nQ}{times:Int}{told:List Mem}{rest:List nQ}(h:Me rs times told rest):told.length<=5:=by
 rcases h with⟨_,rfl,_⟩|⟨_,ord,_,rfl,_⟩
 .simp
 .unfold tU;rw[I8,IA];omega
theorem abb{rs:List nQ}{ord:List Nat}{k:Nat}(h:uT rs ord){m:Mem}(hm:m∈tU rs ord k):∃r∈rs,r.m=m:=by
 unfold tU at hm;obtain⟨i,hi,rfl⟩:=Ot.1 hm;have hb:=h.bd i (List.mem_of_mem_take hi);refine⟨rs[i],IU _,?_⟩;simp[Ip,Ih hb]
theorem PX(rs:List nQ):∀(is:List Nat) (r:nQ),r∈is.foldl uq rs->(∃x∈rs,x.m=r.m)\/r.m=dm
 |[],r,h=>.inl ⟨r,h,rfl⟩
 |i::is,r,h=>by
  rw[Ut] at h;rcases PX (uq rs i) is r h with⟨x,hx,e⟩|e
  .unfold uq at hx
   rcases List.mem_or_eq_of_mem_set hx with hx|rfl
   .exact .inl ⟨x,hx,e⟩
   .by_cases hi:i<rs.length
    .exact .inl ⟨rs[i],IU _,by rw[<- e];simp[Ip,Ih hi]⟩
    .exact .inr (by rw[<- e];simp[Ip,IK (Nat.le_of_not_lt hi),dr])
  .exact .inr e
theorem abc{rs:List nQ}{times:Int}{told:List Mem}{rest:List nQ}(h:Me rs times told rest)(hr:∀r∈rs,r.m.name.size<=Il):(∀m∈told,m.name.size<=Il)/\∀r∈rest,r.m.name.size<=Il:=by
 rcases h with⟨_,rfl,rfl⟩|⟨_,ord,ho,rfl,rfl⟩
 .exact⟨λm hm=>by simp at hm,λm hm=>by simp at hm⟩
 .refine⟨λm hm=>?_,λr hrr=>?_⟩
  .obtain⟨r,h1,rfl⟩:=abb ho hm;exact hr r h1
  .have h1:=(List.mem_filter.1 hrr).1
   rcases PX rs _ r h1 with⟨x,hx,e⟩|e
   .rw[<- e];exact hr x hx
   .rw[e];simp[dm]
theorem abd(rs:List nQ)(v:Value)(times:Int)(w:World)(hv:yd w v rs)(h0:o5 rs=0)(ht:within times 1 100=true) :
 ni 101 #[v,O J 5,O J times] w λe w'=>∃a k c a2 k2 c2 told rest,e=Ia (Ir #[sh a k c,sh a2 k2 c2,O J 0])/\Hid (Me rs times told rest)/\Own w.heap.size w' (sh a k c) told/\oE w.heap.size w' (sh a2 k2 c2) rest/\Below w.heap.size w w':=by
 by_cases hp:0<rs.length
 .have hT:=T8 rs v (rs.length-1) (by omega) (by have:=(wA h0).1;omega)
  refine(aa1 rs v 5 times w hv h0 rfl ht hp hT).mono ?_;rintro e w' ⟨v1,v2,ord,rfl,ho,h1,h2,hb⟩;obtain⟨a,c,rfl,_⟩:=mR h1;obtain⟨a2,c2,rfl,_⟩:=mR h2;exact⟨a,_,c,a2,_,c2,_,_,rfl,.inr ⟨hp,ord,ho,rfl,rfl⟩,h1,h2,hb⟩
 .have he:rs=[]:=I5 (by omega)
  subst he;refine(aba v 5 times w hv h0 rfl ht).mono ?_;rintro e w' ⟨v1,v2,rfl,h1,h2,hb⟩;obtain⟨a,c,rfl,_⟩:=mR h1;obtain⟨a2,c2,rfl,_⟩:=mR h2;exact⟨a,_,c,a2,_,c2,_,_,rfl,.inl ⟨rfl,rfl,rfl⟩,h1,h2,hb⟩
def tmN(n:Nd):Int:=max (3*(Lib.bitLen (qW n.ms).length:Nat)) 1
def Be(n:Nd)(l:List Mem)(rest:List nQ):Prop:=∃told,Me n.rs (tmN n) told rest/\l.Perm told/\afd l
theorem afe{ms:List Mem}(h:ms.length<=20):(qW ms).length<=20:=by
 unfold qW;rw[I8];exact IB (List.length_filter_le _ _) h
theorem Wk.pk{L b c:Nat}{W:World}{n:Nd}(h:Wk L W b n)(hc:∃cs,W.heap[c]?=AI (Ib cs 76 (0,0)))(i:Nat)(x:Value):Wk L (W.setCell ⟨c,i,U⟩ x) b n/\∃cs,(W.setCell ⟨c,i,U⟩ x).heap[c]?=AI (Ib cs 76 (0,0)):=by
 obtain⟨cs,hc⟩:=hc;obtain⟨vm,vr,vs,vg,vw,h1,h2,h3,h4⟩:=h;have nK:b≠c:=by
  intro e;rw[e,hc] at h1;injection h1 with h1;injection h1 with _ h1;exact absurd h1 (by decide)
 exact⟨⟨vm,vr,vs,vg,vw,(IC W _ x b nK).trans h1,⟨IN h2.ms (sd h2.ms hc (by decide)) _,IN h2.rs (sd h2.rs hc (by decide)) _,IN h2.sv (sd h2.sv hc (by decide)) _,IN h2.gw (sd h2.gw hc (by decide)) _,IN h2.wh (sd h2.wh hc (by decide)) _⟩,h3,h4⟩,_,It (i:=i) hc x⟩
theorem abe(L b:Nat)(n:Nd)(w:World)(h:Wk L w b n)(hL:L<=b)(Wr:Sp n) :
 ni 59 #[Ik (AI ⟨b,0,U⟩)] w λe w'=>∃a k c l rest,e=Ia (Iu #[I n.name,Ic false,sh a k c,sh U 0 0,sh U 0 0,sh U 0 0])/\Hid (Be n l rest)/\Own (w.heap.size+1) w' (sh a k c) l/\Sh (λk=>k=b) w w'/\Wk L w' b { n with rs:=rest }:=by
 have NV:Hid (Wk L w b n):=h;have nE:=h.lt;have HSP:Hid _:=Wr;obtain⟨vm,vr,vs,vg,vw,h1,h2,h3,h4⟩:=h;have Tu:Hid _:=h2.is h4;obtain⟨am,cm,Ec,_⟩:=mR h2.ms;obtain⟨ar,cr,LI,_⟩:=mR h2.rs;subst Ec LI;have zK:=(mU Wr.ms).1;have CI:Hid _:=afe zK;have HX:Hid (∀W,Below w.heap.size w W->W.heap[b]?=AI (Ib (sR n (sh am n.ms.length cm) (sh ar n.rs.length cr) vs vg vw) 41 (0,0))):=λW hW=>(hW.block _ nE).trans h1;have awH:Hid _:=h4.rs;obtain⟨W0,rm,rG,Ct,oS⟩:=pL w #[I ⟨#[]⟩,Ic false,sh U 0 0,sh U 0 0,sh U 0 0,sh U 0 0] 76;have y2:=fi (HX.out W0 rG) 2;have pN:Hid _:=rG;have Wl:Hid _:=oS;clear h1 h2 h3 h4 Wr;go_enter func59,ntmps59;go_upto_region 1 with fail
 rw[<- rm];clear rm;go_wp2_with fail;refine(aag n.ms _ W0 (Tu.out.ms.below pN.out) HSP.out.ms).mono ?_;rintro e w1 ⟨v1,rfl,Hk,mO⟩;obtain⟨a1,c1,hv1,_⟩:=mR Hk.out;subst hv1;have mY:Hid _:=mO;have CP:Hid _:=pN.out.trans (mO.mono (by omega));clear Hk mO y2 rG oS;have awI:within ((qW n.ms).length:Int) 0 20=true:=within_iff.2 ⟨by omega,by have:=CI.out;omega⟩;go_wp2_with fail;refine(aat _ w1 awI).mono ?_;rintro e w2 ⟨rfl,xN⟩;have Rq:=xN.symm;subst Rq;have y3:=fi (HX.out w1 CP.out) 3;go_wp2_with fail;have htm:within (tmN n) 1 100=true:=by
  have nE:∀m,m<21->Lib.bitLen m<=5:=by decide
  have h1:=nE (qW n.ms).length (by have:=CI.out;omega);refine within_iff.2 ⟨?_,?_⟩<;>(unfold tmN;omega)
 refine(abd n.rs _ (tmN n) w1 (Tu.out.rs.below CP.out) HSP.out.rs htm).mono ?_;rintro e w3 ⟨a3,k3,c3,a4,k4,c4,told,rest,rfl,HT,AR,ho4,nC⟩;have tQ:Hid (Own _ _ _ _):=AR;have Cm:Hid (oE _ _ _ _):=ho4;have oT:Hid _:=nC;have awJ:=nC.size;clear AR ho4 nC y3;go_wp2_with fail;refine(aa9 w1.heap.size told _ w3 tQ.out awJ (by have:=Vd HT.out;omega)).mono ?_;rintro e w4 ⟨rfl,l,hp,hs,ho5,sK,ad3⟩;have Nt:Hid (Own _ _ _ _):=ho5;have HTL:Hid (Be n l rest):=⟨told,HT.out,hp,hs⟩;have qB:Hid _:=oT.out.trans sK;have aij:Hid _:=CP.out.trans (qB.out.mono CP.out.size);have Bl:Hid (oE w1.heap.size w4 (sh a4 k4 c4) rest):=by
  rcases Cm.out.2 with hq|⟨g,c,cur,e1,e2,e3,e4⟩
  .exact⟨Cm.out.1,.inl hq⟩
  .refine⟨Cm.out.1,.inr ⟨g,c,cur,e1,e2,(ad3.block g (Ig.1 e3).1 (λe=>?_)).trans e3,e4⟩⟩
   exact sd tQ.out e3 (by decide) e
 have hL2:L<=w.heap.size:=by omega
 have sj:w.heap.size+1<=w1.heap.size:=by have:=mY.out.size;omega
 have uZ:=(qB.out.block _ (by omega)).trans ((mY.out.block _ (by omega)).trans Wl.out);have HZ4:Hid _:=uZ;have hx4:=HX.out w4 aij.out;have x0:=fi hx4 0;have x3:=fi hx4 3;have xz3:=tj hx4 3;have hbs:b<w4.heap.size:=by have:=aij.out.size;omega
 have nK:b≠w.heap.size:=by omega
 have amr:w.heap.size≠b:=by omega
 have ao8:w.heap.size<w4.heap.size:=by have:=qB.out.size;omega
 obtain⟨q0,q1,q2,q3,q4,q5⟩:=xQ uZ;obtain⟨qz0,qz1,qz2,qz3,qz4,qz5⟩:=adO uZ;clear uZ hx4 ho5 sK ad3 hp hs;go_wp2_with fail;refine IE (v:=Iu #[I n.name,Ic false,sh a3 k3 c3,sh U 0 0,sh U 0 0,sh U 0 0]) ?_ rfl ?_
 .simp[results,results59,go_sem,q0,q1,q2,q3,q4,q5]
 .have k0:=NV.out.adR hL2 aij.out (v:=sh a4 k4 c4) (l:=rest) (Bl.out.base (by omega)) (abc HT.out awH.out).2
  have z0:∃cs,(w4.setCell ⟨b,3,U⟩ (sh a4 k4 c4)).heap[w.heap.size]?=AI (Ib cs 76 (0,0)):=⟨_,(IC w4 _ _ w.heap.size amr).trans HZ4.out⟩;obtain⟨k1,z1⟩:=k0.pk z0 0 (I n.name);obtain⟨k2,z2⟩:=k1.pk z1 1 (Ic false);obtain⟨k3',z3⟩:=k2.pk z2 2 (sh a3 k3 c3);obtain⟨k4',z4⟩:=k3'.pk z3 3 (sh U 0 0);obtain⟨k5,z5⟩:=k4'.pk z4 4 (sh U 0 0);obtain⟨k6,z6⟩:=k5.pk z5 5 (sh U 0 0);have sZ:=(((((((If w.heap.size (w4.setCell ⟨b,3,U⟩ (sh a4 k4 c4))).setCell (p:=⟨w.heap.size,0,U⟩) (by simp) (I n.name)).setCell (p:=⟨w.heap.size,1,U⟩) (by simp) (Ic false)).setCell (p:=⟨w.heap.size,2,U⟩) (by simp) (sh a3 k3 c3)).setCell (p:=⟨w.heap.size,3,U⟩) (by simp) (sh U 0 0)).setCell (p:=⟨w.heap.size,4,U⟩) (by simp) (sh U 0 0)).setCell (p:=⟨w.heap.size,5,U⟩) (by simp) (sh U 0 0));have s0:Sh (λk=>k=b) w (w4.setCell ⟨b,3,U⟩ (sh a4 k4 c4)):=Sh.setCell (S:=λk=>k=b) (Sh.of aij.out) (b:=b) (i:=3) rfl _;refine⟨a3,k3,c3,l,rest,rfl,HTL,?_,⟨sZ.os.trans s0.os,sZ.tape.trans s0.tape,sZ.output.trans s0.output,IB s0.size sZ.size,λi hi hn=>(sZ.block i hi).trans (s0.block i hi hn)⟩,k6⟩;exact(Io (Io (Io (Io (Io (Io (Io (Nt.out.mono sj) (a:=⟨b,3,U⟩) (by simp only;omega) _) (a:=⟨w.heap.size,0,U⟩) (by simp only;omega) _) (a:=⟨w.heap.size,1,U⟩) (by simp only;omega) _) (a:=⟨w.heap.size,2,U⟩) (by simp only;omega) _) (a:=⟨w.heap.size,3,U⟩) (by simp only;omega) _) (a:=⟨w.heap.size,4,U⟩) (by simp only;omega) _) (a:=⟨w.heap.size,5,U⟩) (by simp only;omega) _)
theorem abf(L b tb:Nat)(n:Nd)(w:World)(h:Wk L w b n)(hL:L<=b)(Wr:Sp n)(hc:w.heap[tb]?=AI (Ib #[I ⟨#[]⟩,Ic false,sh U 0 0,sh U 0 0,sh U 0 0,sh U 0 0] 76 (0,0))) :
 ni 58 #[Ik (AI ⟨b,0,U⟩),Ik (AI ⟨tb,0,U⟩)] w λe w'=>e=Ia (O J 0)/\Sh (λk=>k=b\/k=tb) w w'/\∃a k c l rest,Hid (Be n l rest)/\w'.heap[tb]?=AI (Ib #[I n.name,Ic false,sh a k c,sh U 0 0,sh U 0 0,sh U 0 0] 76 (0,0))/\Own (w.heap.size+1) w' (sh a k c) l/\Wk L w' b { n with rs:=rest }:=by
 have HC:=abe L b n w h hL Wr;have htb:=(Ig.1 hc).1;have nK:tb≠b:=by
  intro e;obtain⟨_,_,_,_,_,h1,_⟩:=h;rw[<- e,hc] at h1;injection h1 with h1;injection h1 with _ h1;exact absurd h1 (by decide)
 have HCB:Hid _:=hc;clear h Wr hc;go_enter func58,ntmps58;go_wp2_with fail;refine HC.mono ?_;rintro e w1 ⟨a,k,c,l,rest,rfl,HT,ho,hs,hk⟩;have pC:=(hs.block _ htb nK).trans HCB.out;have Tq:Hid _:=pC;have HO:Hid (Own _ _ _ _):=ho;have Wm:Hid _:=hs;have HK:Hid (Wk _ _ _ _):=hk;have Th:=(Ig.1 pC).1;obtain⟨q0,q1,q2,q3,q4,q5⟩:=xQ pC;obtain⟨qz0,qz1,qz2,qz3,qz4,qz5⟩:=adO pC;clear pC ho hs hk HC;go_wp2_with fail;go_ret;have g0:=HK.out;have z0:∃cs,w1.heap[tb]?=AI (Ib cs 76 (0,0)):=⟨_,Tq.out⟩;obtain⟨g1,z1⟩:=g0.pk z0 0 (I n.name);obtain⟨g2,z2⟩:=g1.pk z1 1 (Ic false);obtain⟨g3,z3⟩:=g2.pk z2 2 (sh a k c);obtain⟨g4,z4⟩:=g3.pk z3 3 (sh U 0 0);obtain⟨g5,z5⟩:=g4.pk z4 4 (sh U 0 0);obtain⟨g6,z6⟩:=g5.pk z5 5 (sh U 0 0);exact⟨rfl,(Sh.setCell (S:=λk=>k=b\/k=tb) (Sh.setCell (S:=λk=>k=b\/k=tb) (Sh.setCell (S:=λk=>k=b\/k=tb) (Sh.setCell (S:=λk=>k=b\/k=tb) (Sh.setCell (S:=λk=>k=b\/k=tb) (Sh.setCell (S:=λk=>k=b\/k=tb) (Wm.out.mono (λk hk=>.inl hk)) (b:=tb) (i:=0) (.inr rfl) (I n.name)) (b:=tb) (i:=1) (.inr rfl) (Ic false)) (b:=tb) (i:=2) (.inr rfl) (sh a k c)) (b:=tb) (i:=3) (.inr rfl) (sh U 0 0)) (b:=tb) (i:=4) (.inr rfl) (sh U 0 0)) (b:=tb) (i:=5) (.inr rfl) (sh U 0 0)),a,k,c,l,rest,HT,(It (i:=5) (It (i:=4) (It (i:=3) (It (i:=2) (It (i:=1) (It (i:=0) Tq.out (I n.name)) (Ic false)) (sh a k c)) (sh U 0 0)) (sh U 0 0)) (sh U 0 0)),(Io ((Io ((Io ((Io ((Io ((Io (HO.out) (a:=⟨tb,0,U⟩) (by simp only;omega) (I n.name))) (a:=⟨tb,1,U⟩) (by simp only;omega) (Ic false))) (a:=⟨tb,2,U⟩) (by simp only;omega) (sh a k c))) (a:=⟨tb,3,U⟩) (by simp only;omega) (sh U 0 0))) (a:=⟨tb,4,U⟩) (by simp only;omega) (sh U 0 0))) (a:=⟨tb,5,U⟩) (by simp only;omega) (sh U 0 0)),g6⟩
end Go.Proofs.YtipbebleapjcjaaGreatDoor
