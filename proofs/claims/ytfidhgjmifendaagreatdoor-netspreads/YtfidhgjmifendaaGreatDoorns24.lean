import Derived.Test.YtfidhgjmifendaaGreatDoorns23
set_option maxHeartbeats 25600000
set_option maxRecDepth 100000
open Go renaming maxLen→Il,heap_alloc_new→Ih,redrawn→Iz,below_regrown→QU,cell_regrown→Iq
open Go.Value renaming pointer→Ie,agg→Ij,string→Y,int→U,bool→Ia,slice→J,tuple→Ik
open Go.IntKind renaming i64→O
open Go.Ending renaming returned→AT
open Option renaming some→AI,none→be
open Go.Obj renaming cells→By
open Go.RowKit.Below renaming refl→Ib
open Array renaming getElem?_eq_some_iff→BY
open List renaming mem_of_mem_take→Jd,length_set→IM,getD→Ip,pairwise_iff_getElem→I3
namespace Go.Proofs.YtfidhgjmifendaaGreatDoor
open Go.RowKit
theorem Kz{ms:List Mem}{m:Mem}(h:∀x∈ms,x.name.size<=Il)(hm:m.name.size<=Il):∀x∈aO ms m,x.name.size<=Il:=λx hx=>by
 rcases dn ms m x hx with rfl|hx
 .exact hm
 .exact h x hx
theorem SF(n:Nd)(m:Mem):(eR n m).ms=aO n.ms m:=by unfold eR;split<;>rfl
theorem ni(n:Nd)(m:Mem):(eR n m).name=n.name:=by unfold eR;split<;>rfl
theorem wC{ms:List Mem}{m:Mem}(h:bl ms=0)(hm:m.e=0)(hj:aE ms [m]=0):(aO ms m).length<=20:=by
 rw[wB h hm] at hj;split at hj
 .cases hj
 .omega
theorem o7{n:Nd}{m:Mem}(h:bl n.ms=0)(hr:dZ n.rs=0)(hm:m.e=0)(h0:jx n m=0):bl (eR n m).ms=0/\dZ (eR n m).rs=0:=by
 unfold jx at h0;split at h0
 .rename_i hj
  rw[SF];refine⟨Kt h hm (wC h hm hj),?_⟩;unfold eR;by_cases hc:oW n.ms m=true
  .rw[if_pos hc] at h0 ⊢
   exact zJ hr hm h0
  .rw[if_neg hc];exact hr
 .rename_i hj;exact absurd h0 hj
theorem o8(L b:Nat)(n:Nd)(m:Mem)(w:World)(h:Wk L w b n)(hL:L<=b)(gQ:bl n.ms=0)(oz:dZ n.rs=0)(hl:bc n.name=true)(hm:m.e=0)(Wl:m.name.size<=Il) :
 aI 63 #[Ie (AI ⟨b,0,be⟩),Ij #[Y m.name,U O m.state,U O m.aJ,U O m.addr,Ia m.server]] w λe w'=>e=AT (U O (lr n m))/\Sh (λk=>k=b) w w'/\Hid (lr n m=0->Wk L w' b (kj n m)):=by
 have qj:Hid (Wk L w b n):=h;have aR:=h.lt;obtain⟨vm,vr,vs,vg,vw,h1,h2,h3,h4⟩:=h;have mC:Hid _:=h2.is h4;obtain⟨am,cm,od,_⟩:=aA h2.ms;subst od;have HHR:Hid (∀W,Below w.heap.size w W->aI 106 #[J am n.ms.length cm,Ij #[Y m.name,U O m.state,U O m.aJ,U O m.addr,Ia m.server]] W λe w'=>∃a k c,e=AT (Ik #[J a k c,Ia (decide (aE n.ms [m]=0)&&oW n.ms m),U O (aE n.ms [m])])/\Below W.heap.size W w'/\(aE n.ms [m]=0->Own W.heap.size w' (J a k c) (aO n.ms m))):=λW hW=>by
  refine(KA n.ms m _ W (mC.out.ms.below hW) Wl).mono ?_;rintro e w' ⟨v',r,rfl,hb,hx,ho⟩;by_cases h0:aE n.ms [m]=0
  .obtain⟨zF,fK⟩:=ho h0
   obtain⟨a,c,rfl,_⟩:=aA zF;refine⟨a,_,c,?_,hb,λ_=>zF⟩;have e1:r=oW n.ms m:=by rw[Bool.eq_iff_iff,fK,nc (af gQ).2.1]
   rw[e1,decide_eq_true h0,Bool.true_and]
  .obtain⟨rfl,rfl⟩:=hx h0
   exact⟨be,0,0,by rw[decide_eq_false h0,Bool.false_and],hb,λh=>absurd h h0⟩
 have tR:Hid (∀W w1 a k c,Below w.heap.size w W->Below W.heap.size W w1->(aE n.ms [m]=0->Own W.heap.size w1 (J a k c) (aO n.ms m))->aE n.ms [m]=0->Wk L (w1.setCell ⟨b,2,be⟩ (J a k c)) b { n with ms:=aO n.ms m }):=λW w1 a k c hW h1 h2 h0=>
  (qj.out.below hW).Kn (by have:=hW.size;omega) h1 (h2 h0) (Kz h4.ms Wl)
 have HX:Hid (∀W,Below w.heap.size w W->W.heap[b]?=AI (By (dv n (J am n.ms.length cm) vr vs vg vw) 90 (0,0))):=λW hW=>(hW.block _ aR).trans h1;have Nc:Hid (∀W,aE n.ms [m]=0->oW n.ms m=true->Wk L W b { n with ms:=aO n.ms m }->aI 107 #[Ie (AI ⟨b,0,be⟩),Y m.name] W λe w'=>e=AT (U O (ia n.rs m))/\Sh (λk=>k=b) W w'/\(ia n.rs m=0->Wk L w' b { n with ms:=aO n.ms m,rs:=gm n.rs m })):=λW hj hc hW=>
  tO L b { n with ms:=aO n.ms m } m.name m W hW hL (by show(aO n.ms m).length<=1000;have:=wC gQ hm hj;omega) oz (hU (mY m n.ms ((nc (af gQ).2.1 m).1 hc))) hm Wl
 have HRF:Hid (∀W,jx n m=0->Wk L W b (eR n m)->aI 108 #[Ie (AI ⟨b,0,be⟩)] W λe w'=>e=AT (U O (yR (eR n m)))/\Sh (λk=>k=b) W w'/\Hid (yR (eR n m)=0->Wk L w' b (sM (eR n m)))):=λW h0 hW=>
  BX L b (eR n m) W hW hL (o7 gQ oz hm h0).1 (o7 gQ oz hm h0).2 (by rw[ni];exact hl)
 have Nf:Hid (∀W,Wk L W b (eR n m)->W.cell? ⟨b,0,be⟩=AI (Y n.name)):=λW hW=>by
  obtain⟨_,_,_,_,_,g1,_⟩:=hW;rw[<- ni n m];exact ae g1 0
 have HEE:Hid (jx n m≠0->lr n m=jx n m):=λh=>by show lr n m=_;unfold lr;rw[if_neg h]
 have PW:Hid (jx n m=0->m.name=n.name->lr n m=yR (eR n m)):=λh h2=>by show lr n m=_;unfold lr;rw[if_pos h,if_pos h2]
 have HEN:Hid (jx n m=0->m.name≠n.name->lr n m=0):=λh h2=>by show lr n m=_;unfold lr;rw[if_pos h,if_neg h2]
 have HD1:Hid (aE n.ms [m]≠0->jx n m=aE n.ms [m]):=λh=>by show jx n m=_;unfold jx;rw[if_neg h]
 have Vh:Hid (aE n.ms [m]=0->oW n.ms m=false->jx n m=0/\eR n m={ n with ms:=aO n.ms m }):=λh hc=>by
  show jx n m=0/\eR n m=_;unfold jx eR;rw[if_pos h,if_neg (by rw[hc];simp),if_neg (by rw[hc];simp)];exact⟨rfl,rfl⟩
 have HD3:Hid (aE n.ms [m]=0->oW n.ms m=true->jx n m=ia n.rs m/\eR n m={ n with ms:=aO n.ms m,rs:=gm n.rs m }):=λh hc=>by
  show jx n m=_/\eR n m=_;unfold jx eR;rw[if_pos h,if_pos hc,if_pos hc];exact⟨rfl,rfl⟩
 have HBM:Hid (∀W,Wk L W b { n with ms:=aO n.ms m }->W.cell? ⟨b,0,be⟩=AI (Y n.name)):=λW hW=>by
  obtain⟨_,_,_,_,_,g1,_⟩:=hW;exact ae g1 0
 obtain⟨W0,bN,bO,eK,dI⟩:=bY w #[Y m.name,U O m.state,U O m.aJ,U O m.addr,Ia m.server] 50;have db:Hid _:=bO;obtain⟨x0,x1,x2,x3,x4⟩:=jw dI;have y2:=ae (HX.out W0 bO) 2;have Bf:Hid _:=dI;generalize lr n m=res at *;generalize tQ:n.ms.length=km at *;clear tQ h1 h2 h3 h4 gQ oz dI bO;generalize aE n.ms [m]=je at *;generalize ia n.rs m=pe at *;generalize jx n m=se at *;generalize oW n.ms m=cb at *;go_enter Tryz.func63,Tryz.ntmps63;go_upto_region 2 with fail
 rw[<- bN];clear bN;go_region_with (first|(go_at_call 106;refine(HHR.out _ db.out.drew).mono ?_;rintro e w1 ⟨a,k,c,rfl,aB,zF⟩;have ba:Hid (Below W0.heap.size W0 w1):=(Ib W0.heap.size W0).drew.trans aB;have lQ:Hid (je=0->Wk L (w1.setCell ⟨b,2,be⟩ (J a k c)) b { n with ms:=aO n.ms m }):=tR.out _ _ a k c db.out.drew aB zF;have ix:=HX.out w1 (db.out.trans (ba.out.mono db.out.size));have z2:w1.cell? ⟨b,2,be⟩=AI (J am km cm):=ae ix 2;have zf:w1.frozen? ⟨b,2,be⟩=false:=aj ix 2;have GN:=(ba.out.block _ (show w.heap.size<W0.heap.size by omega)).trans Bf.out;clear aB zF ix))
 all_goals
  obtain⟨W2,bJ⟩:∃W2,W2=w1.setCell ⟨b,2,be⟩ (J a k c):=⟨_,rfl⟩;rw[<- bJ] at lQ;have xQ:Hid (Sh (λk=>k=b) w W2):=by rw[bJ];exact(Sh.of (db.out.trans (ba.out.mono db.out.size))).setCell (S:=λk=>k=b) rfl _
  have pY:Hid (W2.heap[w.heap.size]?=AI (By #[Y m.name,U O m.state,U O m.aJ,U O m.addr,Ia m.server] 50 (0,0))):=by rw[bJ];exact(Below.heap_setCell _ _ _ _ (by simp only;omega)).trans GN
  rw[<- bJ];clear bJ z2 zf y2 GN x0 x1 x2 x3 x4;by_cases hj:je=0
  .cases cb
   .obtain⟨e1,e2⟩:=Vh.out hj rfl
    have EJ:Hid (Wk L W2 b (eR n m)):=by rw[e2];exact lQ.out hj
    subst hj;clear e2 lQ HD1 Vh HD3 Nc HEE;have u0:=ae pY.out 0;have u1:=Nf.out W2 EJ.out;by_cases cZ:m.name=n.name
    .have hq:(m.name.toList !=n.name.toList)=false:=by rw[cZ];simp
     have wD:(m.name.toList==n.name.toList)=true:=by rw[cZ];simp
     have hq3:m.name.toList=n.name.toList:=by rw[cZ]
     have HR:Hid _:=PW.out e1 cZ;have HN:Hid (kj n m=sM (eR n m)):=by show kj n m=_;unfold kj;rw[if_pos cZ]
     have jv:Hid (∀q,aI _ _ _ _):=λq=>HRF.out _ e1 (EJ.out.below (below_drewN (Ib _ _) q));clear cZ;generalize yR (eR n m)=re at *;go_wp2_with fail;go_quiet (fail)
     go_wp2_with fail;refine(jv.out _).mono ?_;rintro e w7 ⟨rfl,PX,Nh⟩;have HS7:Hid _:=xQ.out.trans ((Sh.of (below_drewN (Ib _ _) _)).trans PX);clear PX;go_wp2_with fail;go_ret;exact⟨ai HR.out.symm,HS7.out,λh=>by rw[HN.out];exact Nh.out (HR.out.symm.trans h)⟩
    .have hq:=(tp _ _).2 cZ
     have wD:(m.name.toList==n.name.toList)=false:=by rw[jM,decide_eq_false cZ]
     have HR:Hid _:=HEN.out e1 cZ;have HN:Hid (kj n m=eR n m):=by show kj n m=_;unfold kj;rw[if_neg cZ]
     clear cZ;go_wp2_with fail;go_quiet (fail)
     go_wp2_with fail;go_ret;exact⟨ai HR.out.symm,xQ.out.trans (Sh.of (below_drewN (Ib _ _) _)),λ_=>by rw[HN.out];exact EJ.out.below (below_drewN (Ib _ _) _)⟩
   .obtain⟨e1,e2⟩:=HD3.out hj rfl
    have Ni:=lQ.out hj;have HTC:Hid (aI _ _ _ _):=Nc.out W2 hj rfl Ni;have u0:=ae pY.out 0;subst hj;clear Ni lQ HD1 Vh HD3 Nc;go_wp2_with fail;refine HTC.out.mono ?_;rintro e w4 ⟨rfl,AZ,Wj⟩;have GP:Hid _:=xQ.out.trans AZ;have Wm:=(AZ.block _ ((BY.1 pY.out).1) (by omega)).trans pY.out;have Eb:Hid (pe=0->Wk L w4 b (eR n m)):=λh=>by rw[e2];exact Wj h
    have pY:Hid _:=Wm;clear AZ Wj Wm u0 HTC e2;by_cases hp:pe=0
    .have SG:Hid (Wk _ _ _ _):=Eb.out hp
     have e3:=e1.trans hp;subst hp;clear Eb e1 HEE;have u0:=ae pY.out 0;have u1:=Nf.out w4 SG.out;by_cases cZ:m.name=n.name
     .have hq:(m.name.toList !=n.name.toList)=false:=by rw[cZ];simp
      have wD:(m.name.toList==n.name.toList)=true:=by rw[cZ];simp
      have hq3:m.name.toList=n.name.toList:=by rw[cZ]
      have HR:Hid _:=PW.out e3 cZ;have HN:Hid (kj n m=sM (eR n m)):=by show kj n m=_;unfold kj;rw[if_pos cZ]
      have jv:Hid (∀q,aI _ _ _ _):=λq=>HRF.out _ e3 (SG.out.below (below_drewN (Ib _ _) q));clear cZ;generalize yR (eR n m)=re at *;go_wp2_with fail;go_quiet (fail)
      go_wp2_with fail;refine(jv.out _).mono ?_;rintro e w7 ⟨rfl,PX,Nh⟩;have HS7:Hid _:=GP.out.trans ((Sh.of (below_drewN (Ib _ _) _)).trans PX);clear PX;go_wp2_with fail;go_ret;exact⟨ai HR.out.symm,HS7.out,λh=>by rw[HN.out];exact Nh.out (HR.out.symm.trans h)⟩
     .have hq:=(tp _ _).2 cZ
      have wD:(m.name.toList==n.name.toList)=false:=by rw[jM,decide_eq_false cZ]
      have HR:Hid _:=HEN.out e3 cZ;have HN:Hid (kj n m=eR n m):=by show kj n m=_;unfold kj;rw[if_neg cZ]
      clear cZ;go_wp2_with fail;go_quiet (fail)
      go_wp2_with fail;go_ret;exact⟨ai HR.out.symm,GP.out.trans (Sh.of (below_drewN (Ib _ _) _)),λ_=>by rw[HN.out];exact SG.out.below (below_drewN (Ib _ _) _)⟩
    .have hp':(pe !=0)=true:=by simpa using hp
     have HR:Hid _:=(HEE.out (by rw[e1];exact hp)).trans e1;have Bu:Hid _:=hp;have u0:=ae pY.out 0;clear hp e1;go_wp2_with fail;go_quiet (fail)
     go_wp2_with fail;go_ret;exact⟨ai HR.out.symm,GP.out.trans (Sh.of (below_drewN (Ib _ _) _)),λh=>absurd (HR.out.symm.trans h) Bu.out⟩
  .have EA:(je !=0)=true:=by simpa using hj
   have hj2:=decide_eq_false hj;have e1:=HD1.out hj;have HR:Hid _:=(HEE.out (by rw[e1];exact hj)).trans e1;have Bu:Hid _:=hj;clear hj e1 HD1 Vh HD3;go_wp2_with fail;go_quiet (fail)
   go_wp2_with fail;go_ret;exact⟨ai HR.out.symm,xQ.out.trans (Sh.of (below_drewN (Ib _ _) _)),λh=>absurd (HR.out.symm.trans h) Bu.out⟩
def sx(n:Nd)(t:ByteArray)(cV t_o:Int):Int:=
 if bc t=true then(if(cv n.ms t).isSome=true then(if t=n.name then 6 else if(eF n.ms t).state=cV then lr n { eF n.ms t with state:=t_o } else 4) else 5) else 1
def zN(n:Nd)(t:ByteArray)(t_o:Int):Nd:=kj n { eF n.ms t with state:=t_o }
theorem iV{ms:List Mem}{t:ByteArray}(h:(cv ms t).isSome=true):eF ms t∈ms/\(eF ms t).name=t:=by
 obtain⟨m,hm⟩:=Option.isSome_iff_exists.1 h;rw[hU hm];exact j9 hm
theorem tT(L b:Nat)(n:Nd)(t:ByteArray)(cV t_o:Int)(w:World)(h:Wk L w b n)(hL:L<=b)(gQ:bl n.ms=0)(oz:dZ n.rs=0)(hl:bc n.name=true)(ht:t.size<=Il)(Wn:within t_o 1 4=true) :
 aI 41 #[Ie (AI ⟨b,0,be⟩),Y t,U O cV,U O t_o] w λe w'=>e=AT (U O (sx n t cV t_o))/\Sh (λk=>k=b) w w'/\Hid (sx n t cV t_o=0->Wk L w' b (zN n t t_o)):=by
 have qj:Hid (Wk L w b n):=h;have aR:=h.lt;obtain⟨vm,vr,vs,vg,vw,h1,h2,h3,h4⟩:=h;have mC:Hid _:=h2.is h4;obtain⟨am,cm,od,_⟩:=aA h2.ms;subst od;have Ep:Hid (kL 67 #[Ie (AI ⟨b,0,be⟩),Y t] w (Ik #[Ij #[Y (eF n.ms t).name,U O (eF n.ms t).state,U O (eF n.ms t).aJ,U O (eF n.ms t).addr,Ia (eF n.ms t).server],Ia (cv n.ms t).isSome])):=
  jc b am n.ms.length cm n.ms t w (ae h1 2) mC.out.ms (by have:=(af gQ).1;omega)
 have A3:Hid ((cv n.ms t).isSome=true->∀W,Below w.heap.size w W->aI 63 #[Ie (AI ⟨b,0,be⟩),Ij #[Y (eF n.ms t).name,U O t_o,U O (eF n.ms t).aJ,U O (eF n.ms t).addr,Ia (eF n.ms t).server]] W λe w'=>e=AT (U O (lr n { eF n.ms t with state:=t_o }))/\Sh (λk=>k=b) W w'/\Hid (lr n { eF n.ms t with state:=t_o }=0->Wk L w' b (zN n t t_o))):=λhs W hW=>by
  obtain⟨g1,g2⟩:=iV hs;have he:=(kR _).1 (lX gQ _ g1);exact o8 L b n { eF n.ms t with state:=t_o } W (qj.out.below hW) hL gQ oz hl ((kR _).2 ⟨he.1,Wn,he.2.2.1,he.2.2.2⟩) (show(eF n.ms t).name.size<=Il from h4.ms _ g1)
 have HX:Hid (∀W,Below w.heap.size w W->W.cell? ⟨b,0,be⟩=AI (Y n.name)):=λW hW=>ae ((hW.block _ aR).trans h1) 0;have HE:Hid (sx n t cV t_o=if bc t=true then(if(cv n.ms t).isSome=true then(if t=n.name then 6 else if(eF n.ms t).state=cV then lr n { eF n.ms t with state:=t_o } else 4) else 5) else 1):=rfl;generalize sx n t cV t_o=res at *;generalize lr n { eF n.ms t with state:=t_o }=se at *;clear h1 h2 h3 h4 gQ oz;generalize(cv n.ms t).isSome=fd at *;generalize Hb:eF n.ms t=m at *;clear Hb;obtain⟨mn,st,lf,ad,sv⟩:=m;simp only at Ep A3 HE;go_enter Tryz.func41,Tryz.ntmps41;rcases hlab:bc t with _|_
 .have HR:Hid (res=1):=HE.out.trans (by rw[hlab];rfl)
  go_wp2_with (go_at_call 53;refine(bV _ _ ht).mono ?_;rintro e w' ⟨rfl,rfl⟩;rw[hlab]);go_ret;exact⟨ai HR.out.symm,Sh.refl _ _,λh=>by have:=HR.out.symm.trans h;cases this⟩
 have kM:Hid (res=if fd=true then(if t=n.name then 6 else if st=cV then se else 4) else 5):=HE.out.trans (by rw[hlab];rfl);clear HE;go_wp2_with (first|(go_at_call 53;refine(bV _ _ ht).mono ?_;rintro e w' ⟨rfl,PY⟩;have GQ:=PY.symm;subst GQ;rw[hlab])|fail);refine Ep.out.mono ?_;rintro e w1 ⟨rfl,aB⟩;obtain⟨W2,bJ⟩:∃W2,W2=w1.alloc (By #[Y mn,U O st,U O lf,U O ad,Ia sv] 50):=⟨_,rfl⟩;have aK:Below w.heap.size w W2:=by rw[bJ];exact aB.alloc aB.size _
 have Nj:w1.heap.size<W2.heap.size:=by rw[bJ];simp
 have dS:W2.heap[w1.heap.size]?=AI (By #[Y mn,U O st,U O lf,U O ad,Ia sv] 50 (0,0)):=by rw[bJ];exact Ih w1 _
 have bu:Hid _:=aK;have ft:=aB.size;obtain⟨x0,x1,x2,x3,x4⟩:=jw dS;have zf:=aj dS 1;have y0:=HX.out W2 aK;go_upto_region 4 with fail
 rw[<- bJ];clear bJ aB aK Ep;cases fd
 .have HR:Hid (res=5):=kM.out.trans (by simp)
  go_wp2_with fail;go_ret;exact⟨ai HR.out.symm,Sh.of bu.out,λh=>by have:=HR.out.symm.trans h;cases this⟩
 by_cases cZ:t=n.name
 .have HR:Hid (res=6):=kM.out.trans (by simp[cZ])
  have hq:(t.toList==n.name.toList)=true:=by rw[cZ];simp
  have wD:t.toList=n.name.toList:=by rw[cZ]
  clear cZ;go_wp2_with fail;go_ret;exact⟨ai HR.out.symm,Sh.of bu.out,λh=>by have:=HR.out.symm.trans h;cases this⟩
 have hq:(t.toList==n.name.toList)=false:=by rw[jM,decide_eq_false cZ]
 by_cases pC:st=cV
 .have HR:Hid (res=se):=kM.out.trans (by simp[cZ,pC])
  subst pC;have KB:=λW hW=>A3.out rfl W hW;clear cZ kM;obtain⟨W3,eu⟩:∃W3,W3=W2.setCell ⟨w1.heap.size,1,be⟩ (U O t_o):=⟨_,rfl⟩;have cJ:Hid (Below w.heap.size w W3):=by rw[eu];exact bu.out.setCell (p:=⟨w1.heap.size,1,be⟩) ft _
  have lF:W3.heap[w1.heap.size]?=AI (By #[Y mn,U O t_o,U O lf,U O ad,Ia sv] 50 (0,0)):=by rw[eu];exact Joins.block_setCell (i:=1) dS _
  obtain⟨v0,v1,v2,v3,v4⟩:=jw lF;have SH:Hid (aI _ _ _ _):=KB W3 cJ.out;clear KB lF dS;go_upto_region 11 with fail
  rw[<- eu];clear eu x0 x1 x2 x3 x4 zf y0;go_wp2_with fail;refine SH.out.mono ?_;rintro e w5 ⟨rfl,Kb,zp⟩;have HS5:Hid _:=(Sh.of cJ.out).trans Kb;clear Kb;go_wp2_with fail;go_ret;exact⟨ai HR.out.symm,HS5.out,λh=>zp.out (HR.out.symm.trans h)⟩
 .have HR:Hid (res=4):=kM.out.trans (by simp[cZ,pC])
  have aec:(st !=cV)=true:=by simpa using pC
  clear cZ pC kM;go_wp2_with fail;go_ret;exact⟨ai HR.out.symm,Sh.of bu.out,λh=>by have:=HR.out.symm.trans h;cases this⟩
theorem Sh.grown{S:Nat->Prop}{a w w':World}{row:Option Nat}(h:Sh S a w)(hg:w.grownBy w' row)(hr:∀k,row=AI k->S k):Sh S a w':=
 h.trans ⟨hg.os,hg.tape,hg.output,hg.size,λk hk hn=>hg.block k hk (λe=>hn (hr k e.symm))⟩
theorem EK(L b:Nat)(n:Nd)(l:List Wh.bK)(vx:Value)(w0 w:World)(h:Wk L w b n)(hL:L<=b)(hf:Wh.o6 n.wh)(hx:Wh.Sl w0 vx l)(hB:Below w0.heap.size w0 w)(hBL:w0.heap.size<=L)(hll:l.length<=1000) :
 aI 66 #[Ie (AI ⟨b,0,be⟩),vx] w λe w'=>e=AT (Ik #[])/\Sh (λk=>L<=k) w w'/\Wk L w' b { n with wh:=B4 n.wh l }:=by
 have qj:Hid (Wk L w b n):=h;have HB:Hid _:=hB;have HFI:Hid _:=hf;obtain⟨px,cx,rfl,Vn,hxr⟩:=hx;have HXR:Hid _:=hxr;have HXS:Hid _:=Vn;have HLO:Hid _:=Wh.dy Vn;clear h hB hf Vn hxr;generalize hN:l.length=nl at *;have HN:Hid _:=hN;clear hN;go_enter Tryz.func66,Tryz.ntmps66;go_wp2_with fail;go_loopw [10] (λi wr=>∃k:Nat,k<=nl/\i=U O k/\Hid (Sh (λk=>L<=k) w wr)/\Hid (Wk L wr b { n with wh:=B4 n.wh (l.take k) })) (λi _=>nl-(intOf i).toNat)
 case atStart=>exact⟨0,Nat.zero_le _,rfl,Sh.refl _ _,qj⟩
 case round=>
  obtain⟨k,hk,rfl,xQ,HW⟩:=hrel;by_cases aX:k<nl
  .obtain⟨b2,o2,hp,mJ,hr⟩:∃b off,px=AI ⟨b,off,be⟩/\b<w0.heap.size/\Wh.Row w0 b off l:=by
    rcases HXR.out with h|h
    .have:=HN.out;rw[h] at this;simp at this;omega
    .exact h
   subst hp;have HBR:Hid _:=HB.out.trans (xQ.out.below HB.out.size (λk hk=>by omega));obtain⟨c0,c1,c2,c3,c4,c5⟩:=(hr k (by rw[HN.out];exact aX)).eq (λo=>HBR.out.cell (p:=⟨b2,o,be⟩) mJ);clear hr;have EN:Hid (Wh.o6 (B4 n.wh (l.take k))):=zM HFI.out (λm hm=>HLO.out m (Jd hm));have rK:Hid _:=Ky n.wh l k (by rw[HN.out];exact aX);have hxo:=HXS.out k;generalize l.getD k Wh.dm=x at *;generalize eV:B4 n.wh (l.take k)=known at *;clear eV;obtain⟨p,f,cH⟩:=Wh.jS known EN.out.EH x;have gj:Hid _:=cH;have HAN:Hid _:=SE EN.out.EH cH;clear cH;have hbr:=HW.out.lt;obtain⟨vm,vr,vs,vg,vw,h1,h2,h3,h4⟩:=HW.out;have BP:Hid (Wh.Own _ _ _ _):=h2.wh;have HH3:Hid _:=h3;have HH4:Hid _:=h4;have HH2:Hid _:=h2;obtain⟨aw,cw,Mm,hcw⟩:=aA h2.wh;simp only at Mm hcw;subst Mm;have HSW:Hid (Wh.Sl _ _ _):=h2.wh.sl (Wh.cy EN.out.ok);have HKL:Hid _:=EN.out.len;obtain⟨W1,cT,aB,ft,cO⟩:=bY wr #[Y x.node,U O x.x,U O x.y,U O x.z,U O x.h,U O x.s] 116;have vp:Hid _:=cO;have ba:Hid _:=aB;have ky:Hid (∀W,Below wr.heap.size wr W->W.heap[b]?=AI (By (dv { n with wh:=known } vm vr vs vg (J aw known.length cw)) 90 (0,0))):=λW hW=>(hW.block _ hbr).trans h1;obtain⟨x0,x1,x2,x3,x4,x5⟩:=fx cO;have y11:=ae (ky.out W1 aB) 11;have hFI:∀d os,aI 111 #[J aw known.length cw,Ij #[Y x.node,U O x.x,U O x.y,U O x.z,U O x.h,U O x.s],.func (.func 112) #[] #[]] (Go.Sort.grow (Iz W1 d) os) λe fT=>e=AT (Ik #[U O p,Ia f])/\∃q:Regrown,fT=Go.Sort.grow (Iz W1 q.d) q.os:=λd os=>Calls.regrown_of ((Wh.fu known _ x _ (HSW.out.below (aB.trans ((QU W1 d os).mono (by omega)))) (by have:=HKL.out;omega) EN.out.EH).mono (by
    rintro e w' ⟨p',f',rfl,hb,ha⟩;obtain⟨rfl,rfl⟩:=Wh.eN ha gj.out;exact⟨rfl,hb⟩))
   have F0:=Iq x0;have F1:=Iq x1;have F2:=Iq x2;have F3:=Iq x3;have F4:=Iq x4;have F5:=Iq x5;have G11:=Iq y11;clear h1 h2 h3 h4 cO aB x0 x1 x2 x3 x4 x5 y11;generalize iT:known.length=kl at *;have HKE:Hid _:=iT;clear iT;have ahq:=HKL.out;go_upto_region 3 with fail
   rw[<- cT];clear cT c0 c1 c2 c3 c4 c5;refine wp_region_quiet_below (by kernel_rfl) (by kernel_rfl) ?_;repeat(quiet_step (exact hFI _ _))
   refine wpQuiet_nil ?_;intro _ KC;obtain⟨⟨dq,jL⟩,SI⟩:=KC;subst SI;have bu:Hid _:=ba.out.trans ((QU W1 dq jL).mono (by omega));have sg:Hid _:=((QU W1 dq jL).block _ (by omega)).trans vp.out;clear hFI F0 F1 F2 F3 F4 F5 G11 vp ba;generalize Go.Sort.grow (Iz W1 dq) jL=W2 at *;have y11:=ae (ky.out W2 bu.out) 11;have Wo:Hid _:=xQ.out.next bu.out;have EJ:Hid (Wk _ _ _ _):=HW.out.below bu.out;cases f
   rotate_left
   .have PW:Hid _:=rK.out.trans (by unfold vB;rw[if_pos (.inl HAN.out)])
    go_wp2_with fail;go_roundw
    case rel=>exact⟨k+1,by omega,by go_num,Wo,by rw[PW.out];exact EJ⟩
    case measure=>simp[intOf];omega
   .by_cases hk20:kl<20
    rotate_left
    .have PW:Hid _:=rK.out.trans (by unfold vB;rw[if_pos (.inr (by rw[HKE.out];omega))])
     go_wp2_with fail;go_roundw
     case rel=>exact⟨k+1,by omega,by go_num,Wo,by rw[PW.out];exact EJ⟩
     case measure=>simp[intOf];omega
    .have PW:Hid (B4 n.wh (l.take (k+1))=known.take p++x::known.drop p):=rK.out.trans (by
      unfold vB
      rw[if_neg (by rw[HAN.out,HKE.out];intro h;rcases h with h|h;· cases h
                    .omega),Wh.df known x p false gj.out,if_neg (by simp)])
     have aef:Hid (∀m∈known.take p++x::known.drop p,m.ok):=λm hm=>by
      rcases List.mem_append.1 hm with hm|hm
      .exact EN.out.ok m (Jd hm)
      .rcases List.mem_cons.1 hm with rfl|hm
       .exact hxo
       .exact EN.out.ok m (List.mem_of_mem_drop hm)
     have Mo:p<=kl:=by have:=gj.out.le;rw[HKE.out] at this;exact this
     obtain⟨v0,v1,v2,v3,v4,v5⟩:=fx sg.out;obtain⟨W3,eu⟩:∃W3,W3=(W2.alloc (By #[Y x.node,U O x.x,U O x.y,U O x.z,U O x.h,U O x.s] 116)).drew:=⟨_,rfl⟩;have bX:Below wr.heap.size wr W3:=by rw[eu];exact(bu.out.alloc bu.out.size _).drew
     have ak6:W3.heap.size=W2.heap.size+1:=by rw[eu];simp
     have ak7:=bu.out.size;have lF:W3.heap[W2.heap.size]?=AI (By x.cs.toArray 116 (0,0)):=by rw[eu];exact Ih W2 _
     have HI:Hid (aI 113 #[J aw kl cw,U O p,J (AI ⟨W2.heap.size,0,be⟩) 1 1] W3 λe w'=>∃a q c,e=AT (J a q c)/\Wh.Own L w' (J a q c) (known.take p++x::known.drop p)/\W3.grownBy w' (J aw kl cw).ownBlock):=by
      refine(Wh.fC L p W2.heap.size _ known x W3 (BP.out.below bX) gj.out.le (by rw[HKE.out];omega) (by omega) lF (λe=>by have:=((BP.out.below bu.out).lt _ e).2;omega)).mono ?_;rintro e w' ⟨v',rfl,ho,hg⟩;obtain⟨a,c,rfl,_⟩:=aA ho;exact⟨a,_,c,rfl,ho,hg⟩
     have Sb:Hid (∀w5 a q c,Wh.Own L w5 (J a q c) (known.take p++x::known.drop p)->W3.grownBy w5 (J aw kl cw).ownBlock->Wk L (w5.setCell ⟨b,11,be⟩ (J a q c)) b { n with wh:=known.take p++x::known.drop p }/\Sh (λk=>L<=k) w (w5.setCell ⟨b,11,be⟩ (J a q c))/\w5.heap[b]?=AI (By (dv { n with wh:=known } vm vr vs vg (J aw kl cw)) 90 (0,0))):=λw5 a q c ho hg=>
      ⟨Wk.ins (n:={ n with wh:=known }) (ky.out W3 bX) (HH2.out.below bX) HH3.out HH4.out hg ho aef.out,
       ((xQ.out.next bX).grown hg (λg VM=>((BP.out.below bX).lt g VM).1)).setCell (S:=λk=>L<=k) hL _,
       (hg.block b (by have:=bX.size;omega) (λe=>HH3.out.2.2.2.2 e.symm)).trans (ky.out W3 bX)⟩
     have ak8:b<W2.heap.size:=by omega
     have ak9:=(BY.1 sg.out).1;have Wp:¬ b=W2.heap.size:=by omega
     have aeg:¬ wr.heap.size=W2.heap.size:=by omega
     clear lF bX;go_upto_region 5 with fail
     go_region_with (first|(go_at_call 113;refine(show aI _ _ _ _ by first|(rw[<- eu];exact HI.out)|(have h:=HI.out;rw[eu] at h;exact h)).mono ?_;rintro e w5 ⟨a,q,c,rfl,PZ,kX⟩;obtain⟨i1,i2,i3⟩:=Sb.out w5 a q c PZ kX;have HI1:Hid (Wk L (w5.setCell ⟨b,11,be⟩ (J a q c)) b { n with wh:=known.take p++x::known.drop p }):=i1;have Ve:Hid (Sh (λk=>L<=k) w (w5.setCell ⟨b,11,be⟩ (J a q c))):=i2;have z11:w5.cell? ⟨b,11,be⟩=AI (J aw kl cw):=ae i3 11;have zf:w5.frozen? ⟨b,11,be⟩=false:=aj i3 11;clear PZ kX i1 i2 i3))
     all_goals
      go_wp2_with fail;go_roundw
      case rel=>exact⟨k+1,by omega,by go_num,Ve,by rw[PW.out];exact HI1⟩
      case measure=>simp[intOf];omega
  .have eV:k=nl:=by omega
   subst eV;have si:Hid (Wk L wr b { n with wh:=B4 n.wh l }):=by
    have h:=HW.out;rw[List.take_of_length_le (by rw[HN.out];exact Nat.le_refl _)] at h;exact h
   go_wp2_with fail;simp only[bodyPost,results,Tryz.results66];exact⟨trivial,Ik #[],by simp,rfl,xQ.out,si.out⟩
theorem KD{ms:List Mem}{p:Nat}{x:Mem}(hr:bp ms)(hx:x.name=(ms.getD p dm).name):bp (ms.set p x):=by
 have hn:∀j (h:j<ms.length),((ms.set p x)[j]'(by rw[IM];exact h)).name=ms[j].name:=λj h=>by
  rw[List.getElem_set];split
  .rename_i e;subst e;rw[hx];simp[Ip,List.getElem?_eq_getElem h]
  .rfl
 refine I3.2 λi j hi hj iS=>?_;rw[IM] at hi hj;rw[hn i hi,hn j hj];exact I3.1 hr i j hi hj iS
structure Sp(n:Nd):Prop where
 ms:bl n.ms=0
 rs:dZ n.rs=0
 name:bc n.name=true
theorem Wq{n:Nd}(h:Sp n)(h0:yR n=0):Sp (sM n):=by
 unfold yR at h0;unfold sM;by_cases hR:iK n.ms (jq n) (nf n)=true
 .obtain⟨f1,f2,f3,f4,f5,f6,f7⟩:=qm h.ms hR
  rw[if_pos (xP hR),if_pos hR] at h0;rw[if_pos hR];obtain⟨l1,l2,_⟩:=af h.ms;refine⟨ki ?_ ?_ ?_,zJ h.rs f5 h0,h.name⟩
  .show(nP n).length<=20;rw[f3,IM];exact l1
  .show bp (nP n);rw[f3];exact KD l2 rfl
  .intro m hm
   have hm:=hm;rw[f3] at hm;rcases List.mem_or_eq_of_mem_set hm with hm|rfl
   .exact lX h.ms m hm
   .rw[<- f4];exact f5
 .rw[if_neg hR]
  have:nP n=n.ms:=by unfold nP sw;rw[if_neg hR]
  rw[this];exact h
theorem Dv{n:Nd}{m:Mem}(h:Sp n)(hm:m.e=0)(h0:lr n m=0):Sp (kj n m):=by
 unfold lr at h0;split at h0
 .rename_i h1
  have h2:Sp (eR n m):=⟨(o7 h.ms h.rs hm h1).1,(o7 h.ms h.rs hm h1).2,by rw[ni];exact h.name⟩;unfold kj;by_cases hn:m.name=n.name
  .rw[if_pos hn] at h0 ⊢;exact Wq h2 h0
  .rw[if_neg hn];exact h2
 .rename_i h1;exact absurd h0 h1
structure Rest(n n':Nd):Prop where
 name:n'.name=n.name
 aD:n'.aD=n.aD
 sv:n'.sv=n.sv
 gw:n'.gw=n.gw
 p:n'.p=n.p
 wh:n'.wh=n.wh
theorem Rest.refl(n:Nd):Rest n n:=⟨rfl,rfl,rfl,rfl,rfl,rfl⟩
theorem Rest.trans{a b c:Nd}(h:Rest a b)(k:Rest b c):Rest a c:=⟨k.name.trans h.name,k.aD.trans h.aD,k.sv.trans h.sv,k.gw.trans h.gw,k.p.trans h.p,k.wh.trans h.wh⟩
theorem Nk(n:Nd):Rest n (sM n):=by unfold sM;split<;>exact⟨rfl,rfl,rfl,rfl,rfl,rfl⟩
theorem nj(n:Nd)(m:Mem):Rest n (eR n m):=by unfold eR;split<;>exact⟨rfl,rfl,rfl,rfl,rfl,rfl⟩
theorem ep(n:Nd)(m:Mem):Rest n (kj n m):=by
 unfold kj;split
 .exact(nj n m).trans (Nk _)
 .exact nj n m
def oe:Nd->List Mem->Int
 |_,[]=>0
 |n,m::r=>if lr n m=0 then oe (kj n m) r else lr n m
def tU:Nd->List Mem->Nd
 |n,[]=>n
 |n,m::r=>tU (kj n m) r
theorem Dw:∀(l:List Mem) (n:Nd) (m:Mem),tU n (l++[m])=kj (tU n l) m/\(oe n l=0->oe n (l++[m])=lr (tU n l) m)
 |[],n,m=>⟨rfl,λ_=>by
   show oe n [m]=lr n m;rw[oe];split
   .rename_i h;rw[h];rfl
   .rfl⟩
 |x::r,n,m=>by
  obtain⟨h1,h2⟩:=Dw r (kj n x) m;refine⟨h1,λh=>?_⟩;rw[oe] at h;split at h
  .rename_i h0
   show oe n (x::(r++[m]))=_;rw[oe,if_pos h0];exact h2 h
  .rename_i h0;exact absurd h h0
theorem KE:∀(l r:List Mem) (n:Nd),oe n l≠0->oe n (l++r)=oe n l
 |[],r,n,h=>absurd rfl h
 |x::l,r,n,h=>by
  show oe n (x::(l++r))=_;rw[oe] at h ⊢;rw[oe];split
  .rename_i h0;rw[if_pos h0] at h;exact KE l r _ h
  .rfl
theorem P0:∀(l:List Mem) (n:Nd),Sp n->(∀m∈l,m.e=0)->oe n l=0->Sp (tU n l)
 |[],n,h,_,_=>h
 |x::r,n,h,hl,h0=>by
  rw[oe] at h0;split at h0
  .rename_i h1
   exact P0 r (kj n x) (Dv h (hl x (by simp)) h1) (λm hm=>hl m (by simp[hm])) h0
  .rename_i h1;exact absurd h0 h1
theorem sN:∀(l:List Mem) (n:Nd),Rest n (tU n l)
 |[],n=>Rest.refl n
 |x::r,n=>(ep n x).trans (sN r _)
def ou(n:Nd)(p:Pk):Int:=
 if p.e=0 then(if oe n p.ms=0 then(if Sv.aE n.sv p.sv=0 then Gw.aE n.gw p.gw else Sv.aE n.sv p.sv) else oe n p.ms) else p.e
def og(n:Nd)(p:Pk):Nd:={ tU n p.ms with sv:=Sv.av n.sv p.sv,gw:=Gw.av n.gw p.gw,wh:=B4 n.wh p.wh }
theorem tV{p:Pk}(h:p.e=0):(∀m∈p.ms,m.e=0)/\p.ms.length<=20/\Wh.bl p.wh=0/\Sv.bl p.sv=0/\Gw.bl p.gw=0:=by
 unfold Pk.e at h;split at h
 .rename_i h0
  split at h
  .rename_i h1
   have hm:(∀m∈p.ms,m.e=0)/\p.ms.length<=20:=by
    unfold Pk.mE at h1;split at h1
    .exact⟨lX h1,(af h1).1⟩
    .obtain⟨a,b,_⟩:=vU h1
     exact⟨bf _ b,by omega⟩
   split at h
   .rename_i h2
    split at h
    .rename_i h3;exact⟨hm.1,hm.2,h,h2,h3⟩
    .rename_i h3;exact absurd h h3
   .rename_i h2;exact absurd h h2
  .rename_i h1;exact absurd h h1
 .cases h
theorem sO(a b:Mem):eb a b=true↔b.aJ<a.aJ\/(b.aJ=a.aJ/\(b.state<a.state\/(b.state=a.state/\(b.addr<a.addr\/(b.addr=a.addr/\(b.server=false/\a.server=true)))))):=by
 unfold eb oK;by_cases h1:a.aJ=b.aJ
 .rw[if_pos h1]
  by_cases h2:a.state=b.state
  .rw[if_pos h2]
   by_cases h3:a.addr=b.addr
   .rw[if_pos h3]
    cases ha:a.server<;>cases hb:b.server<;>simp<;>omega
   .rw[if_neg h3,decide_eq_true_eq]
    constructor
    .intro h;exact .inr ⟨h1.symm,.inr ⟨h2.symm,.inl h⟩⟩
    .rintro(h|⟨_,h|⟨_,h|⟨h,_⟩⟩⟩)<;>omega
  .rw[if_neg h2,decide_eq_true_eq]
   constructor
   .intro h;exact .inr ⟨h1.symm,.inl h⟩
   .rintro(h|⟨_,h|⟨h,_⟩⟩)<;>omega
 .rw[if_neg h1,decide_eq_true_eq]
  constructor
  .intro h;exact .inl h
  .rintro(h|⟨h,_⟩)<;>omega
theorem B5{a b:Mem}(h:eb a b=true):eb b a=false:=by
 rw[sO] at h;rcases hb:eb b a with _|_
 .rfl
 .rw[sO] at hb
  rcases h with h|⟨h1,h|⟨h2,h|⟨h3,h4,h5⟩⟩⟩<;>rcases hb with g|⟨g1,g|⟨g2,g|⟨g3,g4,g5⟩⟩⟩<;>first|omega|(rw[h4] at g5;cases g5)
theorem sP{a b c:Mem}(h1:eb a b=false)(h2:eb b c=false):eb a c=false:=by
 rcases h3:eb a c with _|_
 .rfl
 .exfalso
  have g1:¬ eb a b=true:=by rw[h1];simp
  have g2:¬ eb b c=true:=by rw[h2];simp
  rw[sO] at h3 g1 g2;by_cases l1:b.aJ<a.aJ
  .exact g1 (.inl l1)
  by_cases l2:c.aJ<b.aJ
  .exact g2 (.inl l2)
  rcases h3 with h|⟨e1,h⟩
  .omega
  have e2:b.aJ=a.aJ:=by omega
  have e3:c.aJ=b.aJ:=by omega
  by_cases s1:b.state<a.state
  .exact g1 (.inr ⟨e2,.inl s1⟩)
  by_cases s2:c.state<b.state
  .exact g2 (.inr ⟨e3,.inl s2⟩)
  rcases h with h|⟨f1,h⟩
  .omega
  have f2:b.state=a.state:=by omega
  have f3:c.state=b.state:=by omega
  by_cases a1:b.addr<a.addr
  .exact g1 (.inr ⟨e2,.inr ⟨f2,.inl a1⟩⟩)
  by_cases a2:c.addr<b.addr
  .exact g2 (.inr ⟨e3,.inr ⟨f3,.inl a2⟩⟩)
  rcases h with h|⟨k1,k4,k5⟩
  .omega
  have k2:b.addr=a.addr:=by omega
  have k3:c.addr=b.addr:=by omega
  rcases hb:b.server with _|_
  .exact g1 (.inr ⟨e2,.inr ⟨f2,.inr ⟨k2,hb,k5⟩⟩⟩)
  .exact g2 (.inr ⟨e3,.inr ⟨f3,.inr ⟨k3,k4,hb⟩⟩⟩)
def Le(ms ms':List Mem):Prop:=∀t k,cv ms t=AI k->∃k',cv ms' t=AI k'/\eb k k'=false
theorem Le.refl(ms:List Mem):Le ms ms:=λ_ k h=>⟨k,h,gO k⟩
theorem Le.trans{a b c:List Mem}(h:Le a b)(k:Le b c):Le a c:=λt x hx=>by
 obtain⟨y,hy,h1⟩:=h t x hx;obtain⟨z,hz,h2⟩:=k t y hy;exact⟨z,hz,sP h1 h2⟩
theorem Nl{ms:List Mem}(hr:bp ms)(m:Mem):Le ms (aO ms m):=λt k hk=>by
 by_cases ht:m.name=t
 .subst ht
  by_cases hh:aO ms m=ms
  .rw[hh];exact⟨k,hk,gO k⟩
  .refine⟨m,mY m ms hh,?_⟩
   have h1:=(nc hr m).2 hh;unfold oW at h1;rw[hk] at h1;exact B5 h1
 .rw[mX m t ht ms];exact⟨k,hk,gO k⟩
theorem tW{x:Mem}{t:ByteArray}(hx:x.name≠t):∀(ms:List Mem) (p:Nat),(ms.getD p dm).name≠t->cv (ms.set p x) t=cv ms t
 |[],_,_=>rfl
 |y::r,0,h=>by
  have h:y.name≠t:=by simpa using h
  show cv (x::r) t=cv (y::r) t;rw[eo,eo,if_neg hx,if_neg h]
 |y::r,p+1,h=>by
  have h:(r.getD p dm).name≠t:=by simpa using h
  show cv (y::r.set p x) t=cv (y::r) t;rw[eo,eo,tW hx r p h]
theorem B6(k:Mem):eb k (cA k)=false:=by
 rcases h:eb k (cA k) with _|_
 .rfl
 .rw[sO] at h
  have e:(cA k).aJ=k.aJ+1:=rfl;rw[e] at h;rcases h with h|⟨h,_⟩<;>omega
theorem tX{ms ms':List Mem}{r:bE}(h:Le ms ms')(ha:fh ms r=false):fh ms' r=false:=by
 unfold fh at ha ⊢;rcases hf:cv ms r.m.name with _|k
 .rw[hf] at ha;cases ha
 .rw[hf] at ha
  obtain⟨k',h1,h2⟩:=h _ _ hf;rw[h1];exact sP ha h2
theorem tY{ms:List Mem}{m:Mem}{i:Int}(h:cv ms m.name=AI m):fh ms ⟨m,i⟩=false:=by
 unfold fh;show(match cv ms m.name with|none=>true|some k=>eb m k)=false;rw[h];exact gO m
theorem KF{n:Nd}(h:bl n.ms=0)(m:Mem):Le n.ms (eR n m).ms:=by
 have hl:=Nl (af h).2.1 m;unfold eR;split<;>exact hl
theorem KG{n:Nd}(h:bl n.ms=0):Le n.ms (sM n).ms:=by
 unfold sM;by_cases hR:iK n.ms (jq n) (nf n)=true
 .rw[if_pos hR]
  obtain⟨_,cH,hL,hM,_,hn,hp⟩:=qm h hR;intro t k hk;show ∃k',cv (nP n) t=AI k'/\eb k k'=false;rw[hL];by_cases ht:n.name=t
  .subst ht
   have h1:=gN cH;rw[h1] at hk;injection hk with hk;refine⟨cA k,?_,B6 k⟩;rw[gN (BW cH (x:=cA (n.ms.getD (jq n) dm)) hn),<- hk];simp[Ip,hp]
  .rw[tW (x:=cA (n.ms.getD (jq n) dm)) (λe=>ht (hn.symm.trans e)) n.ms (jq n) (λe=>ht (hn.symm.trans e))]
   exact⟨k,hk,gO k⟩
 .rw[if_neg hR]
  have:nP n=n.ms:=by unfold nP sw;rw[if_neg hR]
  show Le n.ms (nP n);rw[this];exact Le.refl _
theorem KH{n:Nd}{m:Mem}(h:Sp n)(hm:m.e=0)(h0:jx n m=0):Le n.ms (kj n m).ms:=by
 unfold kj;have h1:=KF h.ms m;split
 .exact h1.trans (KG (o7 h.ms h.rs hm h0).1)
 .exact h1
theorem Nd.ot.pe{n:Nd}(h:n.ot):n.pE=0:=by
 unfold Nd.pE;rw[h.name,h.aD,if_pos (by rfl),if_pos h.ms,if_pos h.rs,if_pos h.sv,if_pos h.gw,if_pos h.p,h.wh]
theorem KI{n n':Nd}(h:n.ot)(hs:Sp n')(hr:Rest n n'):n'.ot:=
 ⟨hs.name,by rw[hr.aD];exact h.aD,hs.ms,hs.rs,by rw[hr.sv];exact h.sv,by rw[hr.gw];exact h.gw,by rw[hr.p];exact h.p,by rw[hr.wh];exact h.wh⟩
theorem Dx{n:Nd}{m:Mem}(he:n.e=0)(hm:m.e=0)(h0:lr n m=0):(kj n m).e=0:=by
 have hp:=Nd.parts (Nd.aN he).1;have tZ:Sp n:=⟨hp.ms,hp.rs,hp.name⟩;obtain⟨me,Dy,s2,s3,hah⟩:=Nd.iW (Nd.aN he).2;have hS:=Dv tZ hm h0;refine Nd.SJ (KI hp hS (ep n m)).pe ?_;have hr:=(af hp.ms).2.1;have h1:jx n m=0:=by
  unfold lr at h0;split at h0
  .rename_i h;exact h
  .rename_i h;exact absurd h0 h
 have gQ:(eR n m).ms=aO n.ms m:=by unfold eR;split<;>rfl
 have hle:=KF hp.ms m;have SK:∀r∈(eR n m).rs,fh (eR n m).ms r=false:=by
  intro r nN;rw[gQ];rw[gQ] at hle;by_cases hc:oW n.ms m=true
  .have oz:(eR n m).rs=gm n.rs m:=by unfold eR;rw[if_pos hc]
   rw[oz] at nN;rcases ql nN with h|rfl
   .exact tX hle (hah r h)
   .exact tY (mY m n.ms ((nc hr m).1 hc))
  .have oz:(eR n m).rs=n.rs:=by unfold eR;rw[if_neg hc]
   rw[oz] at nN;exact tX hle (hah r nN)
 by_cases hn:m.name=n.name
 .have hN:kj n m=sM (eR n m):=by unfold kj;rw[if_pos hn]
  have h2:yR (eR n m)=0:=by
   unfold lr at h0;rw[if_pos h1,if_pos hn] at h0;exact h0
  have Nn:=o7 hp.ms hp.rs hm h1;have cZ:(eR n m).name=n.name:=ni n m;rw[hN];obtain⟨k1,jn,_⟩:=hle _ _ Dy;rw[<- cZ] at jn;generalize eR n m=n1 at *;have mJ:=KG Nn.1;have cH:=xM (af Nn.1).2.1 n1.name;by_cases hR:iK n1.ms (jq n1) (nf n1)=true
  .obtain⟨_,aeh,hL,hM,_,SL,sL⟩:=qm Nn.1 hR
   have P1:sM n1={ n1 with ms:=nP n1,rs:=gm n1.rs (xO n1) }:=by unfold sM;rw[if_pos hR]
   rw[P1] at mJ ⊢;have hf:cv (nP n1) n1.name=AI (xO n1):=by
    rw[hL,gN (BW aeh (x:=cA (n1.ms.getD (jq n1) dm)) SL),hM];simp[Ip,sL]
   have hmn:(xO n1).name=n1.name:=by rw[hM];exact SL
   have pC:(xO n1).state=1:=by rw[hM];rfl
   refine Nd.Dz (m:=xO n1) hf (by rw[pC];decide) (by rw[pC];decide) (λr nN=>?_);rcases ql nN with h|rfl
   .exact tX mJ (SK r h)
   .exact tY (by rw[hmn];exact hf)
  .have P1:sM n1={ n1 with ms:=nP n1 }:=by unfold sM;rw[if_neg hR]
   have hL:nP n1=n1.ms:=by unfold nP sw;rw[if_neg hR]
   rw[P1,hL];have hF:nf n1=true:=by
    rcases hF:nf n1 with _|_
    .have hF2:M6 n1.ms n1.name=false:=hF
     rw[hF2] at cH;have:=rP (af Nn.1).2.1 cH;rw[jn] at this;cases this
    .rfl
   have hF2:M6 n1.ms n1.name=true:=hF;rw[hF2] at cH;have h5:=gN cH;rw[jn] at h5;injection h5 with h5;have hE:jd n1.ms (jq n1) (nf n1)=0:=by
    unfold yR at h2;split at h2
    .rename_i h;exact h
    .rename_i h;exact absurd h2 h
   have pV:¬ (k1.state=2\/k1.state=3):=by
    intro hb;have aK:(decide ((n1.ms.getD (jq n1) dm).state=2)||decide ((n1.ms.getD (jq n1) dm).state=3))=true:=by
     have e:n1.ms.getD (jq n1) dm=k1:=h5.symm;rw[e];rcases hb with hb|hb<;>simp[hb]
    unfold iK at hR;unfold jd at hE;rw[hF,aK] at hR hE;rcases hl:((n1.ms.getD (jq n1) dm).aJ==1000000) with _|_
    .rw[hl] at hR;exact hR rfl
    .rw[hl] at hE;cases hE
   exact Nd.Dz (m:=k1) jn (λe=>pV (.inl e)) (λe=>pV (.inr e)) SK
 .have hN:kj n m=eR n m:=by unfold kj;rw[if_neg hn]
  rw[hN];refine Nd.Dz (m:=me) ?_ s2 s3 SK;rw[gQ,ni,mX m n.name hn n.ms];exact Dy
theorem P2:∀(l:List Mem) (n:Nd),n.e=0->(∀m∈l,m.e=0)->oe n l=0->(tU n l).e=0
 |[],_,h,_,_=>h
 |x::r,n,h,hl,h0=>by
  rw[oe] at h0;split at h0
  .rename_i h1
   exact P2 r (kj n x) (Dx h (hl x (by simp)) h1) (λm hm=>hl m (by simp[hm])) h0
  .rename_i h1;exact absurd h0 h1
theorem sQ{n:Nd}{m:Mem}(h:lr n m=0):jx n m=0:=by
 unfold lr at h;split at h
 .rename_i h1;exact h1
 .rename_i h1;exact absurd h h1
theorem KJ:∀(l:List Mem) (n:Nd),Sp n->(∀m∈l,m.e=0)->oe n l=0->Le n.ms (tU n l).ms
 |[],n,_,_,_=>Le.refl _
 |x::r,n,h,hl,h0=>by
  rw[oe] at h0;split at h0
  .rename_i h1
   exact(KH h (hl x (by simp)) (sQ h1)).trans (KJ r (kj n x) (Dv h (hl x (by simp)) h1) (λm hm=>hl m (by simp[hm])) h0)
  .rename_i h1;exact absurd h0 h1
def P3(wh:List Wh.bK)(x:Wh.bK):Int:=if 20<(Wh.aO wh x).length then 2 else 0
theorem EO(L b:Nat)(n:Nd)(x:Wh.bK)(w:World)(h:Wk L w b n)(hL:L<=b)(hf:Wh.o6 n.wh)(hx:x.ok) :
 Calls Tryz.prog 201 #[Ie (AI ⟨b,0,be⟩),Ij #[Y x.node,U O x.x,U O x.y,U O x.z,U O x.h,U O x.s]] w λe w'=>e=AT (U O (P3 n.wh x))/\Sh (λk=>k=b) w w'/\Hid (Wk L w' b { n with wh:=Wh.aO n.wh x }):=by
 have qj:Hid (Wk L w b n):=h;have aR:=h.lt;obtain⟨vm,vr,vs,vg,vw,h1,h2,h3,h4⟩:=h;have mC:Hid _:=h2.is h4;obtain⟨aw,cw,Mm,_⟩:=aA h2.wh;subst Mm;obtain⟨W1,cT,aB,ft,cO⟩:=bY w #[Y x.node,U O x.x,U O x.y,U O x.z,U O x.h,U O x.s] 116;have ba:Hid _:=aB;obtain⟨W3,eu⟩:∃W3,W3=((W1.alloc (By #[Y x.node,U O x.x,U O x.y,U O x.z,U O x.h,U O x.s] 116)).alloc (By #[J aw n.wh.length cw,J (AI ⟨W1.heap.size,0,be⟩) 1 1] 40)).drew:=⟨_,rfl⟩;have bX:Below w.heap.size w W3:=by rw[eu];exact((aB.alloc aB.size _).alloc (by simp;omega) _).drew
 have sn:W3.heap.size=W1.heap.size+2:=by rw[eu];simp
 have lF:W3.heap[W1.heap.size+1]?=AI (By #[J aw n.wh.length cw,J (AI ⟨W1.heap.size,0,be⟩) 1 1] 40 (0,0)):=by
  have h:=Ih (W1.alloc (By #[Y x.node,U O x.x,U O x.y,U O x.z,U O x.h,U O x.s] 116)) (By #[J aw n.wh.length cw,J (AI ⟨W1.heap.size,0,be⟩) 1 1] 40);rw[eu,dD];simpa using h
 have SM:W3.heap[W1.heap.size]?=AI (By #[Y x.node,U O x.x,U O x.y,U O x.z,U O x.h,U O x.s] 116 (0,0)):=by
  rw[eu,dD,Below.heap_alloc _ _ _ (by simp)];exact Ih W1 _
 have GJ:Wh.Sl W3 (J (AI ⟨W1.heap.size,0,be⟩) 1 1) [x]:=by
  refine⟨_,_,rfl,Wh.cy (λm hm=>by simp at hm;rw[hm];exact hx),.inr ⟨_,0,rfl,by omega,λj hj=>?_⟩⟩;have P4:j=0:=by simpa using hj
  subst P4;exact⟨ae SM 0,ae SM 1,ae SM 2,ae SM 3,ae SM 4,ae SM 5⟩
 have HJ:Hid (Calls Tryz.prog 238 #[.func (.func 112) #[] #[],.func (.func 237) #[] #[],J (AI ⟨W1.heap.size+1,0,be⟩) 2 2] W3 λe w'=>∃p c,e=AT (J p (Wh.aO n.wh x).length c)/\Hid (Wh.Own W3.heap.size w' (J p (Wh.aO n.wh x).length c) (Wh.aO n.wh x))/\Below W3.heap.size W3 w'):=by
  refine(Wh.iL n.wh [x] _ _ (W1.heap.size+1) 2 W3 (mC.out.wh.below bX) GJ (by omega) (ae lF 0) (ae lF 1) hf.len (by simp) hf.EH).mono ?_;rintro e w' ⟨v',rfl,ho,hb⟩;obtain⟨p,c,rfl,_⟩:=aA ho;exact⟨p,c,rfl,ho,hb⟩
 have tP:Hid (∀w1 a k c,Below W3.heap.size W3 w1->Wh.Own W3.heap.size w1 (J a k c) (Wh.aO n.wh x)->Wk L (w1.setCell ⟨b,11,be⟩ (J a k c)) b { n with wh:=Wh.aO n.wh x }/\Sh (λk=>k=b) w (w1.setCell ⟨b,11,be⟩ (J a k c))/\w1.heap[b]?=AI (By (dv n vm vr vs vg (J aw n.wh.length cw)) 90 (0,0))):=λw1 a k c Np H6=>
  ⟨(qj.out.below bX).Ss (by have:=bX.size;omega) Np H6 (Wh.qo hf.ok hx),((Sh.of bX).next Np).setCell (S:=λk=>k=b) rfl _,((bX.trans (Np.mono bX.size)).block _ aR).trans h1⟩
 have HX:Hid (∀W,Below w.heap.size w W->W.heap[b]?=AI (By (dv n vm vr vs vg (J aw n.wh.length cw)) 90 (0,0))):=λW hW=>(hW.block _ aR).trans h1;have HE:Hid (P3 n.wh x=if 20<(Wh.aO n.wh x).length then 2 else 0):=rfl;generalize P3 n.wh x=res at *;generalize Wh.aO n.wh x=HL at *;generalize iT:HL.length=kl at *;have HKL:Hid _:=iT;have y11:=ae (HX.out W1 aB) 11;clear iT h1 h2 h3 h4 hf hx GJ SM lF sn bX aB;generalize n.wh.length=nl at *;obtain⟨x0,x1,x2,x3,x4,x5⟩:=x;simp only at cO cT eu;obtain⟨c0,c1,c2,c3,c4,c5⟩:=fx cO;have alb:b<W1.heap.size:=by omega
 have alc:w.heap.size<W1.heap.size:=by omega
 have Wp:¬ b=W1.heap.size:=by omega
 have aeg:¬ w.heap.size=W1.heap.size:=by omega
 have ald:¬ b=W1.heap.size+1:=by omega
 have ale:¬ w.heap.size=W1.heap.size+1:=by omega
 have tR:Hid _:=ft;clear cO ft;go_enter Tryz.func201,Tryz.ntmps201;go_upto_region 2 with fail
 rw[<- cT];clear cT;go_region_with (first|(go_at_call 238;refine(show Calls _ _ _ _ _ by first|(rw[<- eu];exact HJ.out)|(have h:=HJ.out;rw[eu] at h;exact h)).mono ?_;rintro e w5 ⟨a,c,rfl,PZ,jD⟩;obtain⟨i1,i2,i3⟩:=tP.out w5 a kl c jD PZ.out;have HI1:Hid (Wk L (w5.setCell ⟨b,11,be⟩ (J a kl c)) b { n with wh:=HL }):=i1;have Ve:Hid (Sh (λk=>k=b) w (w5.setCell ⟨b,11,be⟩ (J a kl c))):=i2;have z11:w5.cell? ⟨b,11,be⟩=AI (J aw nl cw):=ae i3 11;have zf:w5.frozen? ⟨b,11,be⟩=false:=aj i3 11;clear PZ jD i1 i2 i3))
 all_goals
  by_cases hk20:20<kl
  .have HR:Hid _:=HE.out.trans (if_pos hk20)
   have Md:(20:Int)<(kl:Int):=by omega
   clear hk20 HE;go_wp2_with fail;go_ret;exact⟨ai HR.out.symm,Ve.out,HI1⟩
  .have HR:Hid _:=HE.out.trans (if_neg hk20)
   have Md:¬ (20:Int)<(kl:Int):=by omega
   clear hk20 HE;go_wp2_with fail;go_ret;exact⟨ai HR.out.symm,Ve.out,HI1⟩
end Go.Proofs.YtfidhgjmifendaaGreatDoor
