import Derived.Test.YtfidjlcdlakceaaGreatDoorrt44
import Derived.Test.YtfidjlcdlakceaaGreatDoorrt45
import Derived.Test.YtfidjlcdlakceaaGreatDoorrt22
set_option maxHeartbeats 25600000
set_option maxRecDepth 100000
open Go.Value renaming pointer→Ig,string→I,int→O,bool→AT,slice→U
open Go.IntKind renaming i64→J
open Go.Ending renaming returned→sh
open Option renaming some→Z,none→Y
open Go.RowKit.Below renaming refl→Ia
open List renaming length_set→Jc,pairwise_iff_getElem→Ju
namespace Go.Proofs.YtfidjlcdlakceaaGreatDoor
open Go.RowKit
theorem Mq{ms:List Mem}{m:Mem}(h:∀x∈ms,x.name.size<=maxLen)(hm:m.name.size<=maxLen):∀x∈bB ms m,x.name.size<=maxLen:=λx hx=>by
 rcases jV ms m x hx with rfl|hx
 .exact hm
 .exact h x hx
theorem WA(n:Nd)(m:Mem):(mx n m).ms=bB n.ms m:=by unfold mx;split<;>rfl
theorem tN(n:Nd)(m:Mem):(mx n m).name=n.name:=by unfold mx;split<;>rfl
theorem vV{ms:List Mem}{m:Mem}(h:aM ms=0)(hm:m.e=0)(hj:aX ms [m]=0):(bB ms m).length<=20:=by
 rw[Gb h hm] at hj;split at hj
 .cases hj
 .omega
theorem xn{n:Nd}{m:Mem}(h:aM n.ms=0)(hr:cI n.rs=0)(hm:m.e=0)(h0:ku n m=0):aM (mx n m).ms=0/\cI (mx n m).rs=0:=by
 unfold ku at h0;split at h0
 .rename_i hj
  rw[WA];refine⟨Mp h hm (vV h hm hj),?_⟩;unfold mx;by_cases hc:tM n.ms m=true
  .rw[if_pos hc] at h0 ⊢
   exact zG hr hm h0
  .rw[if_neg hc];exact hr
 .rename_i hj;exact absurd h0 hj
theorem tO(L b:Nat)(n:Nd)(m:Mem)(w:World)(h:Wk L w b n)(hL:L<=b)(jj:aM n.ms=0)(oQ:cI n.rs=0)(hl:aA n.name=true)(hm:m.e=0)(hmz:m.name.size<=maxLen) :
 aT 95 #[Ig (Z ⟨b,0,Y⟩),.agg #[I m.name,O J m.state,O J m.aP,O J m.addr,AT m.server]] w λe w'=>e=sh (O J (oE n m))/\Sh (λk=>k=b) w w'/\Hid (oE n m=0->Wk L w' b (rS n m)):=by
 have yh:Hid (Wk L w b n):=h;have aL:=h.lt;obtain⟨vm,vr,vs,vg,vw,h1,h2,h3,h4⟩:=h;have BI:Hid _:=h2.is h4;obtain⟨am,cm,rq,_⟩:=ax h2.ms;subst rq;have HHR:Hid (∀W,Below w.heap.size w W->aT 144 #[U am n.ms.length cm,.agg #[I m.name,O J m.state,O J m.aP,O J m.addr,AT m.server]] W λe w'=>∃a k c,e=sh (.tuple #[U a k c,AT (decide (aX n.ms [m]=0)&&tM n.ms m),O J (aX n.ms [m])])/\Below W.heap.size W w'/\(aX n.ms [m]=0->Own W.heap.size w' (U a k c) (bB n.ms m))):=λW hW=>by
  refine(Kg n.ms m _ W (BI.out.ms.below hW) hmz).mono ?_;rintro e w' ⟨v',r,rfl,hb,hx,ho⟩;by_cases h0:aX n.ms [m]=0
  .obtain⟨uP,ky⟩:=ho h0
   obtain⟨a,c,rfl,_⟩:=ax uP;refine⟨a,_,c,?_,hb,λ_=>uP⟩;have e1:r=tM n.ms m:=by rw[Bool.eq_iff_iff,ky,zH (aI jj).2.1]
   rw[e1,decide_eq_true h0,Bool.true_and]
  .obtain⟨rfl,rfl⟩:=hx h0
   exact⟨Y,0,0,by rw[decide_eq_false h0,Bool.false_and],hb,λh=>absurd h h0⟩
 have EA:Hid (∀W w1 a k c,Below w.heap.size w W->Below W.heap.size W w1->(aX n.ms [m]=0->Own W.heap.size w1 (U a k c) (bB n.ms m))->aX n.ms [m]=0->Wk L (w1.setCell ⟨b,2,Y⟩ (U a k c)) b { n with ms:=bB n.ms m }):=λW w1 a k c hW h1 h2 h0=>
  (yh.out.below hW).L6 (by have:=hW.size;omega) h1 (h2 h0) (Mq h4.ms hmz)
 have HX:Hid (∀W,Below w.heap.size w W->W.heap[b]?=Z (.cells (fB n (U am n.ms.length cm) vr vs vg vw) 81 (0,0))):=λW hW=>(hW.block _ aL).trans h1;have Rg:Hid (∀W,aX n.ms [m]=0->tM n.ms m=true->Wk L W b { n with ms:=bB n.ms m }->aT 145 #[Ig (Z ⟨b,0,Y⟩),I m.name] W λe w'=>e=sh (O J (gz n.rs m))/\Sh (λk=>k=b) W w'/\(gz n.rs m=0->Wk L w' b { n with ms:=bB n.ms m,rs:=hU n.rs m })):=λW hj hc hW=>
  tL L b { n with ms:=bB n.ms m } m.name m W hW hL (by show(bB n.ms m).length<=1000;have:=vV jj hm hj;omega) oQ (jT (zC m n.ms ((zH (aI jj).2.1 m).1 hc))) hm hmz
 have HRF:Hid (∀W,ku n m=0->Wk L W b (mx n m)->aT 146 #[Ig (Z ⟨b,0,Y⟩)] W λe w'=>e=sh (O J (B2 (mx n m)))/\Sh (λk=>k=b) W w'/\Hid (B2 (mx n m)=0->Wk L w' b (Ge (mx n m)))):=λW h0 hW=>
  B3 L b (mx n m) W hW hL (xn jj oQ hm h0).1 (xn jj oQ hm h0).2 (by rw[tN];exact hl)
 have Nk:Hid (∀W,Wk L W b (mx n m)->W.cell? ⟨b,0,Y⟩=Z (I n.name)):=λW hW=>by
  obtain⟨_,_,_,_,_,g1,_⟩:=hW;rw[<- tN n m];exact af g1 0
 have T7:Hid (ku n m≠0->oE n m=ku n m):=λh=>by show oE n m=_;unfold oE;rw[if_neg h]
 have HEQ:Hid (ku n m=0->m.name=n.name->oE n m=B2 (mx n m)):=λh h2=>by show oE n m=_;unfold oE;rw[if_pos h,if_pos h2]
 have HEN:Hid (ku n m=0->m.name≠n.name->oE n m=0):=λh h2=>by show oE n m=_;unfold oE;rw[if_pos h,if_neg h2]
 have iR:Hid (aX n.ms [m]≠0->ku n m=aX n.ms [m]):=λh=>by show ku n m=_;unfold ku;rw[if_neg h]
 have kP:Hid (aX n.ms [m]=0->tM n.ms m=false->ku n m=0/\mx n m={ n with ms:=bB n.ms m }):=λh hc=>by
  show ku n m=0/\mx n m=_;unfold ku mx;rw[if_pos h,if_neg (by rw[hc];simp),if_neg (by rw[hc];simp)];exact⟨rfl,rfl⟩
 have Eu:Hid (aX n.ms [m]=0->tM n.ms m=true->ku n m=gz n.rs m/\mx n m={ n with ms:=bB n.ms m,rs:=hU n.rs m }):=λh hc=>by
  show ku n m=_/\mx n m=_;unfold ku mx;rw[if_pos h,if_pos hc,if_pos hc];exact⟨rfl,rfl⟩
 have HBM:Hid (∀W,Wk L W b { n with ms:=bB n.ms m }->W.cell? ⟨b,0,Y⟩=Z (I n.name)):=λW hW=>by
  obtain⟨_,_,_,_,_,g1,_⟩:=hW;exact af g1 0
 obtain⟨W0,eu,eN,r8,eo⟩:=eC w #[I m.name,O J m.state,O J m.aP,O J m.addr,AT m.server] 70;have dB:Hid _:=eN;obtain⟨x0,x1,x2,x3,x4⟩:=xc eo;have y2:=af (HX.out W0 eN) 2;have yO:Hid _:=eo;generalize oE n m=res at *;generalize wM:n.ms.length=km at *;clear wM h1 h2 h3 h4 jj oQ eo eN;generalize aX n.ms [m]=je at *;generalize gz n.rs m=pe at *;generalize ku n m=se at *;generalize tM n.ms m=cb at *;go_enter Tryz.func95,Tryz.ntmps95;go_upto_region 2 with fail
 rw[<- eu];clear eu;go_region_with (first|(go_at_call 144;refine(HHR.out _ dB.out.drew).mono ?_;rintro e w1 ⟨a,k,c,rfl,an,uP⟩;have aK:Hid (Below W0.heap.size W0 w1):=(Ia W0.heap.size W0).drew.trans an;have lT:Hid (je=0->Wk L (w1.setCell ⟨b,2,Y⟩ (U a k c)) b { n with ms:=bB n.ms m }):=EA.out _ _ a k c dB.out.drew an uP;have eL:=HX.out w1 (dB.out.trans (aK.out.mono dB.out.size));have z2:w1.cell? ⟨b,2,Y⟩=Z (U am km cm):=af eL 2;have zf:w1.frozen? ⟨b,2,Y⟩=false:=fJ eL 2;have kQ:=(aK.out.block _ (show w.heap.size<W0.heap.size by omega)).trans yO.out;clear an uP eL))
 all_goals
  obtain⟨W2,eW⟩:∃W2,W2=w1.setCell ⟨b,2,Y⟩ (U a k c):=⟨_,rfl⟩;rw[<- eW] at lT;have De:Hid (Sh (λk=>k=b) w W2):=by rw[eW];exact(Sh.of (dB.out.trans (aK.out.mono dB.out.size))).setCell (S:=λk=>k=b) rfl _
  have gV:Hid (W2.heap[w.heap.size]?=Z (.cells #[I m.name,O J m.state,O J m.aP,O J m.addr,AT m.server] 70 (0,0))):=by rw[eW];exact(Below.heap_setCell _ _ _ _ (by simp only;omega)).trans kQ
  rw[<- eW];clear eW z2 zf y2 kQ x0 x1 x2 x3 x4;by_cases hj:je=0
  .cases cb
   .obtain⟨e1,e2⟩:=kP.out hj rfl
    have WB:Hid (Wk L W2 b (mx n m)):=by rw[e2];exact lT.out hj
    subst hj;clear e2 lT iR kP Eu Rg T7;have u0:=af gV.out 0;have u1:=Nk.out W2 WB.out;by_cases eX:m.name=n.name
    .have hq:(m.name.toList !=n.name.toList)=false:=by rw[eX];simp
     have hq2:(m.name.toList==n.name.toList)=true:=by rw[eX];simp
     have hq3:m.name.toList=n.name.toList:=by rw[eX]
     have HR:Hid _:=HEQ.out e1 eX;have HN:Hid (rS n m=Ge (mx n m)):=by show rS n m=_;unfold rS;rw[if_pos eX]
     have A7:Hid (∀q,aT _ _ _ _):=λq=>HRF.out _ e1 (WB.out.below (below_drewN (Ia _ _) q));clear eX;generalize B2 (mx n m)=re at *;go_wp2_with fail;go_quiet (fail)
     go_wp2_with fail;refine(A7.out _).mono ?_;rintro e w7 ⟨rfl,WC,xT⟩;have A8:Hid _:=De.out.trans ((Sh.of (below_drewN (Ia _ _) _)).trans WC);clear WC;go_wp2_with fail;go_ret;exact⟨aj HR.out.symm,A8.out,λh=>by rw[HN.out];exact xT.out (HR.out.symm.trans h)⟩
    .have hq:=(sj _ _).2 eX
     have hq2:(m.name.toList==n.name.toList)=false:=by rw[jS,decide_eq_false eX]
     have HR:Hid _:=HEN.out e1 eX;have HN:Hid (rS n m=mx n m):=by show rS n m=_;unfold rS;rw[if_neg eX]
     clear eX;go_wp2_with fail;go_quiet (fail)
     go_wp2_with fail;go_ret;exact⟨aj HR.out.symm,De.out.trans (Sh.of (below_drewN (Ia _ _) _)),λ_=>by rw[HN.out];exact WB.out.below (below_drewN (Ia _ _) _)⟩
   .obtain⟨e1,e2⟩:=Eu.out hj rfl
    have Rl:=lT.out hj;have HTC:Hid (aT _ _ _ _):=Rg.out W2 hj rfl Rl;have u0:=af gV.out 0;subst hj;clear Rl lT iR kP Eu Rg;go_wp2_with fail;refine HTC.out.mono ?_;rintro e w4 ⟨rfl,yw,PT⟩;have Kw:Hid _:=De.out.trans yw;have abw:=(yw.block _ ((Array.getElem?_eq_some_iff.1 gV.out).1) (by omega)).trans gV.out;have tX:Hid (pe=0->Wk L w4 b (mx n m)):=λh=>by rw[e2];exact PT h
    have gV:Hid _:=abw;clear yw PT abw u0 HTC e2;by_cases hp:pe=0
    .have WD:Hid (Wk _ _ _ _):=tX.out hp
     have e3:=e1.trans hp;subst hp;clear tX e1 T7;have u0:=af gV.out 0;have u1:=Nk.out w4 WD.out;by_cases eX:m.name=n.name
     .have hq:(m.name.toList !=n.name.toList)=false:=by rw[eX];simp
      have hq2:(m.name.toList==n.name.toList)=true:=by rw[eX];simp
      have hq3:m.name.toList=n.name.toList:=by rw[eX]
      have HR:Hid _:=HEQ.out e3 eX;have HN:Hid (rS n m=Ge (mx n m)):=by show rS n m=_;unfold rS;rw[if_pos eX]
      have A7:Hid (∀q,aT _ _ _ _):=λq=>HRF.out _ e3 (WD.out.below (below_drewN (Ia _ _) q));clear eX;generalize B2 (mx n m)=re at *;go_wp2_with fail;go_quiet (fail)
      go_wp2_with fail;refine(A7.out _).mono ?_;rintro e w7 ⟨rfl,WC,xT⟩;have A8:Hid _:=Kw.out.trans ((Sh.of (below_drewN (Ia _ _) _)).trans WC);clear WC;go_wp2_with fail;go_ret;exact⟨aj HR.out.symm,A8.out,λh=>by rw[HN.out];exact xT.out (HR.out.symm.trans h)⟩
     .have hq:=(sj _ _).2 eX
      have hq2:(m.name.toList==n.name.toList)=false:=by rw[jS,decide_eq_false eX]
      have HR:Hid _:=HEN.out e3 eX;have HN:Hid (rS n m=mx n m):=by show rS n m=_;unfold rS;rw[if_neg eX]
      clear eX;go_wp2_with fail;go_quiet (fail)
      go_wp2_with fail;go_ret;exact⟨aj HR.out.symm,Kw.out.trans (Sh.of (below_drewN (Ia _ _) _)),λ_=>by rw[HN.out];exact WD.out.below (below_drewN (Ia _ _) _)⟩
    .have hp':(pe !=0)=true:=by simpa using hp
     have HR:Hid _:=(T7.out (by rw[e1];exact hp)).trans e1;have Ft:Hid _:=hp;have u0:=af gV.out 0;clear hp e1;go_wp2_with fail;go_quiet (fail)
     go_wp2_with fail;go_ret;exact⟨aj HR.out.symm,Kw.out.trans (Sh.of (below_drewN (Ia _ _) _)),λh=>absurd (HR.out.symm.trans h) Ft.out⟩
  .have gd:(je !=0)=true:=by simpa using hj
   have ua:=decide_eq_false hj;have e1:=iR.out hj;have HR:Hid _:=(T7.out (by rw[e1];exact hj)).trans e1;have Ft:Hid _:=hj;clear hj e1 iR kP Eu;go_wp2_with fail;go_quiet (fail)
   go_wp2_with fail;go_ret;exact⟨aj HR.out.symm,De.out.trans (Sh.of (below_drewN (Ia _ _) _)),λh=>absurd (HR.out.symm.trans h) Ft.out⟩
def Gf(n:Nd)(t:ByteArray)(fw tw:Int):Int:=
 if aA t=true then(if(cM n.ms t).isSome=true then(if t=n.name then 6 else if(dZ n.ms t).state=fw then oE n { dZ n.ms t with state:=tw } else 4) else 5) else 1
def Rm(n:Nd)(t:ByteArray)(tw:Int):Nd:=rS n { dZ n.ms t with state:=tw }
theorem Rn{ms:List Mem}{t:ByteArray}(h:(cM ms t).isSome=true):dZ ms t∈ms/\(dZ ms t).name=t:=by
 obtain⟨m,hm⟩:=Option.isSome_iff_exists.1 h;rw[jT hm];exact od hm
theorem B4(L b:Nat)(n:Nd)(t:ByteArray)(fw tw:Int)(w:World)(h:Wk L w b n)(hL:L<=b)(jj:aM n.ms=0)(oQ:cI n.rs=0)(hl:aA n.name=true)(ht:t.size<=maxLen)(hto:within tw 1 4=true) :
 aT 54 #[Ig (Z ⟨b,0,Y⟩),I t,O J fw,O J tw] w λe w'=>e=sh (O J (Gf n t fw tw))/\Sh (λk=>k=b) w w'/\Hid (Gf n t fw tw=0->Wk L w' b (Rm n t tw)):=by
 have yh:Hid (Wk L w b n):=h;have aL:=h.lt;obtain⟨vm,vr,vs,vg,vw,h1,h2,h3,h4⟩:=h;have BI:Hid _:=h2.is h4;obtain⟨am,cm,rq,_⟩:=ax h2.ms;subst rq;have PY:Hid (ij 104 #[Ig (Z ⟨b,0,Y⟩),I t] w (.tuple #[.agg #[I (dZ n.ms t).name,O J (dZ n.ms t).state,O J (dZ n.ms t).aP,O J (dZ n.ms t).addr,AT (dZ n.ms t).server],AT (cM n.ms t).isSome])):=
  jk b am n.ms.length cm n.ms t w (af h1 2) BI.out.ms (by have:=(aI jj).1;omega)
 have Km:Hid ((cM n.ms t).isSome=true->∀W,Below w.heap.size w W->aT 95 #[Ig (Z ⟨b,0,Y⟩),.agg #[I (dZ n.ms t).name,O J tw,O J (dZ n.ms t).aP,O J (dZ n.ms t).addr,AT (dZ n.ms t).server]] W λe w'=>e=sh (O J (oE n { dZ n.ms t with state:=tw }))/\Sh (λk=>k=b) W w'/\Hid (oE n { dZ n.ms t with state:=tw }=0->Wk L w' b (Rm n t tw))):=λhs W hW=>by
  obtain⟨g1,g2⟩:=Rn hs;have he:=(xk _).1 (pP jj _ g1);exact tO L b n { dZ n.ms t with state:=tw } W (yh.out.below hW) hL jj oQ hl ((xk _).2 ⟨he.1,hto,he.2.2.1,he.2.2.2⟩) (show(dZ n.ms t).name.size<=maxLen from h4.ms _ g1)
 have HX:Hid (∀W,Below w.heap.size w W->W.cell? ⟨b,0,Y⟩=Z (I n.name)):=λW hW=>af ((hW.block _ aL).trans h1) 0;have HE:Hid (Gf n t fw tw=if aA t=true then(if(cM n.ms t).isSome=true then(if t=n.name then 6 else if(dZ n.ms t).state=fw then oE n { dZ n.ms t with state:=tw } else 4) else 5) else 1):=rfl;generalize Gf n t fw tw=res at *;generalize oE n { dZ n.ms t with state:=tw }=se at *;clear h1 h2 h3 h4 jj oQ;generalize(cM n.ms t).isSome=fd at *;generalize oS:dZ n.ms t=m at *;clear oS;obtain⟨mn,st,lf,ad,sv⟩:=m;simp only at PY Km HE;go_enter Tryz.func54,Tryz.ntmps54;rcases j7:aA t with _|_
 .have HR:Hid (res=1):=HE.out.trans (by rw[j7];rfl)
  go_wp2_with (go_at_call 65;refine(aW _ _ ht).mono ?_;rintro e w' ⟨rfl,rfl⟩;rw[j7]);go_ret;exact⟨aj HR.out.symm,Sh.refl _ _,λh=>by have:=HR.out.symm.trans h;cases this⟩
 have iV:Hid (res=if fd=true then(if t=n.name then 6 else if st=fw then se else 4) else 5):=HE.out.trans (by rw[j7];rfl);clear HE;go_wp2_with (first|(go_at_call 65;refine(aW _ _ ht).mono ?_;rintro e w' ⟨rfl,hww⟩;have uR:=hww.symm;subst uR;rw[j7])|fail);refine PY.out.mono ?_;rintro e w1 ⟨rfl,an⟩;obtain⟨W2,eW⟩:∃W2,W2=w1.alloc (.cells #[I mn,O J st,O J lf,O J ad,AT sv] 70):=⟨_,rfl⟩;have aD:Below w.heap.size w W2:=by rw[eW];exact an.alloc an.size _
 have hbb:w1.heap.size<W2.heap.size:=by rw[eW];simp
 have iQ:W2.heap[w1.heap.size]?=Z (.cells #[I mn,O J st,O J lf,O J ad,AT sv] 70 (0,0)):=by rw[eW];exact heap_alloc_new w1 _
 have bD:Hid _:=aD;have gi:=an.size;obtain⟨x0,x1,x2,x3,x4⟩:=xc iQ;have zf:=fJ iQ 1;have y0:=HX.out W2 aD;go_upto_region 4 with fail
 rw[<- eW];clear eW an aD PY;cases fd
 .have HR:Hid (res=5):=iV.out.trans (by simp)
  go_wp2_with fail;go_ret;exact⟨aj HR.out.symm,Sh.of bD.out,λh=>by have:=HR.out.symm.trans h;cases this⟩
 by_cases eX:t=n.name
 .have HR:Hid (res=6):=iV.out.trans (by simp[eX])
  have hq:(t.toList==n.name.toList)=true:=by rw[eX];simp
  have hq2:t.toList=n.name.toList:=by rw[eX]
  clear eX;go_wp2_with fail;go_ret;exact⟨aj HR.out.symm,Sh.of bD.out,λh=>by have:=HR.out.symm.trans h;cases this⟩
 have hq:(t.toList==n.name.toList)=false:=by rw[jS,decide_eq_false eX]
 by_cases rX:st=fw
 .have HR:Hid (res=se):=iV.out.trans (by simp[eX,rX])
  subst rX;have T9:=λW hW=>Km.out rfl W hW;clear eX iV;obtain⟨W3,lR⟩:∃W3,W3=W2.setCell ⟨w1.heap.size,1,Y⟩ (O J tw):=⟨_,rfl⟩;have cT:Hid (Below w.heap.size w W3):=by rw[lR];exact bD.out.setCell (p:=⟨w1.heap.size,1,Y⟩) gi _
  have xJ:W3.heap[w1.heap.size]?=Z (.cells #[I mn,O J tw,O J lf,O J ad,AT sv] 70 (0,0)):=by rw[lR];exact Joins.block_setCell (i:=1) iQ _
  obtain⟨v0,v1,v2,v3,v4⟩:=xc xJ;have ag1:Hid (aT _ _ _ _):=T9 W3 cT.out;clear T9 xJ iQ;go_upto_region 11 with fail
  rw[<- lR];clear lR x0 x1 x2 x3 x4 zf y0;go_wp2_with fail;refine ag1.out.mono ?_;rintro e w5 ⟨rfl,SH,AG⟩;have ux:Hid _:=(Sh.of cT.out).trans SH;clear SH;go_wp2_with fail;go_ret;exact⟨aj HR.out.symm,ux.out,λh=>AG.out (HR.out.symm.trans h)⟩
 .have HR:Hid (res=4):=iV.out.trans (by simp[eX,rX])
  have am1:(st !=fw)=true:=by simpa using rX
  clear eX rX iV;go_wp2_with fail;go_ret;exact⟨aj HR.out.symm,Sh.of bD.out,λh=>by have:=HR.out.symm.trans h;cases this⟩
theorem Mr{ms:List Mem}{p:Nat}{x:Mem}(hr:dt ms)(hx:x.name=(ms.getD p dm).name):dt (ms.set p x):=by
 have hn:∀j (h:j<ms.length),((ms.set p x)[j]'(by rw[Jc];exact h)).name=ms[j].name:=λj h=>by
  rw[List.getElem_set];split
  .rename_i e;subst e;rw[hx];simp[List.getD,List.getElem?_eq_getElem h]
  .rfl
 refine Ju.2 λi j hi hj kR=>?_;rw[Jc] at hi hj;rw[hn i hi,hn j hj];exact Ju.1 hr i j hi hj kR
structure Sp(n:Nd):Prop where
 ms:aM n.ms=0
 rs:cI n.rs=0
 name:aA n.name=true
theorem abx{n:Nd}(h:Sp n)(h0:B2 n=0):Sp (Ge n):=by
 unfold B2 at h0;unfold Ge;by_cases hR:iT n.ms (kL n) (rR n)=true
 .obtain⟨f1,f2,f3,f4,f5,f6,f7⟩:=zJ h.ms hR
  rw[if_pos (xl hR),if_pos hR] at h0;rw[if_pos hR];obtain⟨l1,l2,_⟩:=aI h.ms;refine⟨Mo ?_ ?_ ?_,zG h.rs f5 h0,h.name⟩
  .show(uL n).length<=20;rw[f3,Jc];exact l1
  .show dt (uL n);rw[f3];exact Mr l2 rfl
  .intro m hm
   have hm:=hm;rw[f3] at hm;rcases List.mem_or_eq_of_mem_set hm with hm|rfl
   .exact pP h.ms m hm
   .rw[<- f4];exact f5
 .rw[if_neg hR]
  have:uL n=n.ms:=by unfold uL xL;rw[if_neg hR]
  rw[this];exact h
theorem aby{n:Nd}{m:Mem}(h:Sp n)(hm:m.e=0)(h0:oE n m=0):Sp (rS n m):=by
 unfold oE at h0;split at h0
 .rename_i h1
  have h2:Sp (mx n m):=⟨(xn h.ms h.rs hm h1).1,(xn h.ms h.rs hm h1).2,by rw[tN];exact h.name⟩;unfold rS;by_cases hn:m.name=n.name
  .rw[if_pos hn] at h0 ⊢;exact abx h2 h0
  .rw[if_neg hn];exact h2
 .rename_i h1;exact absurd h0 h1
structure Rest(n n':Nd):Prop where
 name:n'.name=n.name
 ai:n'.ai=n.ai
 sv:n'.sv=n.sv
 gw:n'.gw=n.gw
 p:n'.p=n.p
 wh:n'.wh=n.wh
theorem Rest.refl(n:Nd):Rest n n:=⟨rfl,rfl,rfl,rfl,rfl,rfl⟩
theorem Rest.trans{a b c:Nd}(h:Rest a b)(k:Rest b c):Rest a c:=⟨k.name.trans h.name,k.ai.trans h.ai,k.sv.trans h.sv,k.gw.trans h.gw,k.p.trans h.p,k.wh.trans h.wh⟩
theorem Ro(n:Nd):Rest n (Ge n):=by unfold Ge;split<;>exact⟨rfl,rfl,rfl,rfl,rfl,rfl⟩
theorem zK(n:Nd)(m:Mem):Rest n (mx n m):=by unfold mx;split<;>exact⟨rfl,rfl,rfl,rfl,rfl,rfl⟩
theorem Rq(n:Nd)(m:Mem):Rest n (rS n m):=by
 unfold rS;split
 .exact(zK n m).trans (Ro _)
 .exact zK n m
def qD:Nd->List Mem->Int
 |_,[]=>0
 |n,m::r=>if oE n m=0 then qD (rS n m) r else oE n m
def rT:Nd->List Mem->Nd
 |n,[]=>n
 |n,m::r=>rT (rS n m) r
theorem Di:∀(l:List Mem) (n:Nd) (m:Mem),rT n (l++[m])=rS (rT n l) m/\(qD n l=0->qD n (l++[m])=oE (rT n l) m)
 |[],n,m=>⟨rfl,λ_=>by
   show qD n [m]=oE n m;rw[qD];split
   .rename_i h;rw[h];rfl
   .rfl⟩
 |x::r,n,m=>by
  obtain⟨h1,h2⟩:=Di r (rS n x) m;refine⟨h1,λh=>?_⟩;rw[qD] at h;split at h
  .rename_i h0
   show qD n (x::(r++[m]))=_;rw[qD,if_pos h0];exact h2 h
  .rename_i h0;exact absurd h h0
theorem Mt:∀(l r:List Mem) (n:Nd),qD n l≠0->qD n (l++r)=qD n l
 |[],r,n,h=>absurd rfl h
 |x::l,r,n,h=>by
  show qD n (x::(l++r))=_;rw[qD] at h ⊢;rw[qD];split
  .rename_i h0;rw[if_pos h0] at h;exact Mt l r _ h
  .rfl
theorem SY:∀(l:List Mem) (n:Nd),Sp n->(∀m∈l,m.e=0)->qD n l=0->Sp (rT n l)
 |[],n,h,_,_=>h
 |x::r,n,h,hl,h0=>by
  rw[qD] at h0;split at h0
  .rename_i h1
   exact SY r (rS n x) (aby h (hl x (by simp)) h1) (λm hm=>hl m (by simp[hm])) h0
  .rename_i h1;exact absurd h0 h1
theorem Dj:∀(l:List Mem) (n:Nd),Rest n (rT n l)
 |[],n=>Rest.refl n
 |x::r,n=>(Rq n x).trans (Dj r _)
def B5(n:Nd)(p:Pk):Int:=
 if p.e=0 then(if qD n p.ms=0 then(if Sv.aX n.sv p.sv=0 then Gw.aX n.gw p.gw else Sv.aX n.sv p.sv) else qD n p.ms) else p.e
def He(n:Nd)(p:Pk):Nd:={ rT n p.ms with sv:=Sv.aZ n.sv p.sv,gw:=Gw.aZ n.gw p.gw,wh:=lrn n.wh p.wh }
theorem Mu{p:Pk}(h:p.e=0):(∀m∈p.ms,m.e=0)/\p.ms.length<=20/\Wh.aM p.wh=0/\Sv.aM p.sv=0/\Gw.aM p.gw=0:=by
 unfold Pk.e at h;split at h
 .rename_i h0
  split at h
  .rename_i h1
   have hm:(∀m∈p.ms,m.e=0)/\p.ms.length<=20:=by
    unfold Pk.mE at h1;split at h1
    .exact⟨pP h1,(aI h1).1⟩
    .obtain⟨a,b,_⟩:=EL h1
     exact⟨dw _ b,by omega⟩
   split at h
   .rename_i h2
    split at h
    .rename_i h3;exact⟨hm.1,hm.2,h,h2,h3⟩
    .rename_i h3;exact absurd h h3
   .rename_i h2;exact absurd h h2
  .rename_i h1;exact absurd h h1
 .cases h
end Go.Proofs.YtfidjlcdlakceaaGreatDoor
