import Derived.Test.YtbfghimjdlpicaaGreatDoorna16
import Derived.Test.YtbfghimjdlpicaaGreatDoorna17
set_option maxHeartbeats 25600000
set_option maxRecDepth 100000
open Go renaming maxLen→Io,heap_alloc_new→Ij
open Go.Value renaming pointer→If,agg→Ik,string→Y,int→U,bool→Ia,slice→J,tuple→Ip
open Go.IntKind renaming i64→O
open Go.Ending renaming returned→AT
open Option renaming some→AI,none→be
open Go.RowKit.Below renaming refl→Ib
open List renaming getD→Ir,getElem?_eq_getElem→Ic,length_set→IS,pairwise_iff_getElem→Jb
namespace Go.Proofs.YtbfghimjdlpicaaGreatDoor
open Go.RowKit
theorem MT{ms:List Mem}{m:Mem}(h:∀x∈ms,x.name.size<=Io)(hm:m.name.size<=Io):∀x∈aN ms m,x.name.size<=Io:=λx hx=>by
 rcases di ms m x hx with rfl|hx
 .exact hm
 .exact h x hx
theorem WA(n:Nd)(m:Mem):(eH n m).ms=aN n.ms m:=by unfold eH;split<;>rfl
theorem ov(n:Nd)(m:Mem):(eH n m).name=n.name:=by unfold eH;split<;>rfl
theorem xZ{ms:List Mem}{m:Mem}(h:bp ms=0)(hm:m.e=0)(hj:aJ ms [m]=0):(aN ms m).length<=20:=by
 rw[xV h hm] at hj;split at hj
 .cases hj
 .omega
theorem qC{n:Nd}{m:Mem}(h:bp n.ms=0)(hr:eB n.rs=0)(hm:m.e=0)(h0:jZ n m=0):bp (eH n m).ms=0/\eB (eH n m).rs=0:=by
 unfold jZ at h0;split at h0
 .rename_i hj
  rw[WA];refine⟨MI h hm (xZ h hm hj),?_⟩;unfold eH;by_cases hc:mX n.ms m=true
  .rw[if_pos hc] at h0 ⊢
   exact Be hr hm h0
  .rw[if_neg hc];exact hr
 .rename_i hj;exact absurd h0 hj
theorem qD(L b:Nat)(n:Nd)(m:Mem)(w:World)(h:Wk L w b n)(hL:L<=b)(gE:bp n.ms=0)(pW:eB n.rs=0)(hl:bl n.name=true)(hm:m.e=0)(hmz:m.name.size<=Io) :
 aK 60 #[If (AI ⟨b,0,be⟩),Ik #[Y m.name,U O m.state,U O m.aI,U O m.addr,Ia m.server]] w λe w'=>e=AT (U O (lR n m))/\Sh (λk=>k=b) w w'/\Hid (lR n m=0->Wk L w' b (jc n m)):=by
 have rJ:Hid (Wk L w b n):=h;have aO:=h.lt;obtain⟨vm,vr,vs,vg,vw,h1,h2,h3,h4⟩:=h;have nL:Hid _:=h2.is h4;obtain⟨am,cm,ou,_⟩:=aE h2.ms;subst ou;have HHR:Hid (∀W,Below w.heap.size w W->aK 105 #[J am n.ms.length cm,Ik #[Y m.name,U O m.state,U O m.aI,U O m.addr,Ia m.server]] W λe w'=>∃a k c,e=AT (Ip #[J a k c,Ia (decide (aJ n.ms [m]=0)&&mX n.ms m),U O (aJ n.ms [m])])/\Below W.heap.size W w'/\(aJ n.ms [m]=0->Own W.heap.size w' (J a k c) (aN n.ms m))):=λW hW=>by
  refine(MU n.ms m _ W (nL.out.ms.below hW) hmz).mono ?_;rintro e w' ⟨v',r,rfl,hb,hx,ho⟩;by_cases h0:aJ n.ms [m]=0
  .obtain⟨Bj,fS⟩:=ho h0
   obtain⟨a,c,rfl,_⟩:=aE Bj;refine⟨a,_,c,?_,hb,λ_=>Bj⟩;have e1:r=mX n.ms m:=by rw[Bool.eq_iff_iff,fS,kU (aj gE).2.1]
   rw[e1,decide_eq_true h0,Bool.true_and]
  .obtain⟨rfl,rfl⟩:=hx h0
   exact⟨be,0,0,by rw[decide_eq_false h0,Bool.false_and],hb,λh=>absurd h h0⟩
 have vh:Hid (∀W w1 a k c,Below w.heap.size w W->Below W.heap.size W w1->(aJ n.ms [m]=0->Own W.heap.size w1 (J a k c) (aN n.ms m))->aJ n.ms [m]=0->Wk L (w1.setCell ⟨b,2,be⟩ (J a k c)) b { n with ms:=aN n.ms m }):=λW w1 a k c hW h1 h2 h0=>
  (rJ.out.below hW).ME (by have:=hW.size;omega) h1 (h2 h0) (MT h4.ms hmz)
 have HX:Hid (∀W,Below w.heap.size w W->W.heap[b]?=AI (.cells (dE n (J am n.ms.length cm) vr vs vg vw) 107 (0,0))):=λW hW=>(hW.block _ aO).trans h1;have RR:Hid (∀W,aJ n.ms [m]=0->mX n.ms m=true->Wk L W b { n with ms:=aN n.ms m }->aK 106 #[If (AI ⟨b,0,be⟩),Y m.name] W λe w'=>e=AT (U O (iN n.rs m))/\Sh (λk=>k=b) W w'/\(iN n.rs m=0->Wk L w' b { n with ms:=aN n.ms m,rs:=hZ n.rs m })):=λW hj hc hW=>
  ve L b { n with ms:=aN n.ms m } m.name m W hW hL (by show(aN n.ms m).length<=1000;have:=xZ gE hm hj;omega) pW (ff (mj m n.ms ((kU (aj gE).2.1 m).1 hc))) hm hmz
 have HRF:Hid (∀W,jZ n m=0->Wk L W b (eH n m)->aK 107 #[If (AI ⟨b,0,be⟩)] W λe w'=>e=AT (U O (Ay (eH n m)))/\Sh (λk=>k=b) W w'/\Hid (Ay (eH n m)=0->Wk L w' b (sw (eH n m)))):=λW h0 hW=>
  C9 L b (eH n m) W hW hL (qC gE pW hm h0).1 (qC gE pW hm h0).2 (by rw[ov];exact hl)
 have R9:Hid (∀W,Wk L W b (eH n m)->W.cell? ⟨b,0,be⟩=AI (Y n.name)):=λW hW=>by
  obtain⟨_,_,_,_,_,g1,_⟩:=hW;rw[<- ov n m];exact ae g1 0
 have HEE:Hid (jZ n m≠0->lR n m=jZ n m):=λh=>by show lR n m=_;unfold lR;rw[if_neg h]
 have Fi:Hid (jZ n m=0->m.name=n.name->lR n m=Ay (eH n m)):=λh h2=>by show lR n m=_;unfold lR;rw[if_pos h,if_pos h2]
 have HEN:Hid (jZ n m=0->m.name≠n.name->lR n m=0):=λh h2=>by show lR n m=_;unfold lR;rw[if_pos h,if_neg h2]
 have HD1:Hid (aJ n.ms [m]≠0->jZ n m=aJ n.ms [m]):=λh=>by show jZ n m=_;unfold jZ;rw[if_neg h]
 have HD2:Hid (aJ n.ms [m]=0->mX n.ms m=false->jZ n m=0/\eH n m={ n with ms:=aN n.ms m }):=λh hc=>by
  show jZ n m=0/\eH n m=_;unfold jZ eH;rw[if_pos h,if_neg (by rw[hc];simp),if_neg (by rw[hc];simp)];exact⟨rfl,rfl⟩
 have HD3:Hid (aJ n.ms [m]=0->mX n.ms m=true->jZ n m=iN n.rs m/\eH n m={ n with ms:=aN n.ms m,rs:=hZ n.rs m }):=λh hc=>by
  show jZ n m=_/\eH n m=_;unfold jZ eH;rw[if_pos h,if_pos hc,if_pos hc];exact⟨rfl,rfl⟩
 have HBM:Hid (∀W,Wk L W b { n with ms:=aN n.ms m }->W.cell? ⟨b,0,be⟩=AI (Y n.name)):=λW hW=>by
  obtain⟨_,_,_,_,_,g1,_⟩:=hW;exact ae g1 0
 obtain⟨W0,bP,bK,fj,dX⟩:=bV w #[Y m.name,U O m.state,U O m.aI,U O m.addr,Ia m.server] 52;have df:Hid _:=bK;obtain⟨x0,x1,x2,x3,x4⟩:=jY dX;have y2:=ae (HX.out W0 bK) 2;have Aq:Hid _:=dX;generalize lR n m=res at *;generalize Bg:n.ms.length=km at *;clear Bg h1 h2 h3 h4 gE pW dX bK;generalize aJ n.ms [m]=je at *;generalize iN n.rs m=pe at *;generalize jZ n m=se at *;generalize mX n.ms m=cb at *;go_enter Tryz.func60,Tryz.ntmps60;go_upto_region 2 with fail
 rw[<- bP];clear bP;go_region_with (first|(go_at_call 105;refine(HHR.out _ df.out.drew).mono ?_;rintro e w1 ⟨a,k,c,rfl,aC,Bj⟩;have aZ:Hid (Below W0.heap.size W0 w1):=(Ib W0.heap.size W0).drew.trans aC;have mT:Hid (je=0->Wk L (w1.setCell ⟨b,2,be⟩ (J a k c)) b { n with ms:=aN n.ms m }):=vh.out _ _ a k c df.out.drew aC Bj;have iH:=HX.out w1 (df.out.trans (aZ.out.mono df.out.size));have z2:w1.cell? ⟨b,2,be⟩=AI (J am km cm):=ae iH 2;have zf:w1.frozen? ⟨b,2,be⟩=false:=aA iH 2;have LF:=(aZ.out.block _ (show w.heap.size<W0.heap.size by omega)).trans Aq.out;clear aC Bj iH))
 all_goals
  obtain⟨W2,bO⟩:∃W2,W2=w1.setCell ⟨b,2,be⟩ (J a k c):=⟨_,rfl⟩;rw[<- bO] at mT;have zj:Hid (Sh (λk=>k=b) w W2):=by rw[bO];exact(Sh.of (df.out.trans (aZ.out.mono df.out.size))).setCell (S:=λk=>k=b) rfl _
  have jF:Hid (W2.heap[w.heap.size]?=AI (.cells #[Y m.name,U O m.state,U O m.aI,U O m.addr,Ia m.server] 52 (0,0))):=by rw[bO];exact(Below.heap_setCell _ _ _ _ (by simp only;omega)).trans LF
  rw[<- bO];clear bO z2 zf y2 LF x0 x1 x2 x3 x4;by_cases hj:je=0
  .cases cb
   .obtain⟨e1,e2⟩:=HD2.out hj rfl
    have Ha:Hid (Wk L W2 b (eH n m)):=by rw[e2];exact mT.out hj
    subst hj;clear e2 mT HD1 HD2 HD3 RR HEE;have u0:=ae jF.out 0;have u1:=R9.out W2 Ha.out;by_cases cY:m.name=n.name
    .have hq:(m.name.toList !=n.name.toList)=false:=by rw[cY];simp
     have Vd:(m.name.toList==n.name.toList)=true:=by rw[cY];simp
     have hq3:m.name.toList=n.name.toList:=by rw[cY]
     have HR:Hid _:=Fi.out e1 cY;have HN:Hid (jc n m=sw (eH n m)):=by show jc n m=_;unfold jc;rw[if_pos cY]
     have jW:Hid (∀q,aK _ _ _ _):=λq=>HRF.out _ e1 (Ha.out.below (below_drewN (Ib _ _) q));clear cY;generalize Ay (eH n m)=re at *;go_wp2_with fail;go_quiet (fail)
     go_wp2_with fail;refine(jW.out _).mono ?_;rintro e w7 ⟨rfl,Ve,Sc⟩;have HS7:Hid _:=zj.out.trans ((Sh.of (below_drewN (Ib _ _) _)).trans Ve);clear Ve;go_wp2_with fail;go_ret;exact⟨an HR.out.symm,HS7.out,λh=>by rw[HN.out];exact Sc.out (HR.out.symm.trans h)⟩
    .have hq:=(uK _ _).2 cY
     have Vd:(m.name.toList==n.name.toList)=false:=by rw[kC,decide_eq_false cY]
     have HR:Hid _:=HEN.out e1 cY;have HN:Hid (jc n m=eH n m):=by show jc n m=_;unfold jc;rw[if_neg cY]
     clear cY;go_wp2_with fail;go_quiet (fail)
     go_wp2_with fail;go_ret;exact⟨an HR.out.symm,zj.out.trans (Sh.of (below_drewN (Ib _ _) _)),λ_=>by rw[HN.out];exact Ha.out.below (below_drewN (Ib _ _) _)⟩
   .obtain⟨e1,e2⟩:=HD3.out hj rfl
    have Sd:=mT.out hj;have HTC:Hid (aK _ _ _ _):=RR.out W2 hj rfl Sd;have u0:=ae jF.out 0;subst hj;clear Sd mT HD1 HD2 HD3 RR;go_wp2_with fail;refine HTC.out.mono ?_;rintro e w4 ⟨rfl,Bc,Sa⟩;have LA:Hid _:=zj.out.trans Bc;have abE:=(Bc.block _ ((Array.getElem?_eq_some_iff.1 jF.out).1) (by omega)).trans jF.out;have GW:Hid (pe=0->Wk L w4 b (eH n m)):=λh=>by rw[e2];exact Sa h
    have jF:Hid _:=abE;clear Bc Sa abE u0 HTC e2;by_cases hp:pe=0
    .have WB:Hid (Wk _ _ _ _):=GW.out hp
     have e3:=e1.trans hp;subst hp;clear GW e1 HEE;have u0:=ae jF.out 0;have u1:=R9.out w4 WB.out;by_cases cY:m.name=n.name
     .have hq:(m.name.toList !=n.name.toList)=false:=by rw[cY];simp
      have Vd:(m.name.toList==n.name.toList)=true:=by rw[cY];simp
      have hq3:m.name.toList=n.name.toList:=by rw[cY]
      have HR:Hid _:=Fi.out e3 cY;have HN:Hid (jc n m=sw (eH n m)):=by show jc n m=_;unfold jc;rw[if_pos cY]
      have jW:Hid (∀q,aK _ _ _ _):=λq=>HRF.out _ e3 (WB.out.below (below_drewN (Ib _ _) q));clear cY;generalize Ay (eH n m)=re at *;go_wp2_with fail;go_quiet (fail)
      go_wp2_with fail;refine(jW.out _).mono ?_;rintro e w7 ⟨rfl,Ve,Sc⟩;have HS7:Hid _:=LA.out.trans ((Sh.of (below_drewN (Ib _ _) _)).trans Ve);clear Ve;go_wp2_with fail;go_ret;exact⟨an HR.out.symm,HS7.out,λh=>by rw[HN.out];exact Sc.out (HR.out.symm.trans h)⟩
     .have hq:=(uK _ _).2 cY
      have Vd:(m.name.toList==n.name.toList)=false:=by rw[kC,decide_eq_false cY]
      have HR:Hid _:=HEN.out e3 cY;have HN:Hid (jc n m=eH n m):=by show jc n m=_;unfold jc;rw[if_neg cY]
      clear cY;go_wp2_with fail;go_quiet (fail)
      go_wp2_with fail;go_ret;exact⟨an HR.out.symm,LA.out.trans (Sh.of (below_drewN (Ib _ _) _)),λ_=>by rw[HN.out];exact WB.out.below (below_drewN (Ib _ _) _)⟩
    .have hp':(pe !=0)=true:=by simpa using hp
     have HR:Hid _:=(HEE.out (by rw[e1];exact hp)).trans e1;have CI:Hid _:=hp;have u0:=ae jF.out 0;clear hp e1;go_wp2_with fail;go_quiet (fail)
     go_wp2_with fail;go_ret;exact⟨an HR.out.symm,LA.out.trans (Sh.of (below_drewN (Ib _ _) _)),λh=>absurd (HR.out.symm.trans h) CI.out⟩
  .have GC:(je !=0)=true:=by simpa using hj
   have hj2:=decide_eq_false hj;have e1:=HD1.out hj;have HR:Hid _:=(HEE.out (by rw[e1];exact hj)).trans e1;have CI:Hid _:=hj;clear hj e1 HD1 HD2 HD3;go_wp2_with fail;go_quiet (fail)
   go_wp2_with fail;go_ret;exact⟨an HR.out.symm,zj.out.trans (Sh.of (below_drewN (Ib _ _) _)),λh=>absurd (HR.out.symm.trans h) CI.out⟩
def tT(n:Nd)(t:ByteArray)(du t_o:Int):Int:=
 if bl t=true then(if(bX n.ms t).isSome=true then(if t=n.name then 6 else if(eR n.ms t).state=du then lR n { eR n.ms t with state:=t_o } else 4) else 5) else 1
def Bm(n:Nd)(t:ByteArray)(t_o:Int):Nd:=jc n { eR n.ms t with state:=t_o }
theorem iQ{ms:List Mem}{t:ByteArray}(h:(bX ms t).isSome=true):eR ms t∈ms/\(eR ms t).name=t:=by
 obtain⟨m,hm⟩:=Option.isSome_iff_exists.1 h;rw[ff hm];exact dH hm
theorem vj(L b:Nat)(n:Nd)(t:ByteArray)(du t_o:Int)(w:World)(h:Wk L w b n)(hL:L<=b)(gE:bp n.ms=0)(pW:eB n.rs=0)(hl:bl n.name=true)(ht:t.size<=Io)(hto:within t_o 1 4=true) :
 aK 36 #[If (AI ⟨b,0,be⟩),Y t,U O du,U O t_o] w λe w'=>e=AT (U O (tT n t du t_o))/\Sh (λk=>k=b) w w'/\Hid (tT n t du t_o=0->Wk L w' b (Bm n t t_o)):=by
 have rJ:Hid (Wk L w b n):=h;have aO:=h.lt;obtain⟨vm,vr,vs,vg,vw,h1,h2,h3,h4⟩:=h;have nL:Hid _:=h2.is h4;obtain⟨am,cm,ou,_⟩:=aE h2.ms;subst ou;have GR:Hid (ly 64 #[If (AI ⟨b,0,be⟩),Y t] w (Ip #[Ik #[Y (eR n.ms t).name,U O (eR n.ms t).state,U O (eR n.ms t).aI,U O (eR n.ms t).addr,Ia (eR n.ms t).server],Ia (bX n.ms t).isSome])):=
  jK b am n.ms.length cm n.ms t w (ae h1 2) nL.out.ms (by have:=(aj gE).1;omega)
 have Cm:Hid ((bX n.ms t).isSome=true->∀W,Below w.heap.size w W->aK 60 #[If (AI ⟨b,0,be⟩),Ik #[Y (eR n.ms t).name,U O t_o,U O (eR n.ms t).aI,U O (eR n.ms t).addr,Ia (eR n.ms t).server]] W λe w'=>e=AT (U O (lR n { eR n.ms t with state:=t_o }))/\Sh (λk=>k=b) W w'/\Hid (lR n { eR n.ms t with state:=t_o }=0->Wk L w' b (Bm n t t_o))):=λhs W hW=>by
  obtain⟨g1,g2⟩:=iQ hs;have he:=(lT _).1 (jX gE _ g1);exact qD L b n { eR n.ms t with state:=t_o } W (rJ.out.below hW) hL gE pW hl ((lT _).2 ⟨he.1,hto,he.2.2.1,he.2.2.2⟩) (show(eR n.ms t).name.size<=Io from h4.ms _ g1)
 have HX:Hid (∀W,Below w.heap.size w W->W.cell? ⟨b,0,be⟩=AI (Y n.name)):=λW hW=>ae ((hW.block _ aO).trans h1) 0;have HE:Hid (tT n t du t_o=if bl t=true then(if(bX n.ms t).isSome=true then(if t=n.name then 6 else if(eR n.ms t).state=du then lR n { eR n.ms t with state:=t_o } else 4) else 5) else 1):=rfl;generalize tT n t du t_o=res at *;generalize lR n { eR n.ms t with state:=t_o }=se at *;clear h1 h2 h3 h4 gE pW;generalize(bX n.ms t).isSome=fd at *;generalize CC:eR n.ms t=m at *;clear CC;obtain⟨mn,st,lf,ad,sv⟩:=m;simp only at GR Cm HE;go_enter Tryz.func36,Tryz.ntmps36;rcases hlab:bl t with _|_
 .have HR:Hid (res=1):=HE.out.trans (by rw[hlab];rfl)
  go_wp2_with (go_at_call 50;refine(cj _ _ ht).mono ?_;rintro e w' ⟨rfl,rfl⟩;rw[hlab]);go_ret;exact⟨an HR.out.symm,Sh.refl _ _,λh=>by have:=HR.out.symm.trans h;cases this⟩
 have lP:Hid (res=if fd=true then(if t=n.name then 6 else if st=du then se else 4) else 5):=HE.out.trans (by rw[hlab];rfl);clear HE;go_wp2_with (first|(go_at_call 50;refine(cj _ _ ht).mono ?_;rintro e w' ⟨rfl,Vf⟩;have Lr:=Vf.symm;subst Lr;rw[hlab])|fail);refine GR.out.mono ?_;rintro e w1 ⟨rfl,aC⟩;obtain⟨W2,bO⟩:∃W2,W2=w1.alloc (.cells #[Y mn,U O st,U O lf,U O ad,Ia sv] 52):=⟨_,rfl⟩;have aL:Below w.heap.size w W2:=by rw[bO];exact aC.alloc aC.size _
 have LG:w1.heap.size<W2.heap.size:=by rw[bO];simp
 have dO:W2.heap[w1.heap.size]?=AI (.cells #[Y mn,U O st,U O lf,U O ad,Ia sv] 52 (0,0)):=by rw[bO];exact Ij w1 _
 have bA:Hid _:=aL;have fO:=aC.size;obtain⟨x0,x1,x2,x3,x4⟩:=jY dO;have zf:=aA dO 1;have y0:=HX.out W2 aL;go_upto_region 4 with fail
 rw[<- bO];clear bO aC aL GR;cases fd
 .have HR:Hid (res=5):=lP.out.trans (by simp)
  go_wp2_with fail;go_ret;exact⟨an HR.out.symm,Sh.of bA.out,λh=>by have:=HR.out.symm.trans h;cases this⟩
 by_cases cY:t=n.name
 .have HR:Hid (res=6):=lP.out.trans (by simp[cY])
  have hq:(t.toList==n.name.toList)=true:=by rw[cY];simp
  have Vd:t.toList=n.name.toList:=by rw[cY]
  clear cY;go_wp2_with fail;go_ret;exact⟨an HR.out.symm,Sh.of bA.out,λh=>by have:=HR.out.symm.trans h;cases this⟩
 have hq:(t.toList==n.name.toList)=false:=by rw[kC,decide_eq_false cY]
 by_cases pK:st=du
 .have HR:Hid (res=se):=lP.out.trans (by simp[cY,pK])
  subst pK;have MV:=λW hW=>Cm.out rfl W hW;clear cY lP;obtain⟨W3,ee⟩:∃W3,W3=W2.setCell ⟨w1.heap.size,1,be⟩ (U O t_o):=⟨_,rfl⟩;have cF:Hid (Below w.heap.size w W3):=by rw[ee];exact bA.out.setCell (p:=⟨w1.heap.size,1,be⟩) fO _
  have mJ:W3.heap[w1.heap.size]?=AI (.cells #[Y mn,U O t_o,U O lf,U O ad,Ia sv] 52 (0,0)):=by rw[ee];exact Joins.block_setCell (i:=1) dO _
  obtain⟨v0,v1,v2,v3,v4⟩:=jY mJ;have WC:Hid (aK _ _ _ _):=MV W3 cF.out;clear MV mJ dO;go_upto_region 11 with fail
  rw[<- ee];clear ee x0 x1 x2 x3 x4 zf y0;go_wp2_with fail;refine WC.out.mono ?_;rintro e w5 ⟨rfl,MD,Dh⟩;have HS5:Hid _:=(Sh.of cF.out).trans MD;clear MD;go_wp2_with fail;go_ret;exact⟨an HR.out.symm,HS5.out,λh=>Dh.out (HR.out.symm.trans h)⟩
 .have HR:Hid (res=4):=lP.out.trans (by simp[cY,pK])
  have ahf:(st !=du)=true:=by simpa using pK
  clear cY pK lP;go_wp2_with fail;go_ret;exact⟨an HR.out.symm,Sh.of bA.out,λh=>by have:=HR.out.symm.trans h;cases this⟩
end Go.Proofs.YtbfghimjdlpicaaGreatDoor
namespace Go.Proofs.YtbfghimjdlpicaaGreatDoor
namespace Sv
open Go.RowKit
theorem kW(a b:List aV)(va vb:Value)(pb cap:Nat)(w:World)(ha:Sl w va a)(hb:Sl w vb b)(hpb:pb<w.heap.size)(hc0:w.cell? ⟨pb,0,be⟩=AI va)(hc1:w.cell? ⟨pb,1,be⟩=AI vb) :
 Calls Tryz.prog 108 #[J (AI ⟨pb,0,be⟩) 2 cap] w λe w'=>∃v',e=AT (Ip #[v',U O (aJ a b)])/\Below w.heap.size w w' /\
  (aJ a b≠0->v'=J be 0 0)/\(aJ a b=0->Own w.heap.size w' v' (aB a b)):=by
 by_cases h0:aY a b=0
 .refine(mq a b va vb pb cap w ha hb hpb hc0 hc1 h0).mono ?_
  rintro e w' ⟨v',rfl,h1,h2,h3⟩;have hE:aJ a b=if 40<(aB a b).length then 2 else 0:=if_pos h0;refine⟨v',rfl,h1,λaP=>h2 ?_,λhz=>h3 ?_⟩
  .rw[hE] at aP;split at aP
   .assumption
   .exact absurd rfl aP
  .rw[hE] at hz;split at hz
   .cases hz
   .omega
 .refine(ow a b va vb pb cap w ha hb hpb hc0 hc1 h0).mono ?_
  rintro e w' ⟨rfl,h1⟩;have hE:aJ a b=aY a b:=if_neg h0;exact⟨_,rfl,h1,λ_=>rfl,λhz=>absurd (hE▸hz) h0⟩
theorem sM(a b:List aV)(va vb:Value)(w:World)(ha:Sl w va a)(hb:Sl w vb b) :
 Calls Tryz.prog 61 #[va,vb] w λe w'=>∃v',e=AT (Ip #[v',U O (aJ a b)])/\Below w.heap.size w w' /\
  (aJ a b≠0->v'=J be 0 0)/\(aJ a b=0->Own w.heap.size w' v' (aB a b)):=by
 have HA:=ha;have HB:=hb;obtain⟨pa,ca,rfl,_,_⟩:=ha;obtain⟨pv,cb,rfl,_,_⟩:=hb;have bK:Below w.heap.size w (w.alloc (.cells #[J pa a.length ca,J pv b.length cb] 41)):=(Ib _ _).alloc (Nat.le_refl _) _;have LH:Hid (Sl _ _ _):=HA.below bK;have LI:Hid (Sl _ _ _):=HB.below bK;clear HA HB;generalize a.length=na at *;generalize b.length=nb at *;go_enter Tryz.func61,Tryz.ntmps61;go_wp2_with fail;refine(kW a b (J pa na ca) (J pv nb cb) w.heap.size 2 _ LH.out LI.out (by simp) (ae (Ij w _) 0) (ae (Ij w _) 1)).mono ?_;rintro e w2 ⟨v',rfl,h1,h2,h3⟩;have H2:Hid _:=h2;have H3:Hid _:=h3;clear h2 h3;go_wp2_with fail;go_ret2;exact⟨v',rfl,bK.trans (h1.mono (by simp)),H2.out,λh=>(H3.out h).mono (by simp)⟩
theorem qE{a b:List aV}(h:bp a≠0):aJ a b=bp a:=by
 have:aY a b=bp a:=if_neg h
 rw[aJ,this,if_neg h]
theorem ni{a b:List aV}(h:bp a=0)(h2:bp b≠0):aJ a b=bp b:=by
 have:aY a b=bp b:=if_pos h
 rw[aJ,this,if_neg h2]
theorem gj{a b:List aV}(h:bp a=0)(h2:bp b=0):aJ a b=if 40<(aB a b).length then 2 else 0:=by
 have:aY a b=0:=(if_pos h).trans h2
 rw[aJ,if_pos this]
theorem WD(w:World):Sl w (J be 0 0) []:=⟨be,0,rfl,cD (by simp),.inl rfl⟩
def gQ(x y:aV):Bool:=x.node.toList==y.node.toList&&(x.bf.toList==y.bf.toList&&(x.name.toList==y.name.toList&&(x.tag.toList==y.tag.toList&&(x.addr==y.addr&&(x.port==y.port&&(x.af==y.af&&(x.version==y.version&&(x.gone==y.gone))))))))
theorem fK(x y:aV):gQ x y=true↔x=y:=by
 obtain⟨x_node,x_idn,x_name,x_tag,x_addr,x_port,x_passing,x_version,x_gone⟩:=x;obtain⟨y_node,y_idn,y_name,y_tag,y_addr,y_port,y_passing,y_version,y_gone⟩:=y;simp only[gQ,Bool.and_eq_true,beq_iff_eq,aV.mk.injEq,Lib.toList_data];constructor
 .rintro⟨h0,h1,h2,h3,h4,h5,h6,h7,h8⟩;exact⟨kK h0,kK h1,kK h2,kK h3,h4,h5,h6,h7,h8⟩
 .rintro⟨h0,h1,h2,h3,h4,h5,h6,h7,h8⟩;exact⟨by rw[h0],by rw[h1],by rw[h2],by rw[h3],h4,h5,h6,h7,h8⟩
theorem MW(m1 m2:aV)(w:World):(Op.equalIn 10000 38 (Ik #[Y m1.node,Y m1.bf,Y m1.name,Y m1.tag,U O m1.addr,U O m1.port,Ia m1.af,U O m1.version,Ia m1.gone]) (Ik #[Y m2.node,Y m2.bf,Y m2.name,Y m2.tag,U O m2.addr,U O m2.port,Ia m2.af,U O m2.version,Ia m2.gone])).run Tryz.prog w=.ok (gQ m1 m2) w:=by
 have u3:=Tryz.underlying3;have u9:=Tryz.underlying9;have a3:=Tryz.isAgg3;have z3:=Tryz.sizeOf3;have a9:=Tryz.isAgg9;have z9:=Tryz.sizeOf9;have u4:=Tryz.underlying4;have a4:=Tryz.isAgg4;have z4:=Tryz.sizeOf4;have hS:Tryz.prog.underlying 38=AI (.struct (Tryz.prog.fieldsOf 38)):=by kernel_rfl
 have hp:Tryz.prog.stoodInHeld 38=false:=by kernel_rfl
 rw[show(10000:Nat)=9999+1 from rfl,run_equalIn_agg w 9999 38 _ _ hS hp];simp only[Program.fieldsOf,Tryz.underlying38];go_simp;unfold gQ;by_cases h0:m1.node.toList=m2.node.toList
 case neg=>simp[h0]
 by_cases h1:m1.bf.toList=m2.bf.toList
 case neg=>simp[h0,h1]
 by_cases h2:m1.name.toList=m2.name.toList
 case neg=>simp[h0,h1,h2]
 by_cases h3:m1.tag.toList=m2.tag.toList
 case neg=>simp[h0,h1,h2,h3]
 by_cases h4:m1.addr=m2.addr
 case neg=>simp[h0,h1,h2,h3,h4]
 by_cases h5:m1.port=m2.port
 case neg=>simp[h0,h1,h2,h3,h4,h5]
 by_cases h6:m1.af=m2.af
 case neg=>simp[h0,h1,h2,h3,h4,h5,h6]
 by_cases h7:m1.version=m2.version
 case neg=>simp[h0,h1,h2,h3,h4,h5,h6,h7]
 by_cases h8:m1.gone=m2.gone
 case neg=>simp[h0,h1,h2,h3,h4,h5,h6,h7,h8]
 simp[h0,h1,h2,h3,h4,h5,h6,h7,h8]
theorem Se(m1 m2:aV)(w:World):Sem.run Tryz.prog (binOp .neq 38 (Ik #[Y m1.node,Y m1.bf,Y m1.name,Y m1.tag,U O m1.addr,U O m1.port,Ia m1.af,U O m1.version,Ia m1.gone]) (Ik #[Y m2.node,Y m2.bf,Y m2.name,Y m2.tag,U O m2.addr,U O m2.port,Ia m2.af,U O m2.version,Ia m2.gone])) w=.ok (Ia (!gQ m1 m2)) w:=by
 rw[run_neq_struct,MW];rfl
theorem MX(a b:List aV)(va vb:Value)(w:World)(ha:Sl w va a)(hb:Sl w vb b)(xM:a.length<=1000) :
 Calls Tryz.prog 13 #[va,vb] w λe w'=>∃r:Bool,e=AT (Ia r)/\(r=true↔a=b)/\Below w.heap.size w w':=by
 obtain⟨pa,ca,rfl,_,ha⟩:=ha;obtain⟨pv,cb,rfl,_,hb⟩:=hb;by_cases hl:a.length=b.length
 .have HA:Hid (a=[]\/∃b off,pa=AI ⟨b,off,be⟩/\b<w.heap.size/\Row w b off a):=ha
  have HB:Hid _:=hb;have HL:Hid (a.length=b.length):=hl;clear ha hb;rw[<- hl];clear hl;generalize tu:a.length=n at *;have HN:Hid (a.length=n):=tu;clear tu;have abG:Tryz.prog.eqGuardType Tryz.prog.depth 38=false:=by kernel_rfl
  go_enter Tryz.func13,Tryz.ntmps13;go_wp2_with fail;go_loopw [5] (λi w'=>∃k:Nat,k<=n/\i=U O k/\Below w.heap.size w w'/\Hid (∀j,j<k->a.getD j dm=b.getD j dm)) (λi _=>n-(intOf i).toNat)
  case atStart=>exact⟨0,Nat.zero_le _,rfl,Ib _ _,λj h=>absurd h (Nat.not_lt_zero _)⟩
  case round=>
   obtain⟨k,hk,rfl,aO,hz⟩:=hrel;obtain⟨cK,kj⟩:=cd aO;have cB:=aO.size;by_cases aX:k<n
   .obtain⟨b1,o1,ru,kb,ku⟩:∃b off,pa=AI ⟨b,off,be⟩/\b<w.heap.size/\Row w b off a:=by
     rcases HA.out with h|h
     .have:=HN.out;rw[h] at this;simp at this;omega
     .exact h
    obtain⟨b2,o2,qW,jE,mI⟩:∃nf off,pv=AI ⟨nf,off,be⟩/\nf<w.heap.size/\Row w nf off b:=by
     rcases HB.out with h|h
     .have h2:=HN.out;have h3:=HL.out;rw[h] at h3;simp at h3;omega
     .exact h
    subst ru;subst qW;obtain⟨c0,c1,c2,c3,c4,c5,c6,c7,c8⟩:=ku k (by rw[HN.out];exact aX);obtain⟨d0,d1,d2,d3,d4,d5,d6,d7,d8⟩:=mI k (by have h2:=HN.out;have h3:=HL.out;omega);clear ku mI;have HF:Hid (a.getD k dm≠b.getD k dm->a≠b):=λh e=>h (by rw[e]);have HZ:Hid (a.getD k dm=b.getD k dm->∀j,j<k+1->a.getD j dm=b.getD j dm):=λh j hj=>by
     rcases Nat.lt_succ_iff_lt_or_eq.1 hj with h2|rfl
     .exact hz.out j h2
     .exact h
    have qF:=Se (a.getD k dm) (b.getD k dm);generalize a.getD k dm=m1 at *;generalize b.getD k dm=m2 at *;rcases hs:gQ m1 m2 with _|_
    .rw[hs] at qF
     have aP:Hid (a≠b):=HF.out (λe=>by rw[<- fK,hs] at e;cases e);go_wp2_with fail;go_quiet (fail)
     go_wp2_with fail;go_ret;exact⟨false,rfl,⟨λh=>(by cases h),λh=>absurd h aP.out⟩,below_drewN aO _⟩
    .rw[hs] at qF
     have heq:Hid (m1=m2):=(fK m1 m2).1 hs;go_wp2_with fail;go_quiet (fail)
     go_wp2_with fail;go_roundw
     case rel=>exact⟨k+1,by omega,by go_num,below_drewN aO _,HZ.out heq.out⟩
     case measure=>simp[intOf];omega
   .have gF:Hid (a=b):=by
     apply List.ext_getElem (HN.out.trans HL.out);intro j h1 h2;have:=hz.out j (by have:=HN.out;omega);simpa[Ir,Ic h1,Ic h2] using this
    go_wp2_with fail;go_ret;exact⟨true,rfl,⟨λ_=>gF.out,λ_=>rfl⟩,aO⟩
 .have aP:((a.length:Int)!=(b.length:Int))=true:=by rw[bne_iff_ne];omega
  have HF:Hid (a≠b):=λe=>hl (by rw[e]);clear ha hb;go_enter Tryz.func13,Tryz.ntmps13;go_wp2_with fail;go_ret;exact⟨false,rfl,⟨λh=>(by cases h),λh=>absurd h HF.out⟩,Ib _ _⟩
section
open Go.ChangeShapes Go.WideShapes Go.ChangeAt
variable {H:Type} {enc:TypeId × Value→H} {w:World} {base:Nat} {spare:Nat→Bool} {held:Bool}
end
end Sv
end Go.Proofs.YtbfghimjdlpicaaGreatDoor
namespace Go.Proofs.YtbfghimjdlpicaaGreatDoor
open Go.RowKit
theorem MY{ms:List Mem}{p:Nat}{x:Mem}(hr:aT ms)(hx:x.name=(ms.getD p dm).name):aT (ms.set p x):=by
 have hn:∀j (h:j<ms.length),((ms.set p x)[j]'(by rw[IS];exact h)).name=ms[j].name:=λj h=>by
  rw[List.getElem_set];split
  .rename_i e;subst e;rw[hx];simp[Ir,Ic h]
  .rfl
 refine Jb.2 λi j hi hj jS=>?_;rw[IS] at hi hj;rw[hn i hi,hn j hj];exact Jb.1 hr i j hi hj jS
structure Sp(n:Nd):Prop where
 ms:bp n.ms=0
 rs:eB n.rs=0
 name:bl n.name=true
theorem abH{n:Nd}(h:Sp n)(h0:Ay n=0):Sp (sw n):=by
 unfold Ay at h0;unfold sw;by_cases hR:ia n.ms (jf n) (mY n)=true
 .obtain⟨f1,f2,f3,f4,f5,f6,f7⟩:=rG h.ms hR
  rw[if_pos (zl hR),if_pos hR] at h0;rw[if_pos hR];obtain⟨l1,l2,_⟩:=aj h.ms;refine⟨kT ?_ ?_ ?_,Be h.rs f5 h0,h.name⟩
  .show(nK n).length<=20;rw[f3,IS];exact l1
  .show aT (nK n);rw[f3];exact MY l2 rfl
  .intro m hm
   have hm:=hm;rw[f3] at hm;rcases List.mem_or_eq_of_mem_set hm with hm|rfl
   .exact jX h.ms m hm
   .rw[<- f4];exact f5
 .rw[if_neg hR]
  have:nK n=n.ms:=by unfold nK rF;rw[if_neg hR]
  rw[this];exact h
theorem yb{n:Nd}{m:Mem}(h:Sp n)(hm:m.e=0)(h0:lR n m=0):Sp (jc n m):=by
 unfold lR at h0;split at h0
 .rename_i h1
  have h2:Sp (eH n m):=⟨(qC h.ms h.rs hm h1).1,(qC h.ms h.rs hm h1).2,by rw[ov];exact h.name⟩;unfold jc;by_cases hn:m.name=n.name
  .rw[if_pos hn] at h0 ⊢;exact abH h2 h0
  .rw[if_neg hn];exact h2
 .rename_i h1;exact absurd h0 h1
structure Rest(n n':Nd):Prop where
 name:n'.name=n.name
 av:n'.av=n.av
 sv:n'.sv=n.sv
 gw:n'.gw=n.gw
 p:n'.p=n.p
 wh:n'.wh=n.wh
theorem Rest.refl(n:Nd):Rest n n:=⟨rfl,rfl,rfl,rfl,rfl,rfl⟩
theorem Rest.trans{a b c:Nd}(h:Rest a b)(k:Rest b c):Rest a c:=⟨k.name.trans h.name,k.av.trans h.av,k.sv.trans h.sv,k.gw.trans h.gw,k.p.trans h.p,k.wh.trans h.wh⟩
theorem Sf(n:Nd):Rest n (sw n):=by unfold sw;split<;>exact⟨rfl,rfl,rfl,rfl,rfl,rfl⟩
theorem kX(n:Nd)(m:Mem):Rest n (eH n m):=by unfold eH;split<;>exact⟨rfl,rfl,rfl,rfl,rfl,rfl⟩
theorem dA(n:Nd)(m:Mem):Rest n (jc n m):=by
 unfold jc;split
 .exact(kX n m).trans (Sf _)
 .exact kX n m
def nj:Nd->List Mem->Int
 |_,[]=>0
 |n,m::r=>if lR n m=0 then nj (jc n m) r else lR n m
def tv:Nd->List Mem->Nd
 |n,[]=>n
 |n,m::r=>tv (jc n m) r
theorem Fj:∀(l:List Mem) (n:Nd) (m:Mem),tv n (l++[m])=jc (tv n l) m/\(nj n l=0->nj n (l++[m])=lR (tv n l) m)
 |[],n,m=>⟨rfl,λ_=>by
   show nj n [m]=lR n m;rw[nj];split
   .rename_i h;rw[h];rfl
   .rfl⟩
 |x::r,n,m=>by
  obtain⟨h1,h2⟩:=Fj r (jc n x) m;refine⟨h1,λh=>?_⟩;rw[nj] at h;split at h
  .rename_i h0
   show nj n (x::(r++[m]))=_;rw[nj,if_pos h0];exact h2 h
  .rename_i h0;exact absurd h h0
theorem MZ:∀(l r:List Mem) (n:Nd),nj n l≠0->nj n (l++r)=nj n l
 |[],r,n,h=>absurd rfl h
 |x::l,r,n,h=>by
  show nj n (x::(l++r))=_;rw[nj] at h ⊢;rw[nj];split
  .rename_i h0;rw[if_pos h0] at h;exact MZ l r _ h
  .rfl
theorem M0:∀(l:List Mem) (n:Nd),Sp n->(∀m∈l,m.e=0)->nj n l=0->Sp (tv n l)
 |[],n,h,_,_=>h
 |x::r,n,h,hl,h0=>by
  rw[nj] at h0;split at h0
  .rename_i h1
   exact M0 r (jc n x) (yb h (hl x (by simp)) h1) (λm hm=>hl m (by simp[hm])) h0
  .rename_i h1;exact absurd h0 h1
theorem np:∀(l:List Mem) (n:Nd),Rest n (tv n l)
 |[],n=>Rest.refl n
 |x::r,n=>(dA n x).trans (np r _)
def nr(n:Nd)(p:Pk):Int:=
 if p.e=0 then(if nj n p.ms=0 then(if Sv.aJ n.sv p.sv=0 then Gw.aJ n.gw p.gw else Sv.aJ n.sv p.sv) else nj n p.ms) else p.e
def ox(n:Nd)(p:Pk):Nd:={ tv n p.ms with sv:=Sv.aB n.sv p.sv,gw:=Gw.aB n.gw p.gw,wh:=Df n.wh p.wh }
theorem pO{p:Pk}(h:p.e=0):(∀m∈p.ms,m.e=0)/\p.ms.length<=20/\Wh.bp p.wh=0/\Sv.bp p.sv=0/\Gw.bp p.gw=0:=by
 unfold Pk.e at h;split at h
 .rename_i h0
  split at h
  .rename_i h1
   have hm:(∀m∈p.ms,m.e=0)/\p.ms.length<=20:=by
    unfold Pk.mE at h1;split at h1
    .exact⟨jX h1,(aj h1).1⟩
    .obtain⟨a,b,_⟩:=yc h1
     exact⟨bn _ b,by omega⟩
   split at h
   .rename_i h2
    split at h
    .rename_i h3;exact⟨hm.1,hm.2,h,h2,h3⟩
    .rename_i h3;exact absurd h h3
   .rename_i h2;exact absurd h h2
  .rename_i h1;exact absurd h h1
 .cases h
end Go.Proofs.YtbfghimjdlpicaaGreatDoor
namespace Go.Proofs.YtbfghimjdlpicaaGreatDoor
namespace Wh
open Go.RowKit
end Wh
end Go.Proofs.YtbfghimjdlpicaaGreatDoor
namespace Go.Proofs.YtbfghimjdlpicaaGreatDoor
open Go.RowKit
def WE(w:World)(p:Pk)(A:Array Value):Prop:=∃vm vs vg vw,A=#[Y p.du,Ia p.whole,vm,vs,vg,vw]/\Sl w vm p.ms/\Sv.Sl w vs p.sv/\Gw.Sl w vg p.gw/\Wh.Sl w vw p.wh
end Go.Proofs.YtbfghimjdlpicaaGreatDoor
