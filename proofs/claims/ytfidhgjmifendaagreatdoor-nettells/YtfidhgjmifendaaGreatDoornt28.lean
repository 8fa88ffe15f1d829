import Derived.Test.YtfidhgjmifendaaGreatDoornt27
set_option maxHeartbeats 25600000
set_option maxRecDepth 100000
open Go renaming maxLen→Il,below_drewN→I8,heap_alloc_new→Ih,redrawn→Iz,below_regrown→QS,cell_regrown→Is
open Go.Value renaming pointer→Ie,agg→Ij,string→Y,int→U,bool→Ia,slice→J,tuple→Ik
open Go.IntKind renaming i64→O
open Go.Ending renaming returned→By
open Option renaming some→AI,none→be
open Go.Obj renaming cells→AT
open Go.RowKit.Below renaming refl→Ib
open Array renaming getElem?_eq_some_iff→BY
open List renaming mem_of_mem_take→Jf,length_set→IS,getD→Ip,pairwise_iff_getElem→I5
namespace Go.Proofs.YtfidhgjmifendaaGreatDoor
open Go.RowKit
theorem H6{ms:List Mem}{m:Mem}(h:∀x∈ms,x.name.size<=Il)(hm:m.name.size<=Il):∀x∈aP ms m,x.name.size<=Il:=λx hx=>by
 rcases ec ms m x hx with rfl|hx
 .exact hm
 .exact h x hx
theorem Sj(n:Nd)(m:Mem):(iJ n m).ms=aP n.ms m:=by unfold iJ;split<;>rfl
theorem mS(n:Nd)(m:Mem):(iJ n m).name=n.name:=by unfold iJ;split<;>rfl
theorem vP{ms:List Mem}{m:Mem}(h:bj ms=0)(hm:m.e=0)(hj:aE ms [m]=0):(aP ms m).length<=20:=by
 rw[Ej h hm] at hj;split at hj
 .cases hj
 .omega
theorem qI{n:Nd}{m:Mem}(h:bj n.ms=0)(hr:dW n.rs=0)(hm:m.e=0)(h0:j7 n m=0):bj (iJ n m).ms=0/\dW (iJ n m).rs=0:=by
 unfold j7 at h0;split at h0
 .rename_i hj
  rw[Sj];refine⟨H5 h hm (vP h hm hj),?_⟩;unfold iJ;by_cases hc:qH n.ms m=true
  .rw[if_pos hc] at h0 ⊢
   exact zv hr hm h0
  .rw[if_neg hc];exact hr
 .rename_i hj;exact absurd h0 hj
theorem oD(L b:Nat)(n:Nd)(m:Mem)(w:World)(h:Wk L w b n)(hL:L<=b)(hJ:bj n.ms=0)(oN:dW n.rs=0)(hl:bb n.name=true)(hm:m.e=0)(VW:m.name.size<=Il) :
 aF 63 #[Ie (AI ⟨b,0,be⟩),Ij #[Y m.name,U O m.state,U O m.aI,U O m.addr,Ia m.server]] w λe w'=>e=By (U O (mm n m))/\Sh (λk=>k=b) w w'/\Hid (mm n m=0->Wk L w' b (mA n m)):=by
 have pN:Hid (Wk L w b n):=h;have aN:=h.lt;obtain⟨vm,vr,vs,vg,vw,h1,h2,h3,h4⟩:=h;have ml:Hid _:=h2.is h4;obtain⟨am,cm,nJ,_⟩:=aA h2.ms;subst nJ;have HHR:Hid (∀W,Below w.heap.size w W->aF 106 #[J am n.ms.length cm,Ij #[Y m.name,U O m.state,U O m.aI,U O m.addr,Ia m.server]] W λe w'=>∃a k c,e=By (Ik #[J a k c,Ia (decide (aE n.ms [m]=0)&&qH n.ms m),U O (aE n.ms [m])])/\Below W.heap.size W w'/\(aE n.ms [m]=0->Own W.heap.size w' (J a k c) (aP n.ms m))):=λW hW=>by
  refine(H7 n.ms m _ W (ml.out.ms.below hW) VW).mono ?_;rintro e w' ⟨v',r,rfl,hb,hx,ho⟩;by_cases h0:aE n.ms [m]=0
  .obtain⟨zh,fA⟩:=ho h0
   obtain⟨a,c,rfl,_⟩:=aA zh;refine⟨a,_,c,?_,hb,λ_=>zh⟩;have e1:r=qH n.ms m:=by rw[Bool.eq_iff_iff,fA,pP (af hJ).2.1]
   rw[e1,decide_eq_true h0,Bool.true_and]
  .obtain⟨rfl,rfl⟩:=hx h0
   exact⟨be,0,0,by rw[decide_eq_false h0,Bool.false_and],hb,λh=>absurd h h0⟩
 have tv:Hid (∀W w1 a k c,Below w.heap.size w W->Below W.heap.size W w1->(aE n.ms [m]=0->Own W.heap.size w1 (J a k c) (aP n.ms m))->aE n.ms [m]=0->Wk L (w1.setCell ⟨b,2,be⟩ (J a k c)) b { n with ms:=aP n.ms m }):=λW w1 a k c hW h1 h2 h0=>
  (pN.out.below hW).Hq (by have:=hW.size;omega) h1 (h2 h0) (H6 h4.ms VW)
 have HX:Hid (∀W,Below w.heap.size w W->W.heap[b]?=AI (AT (dt n (J am n.ms.length cm) vr vs vg vw) 90 (0,0))):=λW hW=>(hW.block _ aN).trans h1;have MC:Hid (∀W,aE n.ms [m]=0->qH n.ms m=true->Wk L W b { n with ms:=aP n.ms m }->aF 107 #[Ie (AI ⟨b,0,be⟩),Y m.name] W λe w'=>e=By (U O (ix n.rs m))/\Sh (λk=>k=b) W w'/\(ix n.rs m=0->Wk L w' b { n with ms:=aP n.ms m,rs:=iw n.rs m })):=λW hj hc hW=>
  tt L b { n with ms:=aP n.ms m } m.name m W hW hL (by show(aP n.ms m).length<=1000;have:=vP hJ hm hj;omega) oN (fN (pM m n.ms ((pP (af hJ).2.1 m).1 hc))) hm VW
 have HRF:Hid (∀W,j7 n m=0->Wk L W b (iJ n m)->aF 108 #[Ie (AI ⟨b,0,be⟩)] W λe w'=>e=By (U O (zx (iJ n m)))/\Sh (λk=>k=b) W w'/\Hid (zx (iJ n m)=0->Wk L w' b (uk (iJ n m)))):=λW h0 hW=>
  Bw L b (iJ n m) W hW hL (qI hJ oN hm h0).1 (qI hJ oN hm h0).2 (by rw[mS];exact hl)
 have MD:Hid (∀W,Wk L W b (iJ n m)->W.cell? ⟨b,0,be⟩=AI (Y n.name)):=λW hW=>by
  obtain⟨_,_,_,_,_,g1,_⟩:=hW;rw[<- mS n m];exact ae g1 0
 have HEE:Hid (j7 n m≠0->mm n m=j7 n m):=λh=>by show mm n m=_;unfold mm;rw[if_neg h]
 have Pv:Hid (j7 n m=0->m.name=n.name->mm n m=zx (iJ n m)):=λh h2=>by show mm n m=_;unfold mm;rw[if_pos h,if_pos h2]
 have HEN:Hid (j7 n m=0->m.name≠n.name->mm n m=0):=λh h2=>by show mm n m=_;unfold mm;rw[if_pos h,if_neg h2]
 have HD1:Hid (aE n.ms [m]≠0->j7 n m=aE n.ms [m]):=λh=>by show j7 n m=_;unfold j7;rw[if_neg h]
 have TO:Hid (aE n.ms [m]=0->qH n.ms m=false->j7 n m=0/\iJ n m={ n with ms:=aP n.ms m }):=λh hc=>by
  show j7 n m=0/\iJ n m=_;unfold j7 iJ;rw[if_pos h,if_neg (by rw[hc];simp),if_neg (by rw[hc];simp)];exact⟨rfl,rfl⟩
 have HD3:Hid (aE n.ms [m]=0->qH n.ms m=true->j7 n m=ix n.rs m/\iJ n m={ n with ms:=aP n.ms m,rs:=iw n.rs m }):=λh hc=>by
  show j7 n m=_/\iJ n m=_;unfold j7 iJ;rw[if_pos h,if_pos hc,if_pos hc];exact⟨rfl,rfl⟩
 have HBM:Hid (∀W,Wk L W b { n with ms:=aP n.ms m }->W.cell? ⟨b,0,be⟩=AI (Y n.name)):=λW hW=>by
  obtain⟨_,_,_,_,_,g1,_⟩:=hW;exact ae g1 0
 obtain⟨W0,bJ,bM,eE,dG⟩:=bW w #[Y m.name,U O m.state,U O m.aI,U O m.addr,Ia m.server] 50;have da:Hid _:=bM;obtain⟨x0,x1,x2,x3,x4⟩:=jd dG;have y2:=ae (HX.out W0 bM) 2;have AM:Hid _:=dG;generalize mm n m=res at *;generalize zt:n.ms.length=km at *;clear zt h1 h2 h3 h4 hJ oN dG bM;generalize aE n.ms [m]=je at *;generalize ix n.rs m=pe at *;generalize j7 n m=se at *;generalize qH n.ms m=cb at *;go_enter Tryz.func63,Tryz.ntmps63;go_upto_region 2 with fail
 rw[<- bJ];clear bJ;go_region_with (first|(go_at_call 106;refine(HHR.out _ da.out.drew).mono ?_;rintro e w1 ⟨a,k,c,rfl,aB,zh⟩;have aV:Hid (Below W0.heap.size W0 w1):=(Ib W0.heap.size W0).drew.trans aB;have lC:Hid (je=0->Wk L (w1.setCell ⟨b,2,be⟩ (J a k c)) b { n with ms:=aP n.ms m }):=tv.out _ _ a k c da.out.drew aB zh;have gI:=HX.out w1 (da.out.trans (aV.out.mono da.out.size));have z2:w1.cell? ⟨b,2,be⟩=AI (J am km cm):=ae gI 2;have zf:w1.frozen? ⟨b,2,be⟩=false:=an gI 2;have Ga:=(aV.out.block _ (show w.heap.size<W0.heap.size by omega)).trans AM.out;clear aB zh gI))
 all_goals
  obtain⟨W2,bF⟩:∃W2,W2=w1.setCell ⟨b,2,be⟩ (J a k c):=⟨_,rfl⟩;rw[<- bF] at lC;have xu:Hid (Sh (λk=>k=b) w W2):=by rw[bF];exact(Sh.of (da.out.trans (aV.out.mono da.out.size))).setCell (S:=λk=>k=b) rfl _
  have o7:Hid (W2.heap[w.heap.size]?=AI (AT #[Y m.name,U O m.state,U O m.aI,U O m.addr,Ia m.server] 50 (0,0))):=by rw[bF];exact(Below.heap_setCell _ _ _ _ (by simp only;omega)).trans Ga
  rw[<- bF];clear bF z2 zf y2 Ga x0 x1 x2 x3 x4;by_cases hj:je=0
  .cases cb
   .obtain⟨e1,e2⟩:=TO.out hj rfl
    have Ek:Hid (Wk L W2 b (iJ n m)):=by rw[e2];exact lC.out hj
    subst hj;clear e2 lC HD1 TO HD3 MC HEE;have u0:=ae o7.out 0;have u1:=MD.out W2 Ek.out;by_cases cV:m.name=n.name
    .have hq:(m.name.toList !=n.name.toList)=false:=by rw[cV];simp
     have TR:(m.name.toList==n.name.toList)=true:=by rw[cV];simp
     have hq3:m.name.toList=n.name.toList:=by rw[cV]
     have HR:Hid _:=Pv.out e1 cV;have HN:Hid (mA n m=uk (iJ n m)):=by show mA n m=_;unfold mA;rw[if_pos cV]
     have jb:Hid (∀q,aF _ _ _ _):=λq=>HRF.out _ e1 (Ek.out.below (I8 (Ib _ _) q));clear cV;generalize zx (iJ n m)=re at *;go_wp2_with fail;go_quiet (fail)
     go_wp2_with fail;refine(jb.out _).mono ?_;rintro e w7 ⟨rfl,Pw,MF⟩;have HS7:Hid _:=xu.out.trans ((Sh.of (I8 (Ib _ _) _)).trans Pw);clear Pw;go_wp2_with fail;go_ret;exact⟨ai HR.out.symm,HS7.out,λh=>by rw[HN.out];exact MF.out (HR.out.symm.trans h)⟩
    .have hq:=(pc _ _).2 cV
     have TR:(m.name.toList==n.name.toList)=false:=by rw[jA,decide_eq_false cV]
     have HR:Hid _:=HEN.out e1 cV;have HN:Hid (mA n m=iJ n m):=by show mA n m=_;unfold mA;rw[if_neg cV]
     clear cV;go_wp2_with fail;go_quiet (fail)
     go_wp2_with fail;go_ret;exact⟨ai HR.out.symm,xu.out.trans (Sh.of (I8 (Ib _ _) _)),λ_=>by rw[HN.out];exact Ek.out.below (I8 (Ib _ _) _)⟩
   .obtain⟨e1,e2⟩:=HD3.out hj rfl
    have MG:=lC.out hj;have HTC:Hid (aF _ _ _ _):=MC.out W2 hj rfl MG;have u0:=ae o7.out 0;subst hj;clear MG lC HD1 TO HD3 MC;go_wp2_with fail;refine HTC.out.mono ?_;rintro e w4 ⟨rfl,D7,VV⟩;have ME:Hid _:=xu.out.trans D7;have VX:=(D7.block _ ((BY.1 o7.out).1) (by omega)).trans o7.out;have DO:Hid (pe=0->Wk L w4 b (iJ n m)):=λh=>by rw[e2];exact VV h
    have o7:Hid _:=VX;clear D7 VV VX u0 HTC e2;by_cases hp:pe=0
    .have Sk:Hid (Wk _ _ _ _):=DO.out hp
     have e3:=e1.trans hp;subst hp;clear DO e1 HEE;have u0:=ae o7.out 0;have u1:=MD.out w4 Sk.out;by_cases cV:m.name=n.name
     .have hq:(m.name.toList !=n.name.toList)=false:=by rw[cV];simp
      have TR:(m.name.toList==n.name.toList)=true:=by rw[cV];simp
      have hq3:m.name.toList=n.name.toList:=by rw[cV]
      have HR:Hid _:=Pv.out e3 cV;have HN:Hid (mA n m=uk (iJ n m)):=by show mA n m=_;unfold mA;rw[if_pos cV]
      have jb:Hid (∀q,aF _ _ _ _):=λq=>HRF.out _ e3 (Sk.out.below (I8 (Ib _ _) q));clear cV;generalize zx (iJ n m)=re at *;go_wp2_with fail;go_quiet (fail)
      go_wp2_with fail;refine(jb.out _).mono ?_;rintro e w7 ⟨rfl,Pw,MF⟩;have HS7:Hid _:=ME.out.trans ((Sh.of (I8 (Ib _ _) _)).trans Pw);clear Pw;go_wp2_with fail;go_ret;exact⟨ai HR.out.symm,HS7.out,λh=>by rw[HN.out];exact MF.out (HR.out.symm.trans h)⟩
     .have hq:=(pc _ _).2 cV
      have TR:(m.name.toList==n.name.toList)=false:=by rw[jA,decide_eq_false cV]
      have HR:Hid _:=HEN.out e3 cV;have HN:Hid (mA n m=iJ n m):=by show mA n m=_;unfold mA;rw[if_neg cV]
      clear cV;go_wp2_with fail;go_quiet (fail)
      go_wp2_with fail;go_ret;exact⟨ai HR.out.symm,ME.out.trans (Sh.of (I8 (Ib _ _) _)),λ_=>by rw[HN.out];exact Sk.out.below (I8 (Ib _ _) _)⟩
    .have hp':(pe !=0)=true:=by simpa using hp
     have HR:Hid _:=(HEE.out (by rw[e1];exact hp)).trans e1;have A6:Hid _:=hp;have u0:=ae o7.out 0;clear hp e1;go_wp2_with fail;go_quiet (fail)
     go_wp2_with fail;go_ret;exact⟨ai HR.out.symm,ME.out.trans (Sh.of (I8 (Ib _ _) _)),λh=>absurd (HR.out.symm.trans h) A6.out⟩
  .have Ea:(je !=0)=true:=by simpa using hj
   have hj2:=decide_eq_false hj;have e1:=HD1.out hj;have HR:Hid _:=(HEE.out (by rw[e1];exact hj)).trans e1;have A6:Hid _:=hj;clear hj e1 HD1 TO HD3;go_wp2_with fail;go_quiet (fail)
   go_wp2_with fail;go_ret;exact⟨ai HR.out.symm,xu.out.trans (Sh.of (I8 (Ib _ _) _)),λh=>absurd (HR.out.symm.trans h) A6.out⟩
def sn(n:Nd)(t:ByteArray)(cU to:Int):Int:=
 if bb t=true then(if(cI n.ms t).isSome=true then(if t=n.name then 6 else if(eV n.ms t).state=cU then mm n { eV n.ms t with state:=to } else 4) else 5) else 1
def zA(n:Nd)(t:ByteArray)(to:Int):Nd:=mA n { eV n.ms t with state:=to }
theorem nA{ms:List Mem}{t:ByteArray}(h:(cI ms t).isSome=true):eV ms t∈ms/\(eV ms t).name=t:=by
 obtain⟨m,hm⟩:=Option.isSome_iff_exists.1 h;rw[fN hm];exact iQ hm
theorem tw(L b:Nat)(n:Nd)(t:ByteArray)(cU to:Int)(w:World)(h:Wk L w b n)(hL:L<=b)(hJ:bj n.ms=0)(oN:dW n.rs=0)(hl:bb n.name=true)(ht:t.size<=Il)(VY:within to 1 4=true) :
 aF 41 #[Ie (AI ⟨b,0,be⟩),Y t,U O cU,U O to] w λe w'=>e=By (U O (sn n t cU to))/\Sh (λk=>k=b) w w'/\Hid (sn n t cU to=0->Wk L w' b (zA n t to)):=by
 have pN:Hid (Wk L w b n):=h;have aN:=h.lt;obtain⟨vm,vr,vs,vg,vw,h1,h2,h3,h4⟩:=h;have ml:Hid _:=h2.is h4;obtain⟨am,cm,nJ,_⟩:=aA h2.ms;subst nJ;have D5:Hid (kx 67 #[Ie (AI ⟨b,0,be⟩),Y t] w (Ik #[Ij #[Y (eV n.ms t).name,U O (eV n.ms t).state,U O (eV n.ms t).aI,U O (eV n.ms t).addr,Ia (eV n.ms t).server],Ia (cI n.ms t).isSome])):=
  iP b am n.ms.length cm n.ms t w (ae h1 2) ml.out.ms (by have:=(af hJ).1;omega)
 have AA:Hid ((cI n.ms t).isSome=true->∀W,Below w.heap.size w W->aF 63 #[Ie (AI ⟨b,0,be⟩),Ij #[Y (eV n.ms t).name,U O to,U O (eV n.ms t).aI,U O (eV n.ms t).addr,Ia (eV n.ms t).server]] W λe w'=>e=By (U O (mm n { eV n.ms t with state:=to }))/\Sh (λk=>k=b) W w'/\Hid (mm n { eV n.ms t with state:=to }=0->Wk L w' b (zA n t to))):=λhs W hW=>by
  obtain⟨g1,g2⟩:=nA hs;have he:=(kE _).1 (lK hJ _ g1);exact oD L b n { eV n.ms t with state:=to } W (pN.out.below hW) hL hJ oN hl ((kE _).2 ⟨he.1,VY,he.2.2.1,he.2.2.2⟩) (show(eV n.ms t).name.size<=Il from h4.ms _ g1)
 have HX:Hid (∀W,Below w.heap.size w W->W.cell? ⟨b,0,be⟩=AI (Y n.name)):=λW hW=>ae ((hW.block _ aN).trans h1) 0;have HE:Hid (sn n t cU to=if bb t=true then(if(cI n.ms t).isSome=true then(if t=n.name then 6 else if(eV n.ms t).state=cU then mm n { eV n.ms t with state:=to } else 4) else 5) else 1):=rfl;generalize sn n t cU to=res at *;generalize mm n { eV n.ms t with state:=to }=se at *;clear h1 h2 h3 h4 hJ oN;generalize(cI n.ms t).isSome=fd at *;generalize GA:eV n.ms t=m at *;clear GA;obtain⟨mn,st,lf,ad,sv⟩:=m;simp only at D5 AA HE;go_enter Tryz.func41,Tryz.ntmps41;rcases hlab:bb t with _|_
 .have HR:Hid (res=1):=HE.out.trans (by rw[hlab];rfl)
  go_wp2_with (go_at_call 53;refine(bR _ _ ht).mono ?_;rintro e w' ⟨rfl,rfl⟩;rw[hlab]);go_ret;exact⟨ai HR.out.symm,Sh.refl _ _,λh=>by have:=HR.out.symm.trans h;cases this⟩
 have kz:Hid (res=if fd=true then(if t=n.name then 6 else if st=cU then se else 4) else 5):=HE.out.trans (by rw[hlab];rfl);clear HE;go_wp2_with (first|(go_at_call 53;refine(bR _ _ ht).mono ?_;rintro e w' ⟨rfl,Px⟩;have Gl:=Px.symm;subst Gl;rw[hlab])|fail);refine D5.out.mono ?_;rintro e w1 ⟨rfl,aB⟩;obtain⟨W2,bF⟩:∃W2,W2=w1.alloc (AT #[Y mn,U O st,U O lf,U O ad,Ia sv] 50):=⟨_,rfl⟩;have aJ:Below w.heap.size w W2:=by rw[bF];exact aB.alloc aB.size _
 have hbb:w1.heap.size<W2.heap.size:=by rw[bF];simp
 have dQ:W2.heap[w1.heap.size]?=AI (AT #[Y mn,U O st,U O lf,U O ad,Ia sv] 50 (0,0)):=by rw[bF];exact Ih w1 _
 have bp:Hid _:=aJ;have fg:=aB.size;obtain⟨x0,x1,x2,x3,x4⟩:=jd dQ;have zf:=an dQ 1;have y0:=HX.out W2 aJ;go_upto_region 4 with fail
 rw[<- bF];clear bF aB aJ D5;cases fd
 .have HR:Hid (res=5):=kz.out.trans (by simp)
  go_wp2_with fail;go_ret;exact⟨ai HR.out.symm,Sh.of bp.out,λh=>by have:=HR.out.symm.trans h;cases this⟩
 by_cases cV:t=n.name
 .have HR:Hid (res=6):=kz.out.trans (by simp[cV])
  have hq:(t.toList==n.name.toList)=true:=by rw[cV];simp
  have TR:t.toList=n.name.toList:=by rw[cV]
  clear cV;go_wp2_with fail;go_ret;exact⟨ai HR.out.symm,Sh.of bp.out,λh=>by have:=HR.out.symm.trans h;cases this⟩
 have hq:(t.toList==n.name.toList)=false:=by rw[jA,decide_eq_false cV]
 by_cases oM:st=cU
 .have HR:Hid (res=se):=kz.out.trans (by simp[cV,oM])
  subst oM;have H8:=λW hW=>AA.out rfl W hW;clear cV kz;obtain⟨W3,ea⟩:∃W3,W3=W2.setCell ⟨w1.heap.size,1,be⟩ (U O to):=⟨_,rfl⟩;have cj:Hid (Below w.heap.size w W3):=by rw[ea];exact bp.out.setCell (p:=⟨w1.heap.size,1,be⟩) fg _
  have ji:W3.heap[w1.heap.size]?=AI (AT #[Y mn,U O to,U O lf,U O ad,Ia sv] 50 (0,0)):=by rw[ea];exact Joins.block_setCell (i:=1) dQ _
  obtain⟨v0,v1,v2,v3,v4⟩:=jd ji;have Sm:Hid (aF _ _ _ _):=H8 W3 cj.out;clear H8 ji dQ;go_upto_region 11 with fail
  rw[<- ea];clear ea x0 x1 x2 x3 x4 zf y0;go_wp2_with fail;refine Sm.out.mono ?_;rintro e w5 ⟨rfl,Hl,AP⟩;have HS5:Hid _:=(Sh.of cj.out).trans Hl;clear Hl;go_wp2_with fail;go_ret;exact⟨ai HR.out.symm,HS5.out,λh=>AP.out (HR.out.symm.trans h)⟩
 .have HR:Hid (res=4):=kz.out.trans (by simp[cV,oM])
  have ado:(st !=cU)=true:=by simpa using oM
  clear cV oM kz;go_wp2_with fail;go_ret;exact⟨ai HR.out.symm,Sh.of bp.out,λh=>by have:=HR.out.symm.trans h;cases this⟩
theorem Sh.grown{S:Nat->Prop}{a w w':World}{row:Option Nat}(h:Sh S a w)(hg:w.grownBy w' row)(hr:∀k,row=AI k->S k):Sh S a w':=
 h.trans ⟨hg.os,hg.tape,hg.output,hg.size,λk hk hn=>hg.block k hk (λe=>hn (hr k e.symm))⟩
theorem El(L b:Nat)(n:Nd)(l:List Wh.bE)(vx:Value)(w0 w:World)(h:Wk L w b n)(hL:L<=b)(hf:Wh.oB n.wh)(hx:Wh.Sl w0 vx l)(hB:Below w0.heap.size w0 w)(hBL:w0.heap.size<=L)(hll:l.length<=1000) :
 aF 66 #[Ie (AI ⟨b,0,be⟩),vx] w λe w'=>e=By (Ik #[])/\Sh (λk=>L<=k) w w'/\Wk L w' b { n with wh:=Bs n.wh l }:=by
 have pN:Hid (Wk L w b n):=h;have HB:Hid _:=hB;have HFI:Hid _:=hf;obtain⟨px,cx,rfl,TS,hxr⟩:=hx;have HXR:Hid _:=hxr;have HXS:Hid _:=TS;have HLO:Hid _:=Wh.dw TS;clear h hB hf TS hxr;generalize hN:l.length=nl at *;have HN:Hid _:=hN;clear hN;go_enter Tryz.func66,Tryz.ntmps66;go_wp2_with fail;go_loopw [10] (λi wr=>∃k:Nat,k<=nl/\i=U O k/\Hid (Sh (λk=>L<=k) w wr)/\Hid (Wk L wr b { n with wh:=Bs n.wh (l.take k) })) (λi _=>nl-(intOf i).toNat)
 case atStart=>exact⟨0,Nat.zero_le _,rfl,Sh.refl _ _,pN⟩
 case round=>
  obtain⟨k,hk,rfl,xu,HW⟩:=hrel;by_cases aW:k<nl
  .obtain⟨b2,o2,hp,mB,hr⟩:∃b off,px=AI ⟨b,off,be⟩/\b<w0.heap.size/\Wh.Row w0 b off l:=by
    rcases HXR.out with h|h
    .have:=HN.out;rw[h] at this;simp at this;omega
    .exact h
   subst hp;have HBR:Hid _:=HB.out.trans (xu.out.below HB.out.size (λk hk=>by omega));obtain⟨c0,c1,c2,c3,c4,c5⟩:=(hr k (by rw[HN.out];exact aW)).eq (λo=>HBR.out.cell (p:=⟨b2,o,be⟩) mB);clear hr;have Em:Hid (Wh.oB (Bs n.wh (l.take k))):=zq HFI.out (λm hm=>HLO.out m (Jf hm));have sI:Hid _:=HQ n.wh l k (by rw[HN.out];exact aW);have hxo:=HXS.out k;generalize l.getD k Wh.dm=x at *;generalize fQ:Bs n.wh (l.take k)=known at *;clear fQ;obtain⟨p,f,cv⟩:=Wh.jI known Em.out.Eh x;have fS:Hid _:=cv;have HAN:Hid _:=Sa Em.out.Eh cv;clear cv;have Bx:=HW.out.lt;obtain⟨vm,vr,vs,vg,vw,h1,h2,h3,h4⟩:=HW.out;have Bi:Hid (Wh.Own _ _ _ _):=h2.wh;have HH3:Hid _:=h3;have HH4:Hid _:=h4;have HH2:Hid _:=h2;obtain⟨aw,cw,LH,hcw⟩:=aA h2.wh;simp only at LH hcw;subst LH;have HSW:Hid (Wh.Sl _ _ _):=h2.wh.sl (Wh.cB Em.out.ok);have HKL:Hid _:=Em.out.len;obtain⟨W1,cM,aB,fg,cK⟩:=bW wr #[Y x.node,U O x.x,U O x.y,U O x.z,U O x.h,U O x.s] 116;have uS:Hid _:=cK;have aV:Hid _:=aB;have iM:Hid (∀W,Below wr.heap.size wr W->W.heap[b]?=AI (AT (dt { n with wh:=known } vm vr vs vg (J aw known.length cw)) 90 (0,0))):=λW hW=>(hW.block _ Bx).trans h1;obtain⟨x0,x1,x2,x3,x4,x5⟩:=fm cK;have y11:=ae (iM.out W1 aB) 11;have hFI:∀d os,aF 111 #[J aw known.length cw,Ij #[Y x.node,U O x.x,U O x.y,U O x.z,U O x.h,U O x.s],.func (.func 112) #[] #[]] (Go.Sort.grow (Iz W1 d) os) λe gD=>e=By (Ik #[U O p,Ia f])/\∃q:Regrown,gD=Go.Sort.grow (Iz W1 q.d) q.os:=λd os=>Calls.regrown_of ((Wh.ff known _ x _ (HSW.out.below (aB.trans ((QS W1 d os).mono (by omega)))) (by have:=HKL.out;omega) Em.out.Eh).mono (by
    rintro e w' ⟨p',f',rfl,hb,ha⟩;obtain⟨rfl,rfl⟩:=Wh.ey ha fS.out;exact⟨rfl,hb⟩))
   have F0:=Is x0;have F1:=Is x1;have F2:=Is x2;have F3:=Is x3;have F4:=Is x4;have F5:=Is x5;have G11:=Is y11;clear h1 h2 h3 h4 cK aB x0 x1 x2 x3 x4 x5 y11;generalize iH:known.length=kl at *;have HKE:Hid _:=iH;clear iH;have agw:=HKL.out;go_upto_region 3 with fail
   rw[<- cM];clear cM c0 c1 c2 c3 c4 c5;refine wp_region_quiet_below (by kernel_rfl) (by kernel_rfl) ?_;repeat(quiet_step (exact hFI _ _))
   refine wpQuiet_nil ?_;intro _ MH;obtain⟨⟨dq,kj⟩,adq⟩:=MH;subst adq;have bp:Hid _:=aV.out.trans ((QS W1 dq kj).mono (by omega));have wK:Hid _:=((QS W1 dq kj).block _ (by omega)).trans uS.out;clear hFI F0 F1 F2 F3 F4 F5 G11 uS aV;generalize Go.Sort.grow (Iz W1 dq) kj=W2 at *;have y11:=ae (iM.out W2 bp.out) 11;have VZ:Hid _:=xu.out.next bp.out;have Ek:Hid (Wk _ _ _ _):=HW.out.below bp.out;cases f
   rotate_left
   .have Pv:Hid _:=sI.out.trans (by unfold uW;rw[if_pos (.inl HAN.out)])
    go_wp2_with fail;go_roundw
    case rel=>exact⟨k+1,by omega,by go_num,VZ,by rw[Pv.out];exact Ek⟩
    case measure=>simp[intOf];omega
   .by_cases hk20:kl<20
    rotate_left
    .have Pv:Hid _:=sI.out.trans (by unfold uW;rw[if_pos (.inr (by rw[HKE.out];omega))])
     go_wp2_with fail;go_roundw
     case rel=>exact⟨k+1,by omega,by go_num,VZ,by rw[Pv.out];exact Ek⟩
     case measure=>simp[intOf];omega
    .have Pv:Hid (Bs n.wh (l.take (k+1))=known.take p++x::known.drop p):=sI.out.trans (by
      unfold uW
      rw[if_neg (by rw[HAN.out,HKE.out];intro h;rcases h with h|h;· cases h
                    .omega),Wh.dd known x p false fS.out,if_neg (by simp)])
     have adr:Hid (∀m∈known.take p++x::known.drop p,m.ok):=λm hm=>by
      rcases List.mem_append.1 hm with hm|hm
      .exact Em.out.ok m (Jf hm)
      .rcases List.mem_cons.1 hm with rfl|hm
       .exact hxo
       .exact Em.out.ok m (List.mem_of_mem_drop hm)
     have Pu:p<=kl:=by have:=fS.out.le;rw[HKE.out] at this;exact this
     obtain⟨v0,v1,v2,v3,v4,v5⟩:=fm wK.out;obtain⟨W3,ea⟩:∃W3,W3=(W2.alloc (AT #[Y x.node,U O x.x,U O x.y,U O x.z,U O x.h,U O x.s] 116)).drew:=⟨_,rfl⟩;have bV:Below wr.heap.size wr W3:=by rw[ea];exact(bp.out.alloc bp.out.size _).drew
     have ajW:W3.heap.size=W2.heap.size+1:=by rw[ea];simp
     have ajX:=bp.out.size;have ji:W3.heap[W2.heap.size]?=AI (AT x.cs.toArray 116 (0,0)):=by rw[ea];exact Ih W2 _
     have HI:Hid (aF 113 #[J aw kl cw,U O p,J (AI ⟨W2.heap.size,0,be⟩) 1 1] W3 λe w'=>∃a q c,e=By (J a q c)/\Wh.Own L w' (J a q c) (known.take p++x::known.drop p)/\W3.grownBy w' (J aw kl cw).ownBlock):=by
      refine(Wh.fj L p W2.heap.size _ known x W3 (Bi.out.below bV) fS.out.le (by rw[HKE.out];omega) (by omega) ji (λe=>by have:=((Bi.out.below bp.out).lt _ e).2;omega)).mono ?_;rintro e w' ⟨v',rfl,ho,hg⟩;obtain⟨a,c,rfl,_⟩:=aA ho;exact⟨a,_,c,rfl,ho,hg⟩
     have RQ:Hid (∀w5 a q c,Wh.Own L w5 (J a q c) (known.take p++x::known.drop p)->W3.grownBy w5 (J aw kl cw).ownBlock->Wk L (w5.setCell ⟨b,11,be⟩ (J a q c)) b { n with wh:=known.take p++x::known.drop p }/\Sh (λk=>L<=k) w (w5.setCell ⟨b,11,be⟩ (J a q c))/\w5.heap[b]?=AI (AT (dt { n with wh:=known } vm vr vs vg (J aw kl cw)) 90 (0,0))):=λw5 a q c ho hg=>
      ⟨Wk.ins (n:={ n with wh:=known }) (iM.out W3 bV) (HH2.out.below bV) HH3.out HH4.out hg ho adr.out,
       ((xu.out.next bV).grown hg (λg Vl=>((Bi.out.below bV).lt g Vl).1)).setCell (S:=λk=>L<=k) hL _,
       (hg.block b (by have:=bV.size;omega) (λe=>HH3.out.2.2.2.2 e.symm)).trans (iM.out W3 bV)⟩
     have ajY:b<W2.heap.size:=by omega
     have ajZ:=(BY.1 wK.out).1;have V0:¬ b=W2.heap.size:=by omega
     have Sn:¬ wr.heap.size=W2.heap.size:=by omega
     clear ji bV;go_upto_region 5 with fail
     go_region_with (first|(go_at_call 113;refine(show aF _ _ _ _ by first|(rw[<- ea];exact HI.out)|(have h:=HI.out;rw[ea] at h;exact h)).mono ?_;rintro e w5 ⟨a,q,c,rfl,Py,mT⟩;obtain⟨i1,i2,i3⟩:=RQ.out w5 a q c Py mT;have HI1:Hid (Wk L (w5.setCell ⟨b,11,be⟩ (J a q c)) b { n with wh:=known.take p++x::known.drop p }):=i1;have TT:Hid (Sh (λk=>L<=k) w (w5.setCell ⟨b,11,be⟩ (J a q c))):=i2;have z11:w5.cell? ⟨b,11,be⟩=AI (J aw kl cw):=ae i3 11;have zf:w5.frozen? ⟨b,11,be⟩=false:=an i3 11;clear Py mT i1 i2 i3))
     all_goals
      go_wp2_with fail;go_roundw
      case rel=>exact⟨k+1,by omega,by go_num,TT,by rw[Pv.out];exact HI1⟩
      case measure=>simp[intOf];omega
  .have fQ:k=nl:=by omega
   subst fQ;have rJ:Hid (Wk L wr b { n with wh:=Bs n.wh l }):=by
    have h:=HW.out;rw[List.take_of_length_le (by rw[HN.out];exact Nat.le_refl _)] at h;exact h
   go_wp2_with fail;simp only[bodyPost,results,Tryz.results66];exact⟨trivial,Ik #[],by simp,rfl,xu.out,rJ.out⟩
theorem Ka{ms:List Mem}{p:Nat}{x:Mem}(hr:bn ms)(hx:x.name=(ms.getD p dm).name):bn (ms.set p x):=by
 have hn:∀j (h:j<ms.length),((ms.set p x)[j]'(by rw[IS];exact h)).name=ms[j].name:=λj h=>by
  rw[List.getElem_set];split
  .rename_i e;subst e;rw[hx];simp[Ip,List.getElem?_eq_getElem h]
  .rfl
 refine I5.2 λi j hi hj iY=>?_;rw[IS] at hi hj;rw[hn i hi,hn j hj];exact I5.1 hr i j hi hj iY
structure Sp(n:Nd):Prop where
 ms:bj n.ms=0
 rs:dW n.rs=0
 name:bb n.name=true
theorem V1{n:Nd}(h:Sp n)(h0:zx n=0):Sp (uk n):=by
 unfold zx at h0;unfold uk;by_cases hR:iT n.ms (jC n) (oC n)=true
 .obtain⟨f1,f2,f3,f4,f5,f6,f7⟩:=pQ h.ms hR
  rw[if_pos (xt hR),if_pos hR] at h0;rw[if_pos hR];obtain⟨l1,l2,_⟩:=af h.ms;refine⟨jV ?_ ?_ ?_,zv h.rs f5 h0,h.name⟩
  .show(nS n).length<=20;rw[f3,IS];exact l1
  .show bn (nS n);rw[f3];exact Ka l2 rfl
  .intro m hm
   have hm:=hm;rw[f3] at hm;rcases List.mem_or_eq_of_mem_set hm with hm|rfl
   .exact lK h.ms m hm
   .rw[<- f4];exact f5
 .rw[if_neg hR]
  have:nS n=n.ms:=by unfold nS tu;rw[if_neg hR]
  rw[this];exact h
theorem Kb{n:Nd}{m:Mem}(h:Sp n)(hm:m.e=0)(h0:mm n m=0):Sp (mA n m):=by
 unfold mm at h0;split at h0
 .rename_i h1
  have h2:Sp (iJ n m):=⟨(qI h.ms h.rs hm h1).1,(qI h.ms h.rs hm h1).2,by rw[mS];exact h.name⟩;unfold mA;by_cases hn:m.name=n.name
  .rw[if_pos hn] at h0 ⊢;exact V1 h2 h0
  .rw[if_neg hn];exact h2
 .rename_i h1;exact absurd h0 h1
structure Rest(n n':Nd):Prop where
 name:n'.name=n.name
 aD:n'.aD=n.aD
 sv:n'.sv=n.sv
 gw:n'.gw=n.gw
 p:n'.p=n.p
 wh:n'.wh=n.wh
theorem Rest.refl(n:Nd):Rest n n:=⟨rfl,rfl,rfl,rfl,rfl,rfl⟩
theorem Rest.trans{a b c:Nd}(h:Rest a b)(k:Rest b c):Rest a c:=⟨k.name.trans h.name,k.aD.trans h.aD,k.sv.trans h.sv,k.gw.trans h.gw,k.p.trans h.p,k.wh.trans h.wh⟩
theorem MI(n:Nd):Rest n (uk n):=by unfold uk;split<;>exact⟨rfl,rfl,rfl,rfl,rfl,rfl⟩
theorem tz(n:Nd)(m:Mem):Rest n (iJ n m):=by unfold iJ;split<;>exact⟨rfl,rfl,rfl,rfl,rfl,rfl⟩
theorem fT(n:Nd)(m:Mem):Rest n (mA n m):=by
 unfold mA;split
 .exact(tz n m).trans (MI _)
 .exact tz n m
def qJ:Nd->List Mem->Int
 |_,[]=>0
 |n,m::r=>if mm n m=0 then qJ (mA n m) r else mm n m
def uZ:Nd->List Mem->Nd
 |n,[]=>n
 |n,m::r=>uZ (mA n m) r
theorem C9:∀(l:List Mem) (n:Nd) (m:Mem),uZ n (l++[m])=mA (uZ n l) m/\(qJ n l=0->qJ n (l++[m])=mm (uZ n l) m)
 |[],n,m=>⟨rfl,λ_=>by
   show qJ n [m]=mm n m;rw[qJ];split
   .rename_i h;rw[h];rfl
   .rfl⟩
 |x::r,n,m=>by
  obtain⟨h1,h2⟩:=C9 r (mA n x) m;refine⟨h1,λh=>?_⟩;rw[qJ] at h;split at h
  .rename_i h0
   show qJ n (x::(r++[m]))=_;rw[qJ,if_pos h0];exact h2 h
  .rename_i h0;exact absurd h h0
theorem Kc:∀(l r:List Mem) (n:Nd),qJ n l≠0->qJ n (l++r)=qJ n l
 |[],r,n,h=>absurd rfl h
 |x::l,r,n,h=>by
  show qJ n (x::(l++r))=_;rw[qJ] at h ⊢;rw[qJ];split
  .rename_i h0;rw[if_pos h0] at h;exact Kc l r _ h
  .rfl
theorem Pz:∀(l:List Mem) (n:Nd),Sp n->(∀m∈l,m.e=0)->qJ n l=0->Sp (uZ n l)
 |[],n,h,_,_=>h
 |x::r,n,h,hl,h0=>by
  rw[qJ] at h0;split at h0
  .rename_i h1
   exact Pz r (mA n x) (Kb h (hl x (by simp)) h1) (λm hm=>hl m (by simp[hm])) h0
  .rename_i h1;exact absurd h0 h1
theorem xv:∀(l:List Mem) (n:Nd),Rest n (uZ n l)
 |[],n=>Rest.refl n
 |x::r,n=>(fT n x).trans (xv r _)
def pR(n:Nd)(p:Pk):Int:=
 if p.e=0 then(if qJ n p.ms=0 then(if Sv.aE n.sv p.sv=0 then Gw.aE n.gw p.gw else Sv.aE n.sv p.sv) else qJ n p.ms) else p.e
def rQ(n:Nd)(p:Pk):Nd:={ uZ n p.ms with sv:=Sv.av n.sv p.sv,gw:=Gw.av n.gw p.gw,wh:=Bs n.wh p.wh }
theorem zB{p:Pk}(h:p.e=0):(∀m∈p.ms,m.e=0)/\p.ms.length<=20/\Wh.bj p.wh=0/\Sv.bj p.sv=0/\Gw.bj p.gw=0:=by
 unfold Pk.e at h;split at h
 .rename_i h0
  split at h
  .rename_i h1
   have hm:(∀m∈p.ms,m.e=0)/\p.ms.length<=20:=by
    unfold Pk.mE at h1;split at h1
    .exact⟨lK h1,(af h1).1⟩
    .obtain⟨a,b,_⟩:=vQ h1
     exact⟨bc _ b,by omega⟩
   split at h
   .rename_i h2
    split at h
    .rename_i h3;exact⟨hm.1,hm.2,h,h2,h3⟩
    .rename_i h3;exact absurd h h3
   .rename_i h2;exact absurd h h2
  .rename_i h1;exact absurd h h1
 .cases h
theorem so(a b:Mem):eB a b=true↔b.aI<a.aI\/(b.aI=a.aI/\(b.state<a.state\/(b.state=a.state/\(b.addr<a.addr\/(b.addr=a.addr/\(b.server=false/\a.server=true)))))):=by
 unfold eB uN;by_cases h1:a.aI=b.aI
 .rw[if_pos h1]
  by_cases h2:a.state=b.state
  .rw[if_pos h2]
   by_cases h3:a.addr=b.addr
   .rw[if_pos h3]
    cases ha:a.server<;>cases hb:b.server<;>simp<;>omega
   .rw[if_neg h3,decide_eq_true_eq]
    constructor
    .intro h;exact .inr ⟨h1.symm,.inr ⟨h2.symm,.inl h⟩⟩
    .rintro(h|⟨_,h|⟨_,h|⟨h,_⟩⟩⟩)<;>omega
  .rw[if_neg h2,decide_eq_true_eq]
   constructor
   .intro h;exact .inr ⟨h1.symm,.inl h⟩
   .rintro(h|⟨_,h|⟨h,_⟩⟩)<;>omega
 .rw[if_neg h1,decide_eq_true_eq]
  constructor
  .intro h;exact .inl h
  .rintro(h|⟨h,_⟩)<;>omega
theorem Bz{a b:Mem}(h:eB a b=true):eB b a=false:=by
 rw[so] at h;rcases hb:eB b a with _|_
 .rfl
 .rw[so] at hb
  rcases h with h|⟨h1,h|⟨h2,h|⟨h3,h4,h5⟩⟩⟩<;>rcases hb with g|⟨g1,g|⟨g2,g|⟨g3,g4,g5⟩⟩⟩<;>first|omega|(rw[h4] at g5;cases g5)
theorem Da{a b c:Mem}(h1:eB a b=false)(h2:eB b c=false):eB a c=false:=by
 rcases h3:eB a c with _|_
 .rfl
 .exfalso
  have g1:¬ eB a b=true:=by rw[h1];simp
  have g2:¬ eB b c=true:=by rw[h2];simp
  rw[so] at h3 g1 g2;by_cases l1:b.aI<a.aI
  .exact g1 (.inl l1)
  by_cases l2:c.aI<b.aI
  .exact g2 (.inl l2)
  rcases h3 with h|⟨e1,h⟩
  .omega
  have e2:b.aI=a.aI:=by omega
  have e3:c.aI=b.aI:=by omega
  by_cases s1:b.state<a.state
  .exact g1 (.inr ⟨e2,.inl s1⟩)
  by_cases s2:c.state<b.state
  .exact g2 (.inr ⟨e3,.inl s2⟩)
  rcases h with h|⟨f1,h⟩
  .omega
  have f2:b.state=a.state:=by omega
  have f3:c.state=b.state:=by omega
  by_cases a1:b.addr<a.addr
  .exact g1 (.inr ⟨e2,.inr ⟨f2,.inl a1⟩⟩)
  by_cases a2:c.addr<b.addr
  .exact g2 (.inr ⟨e3,.inr ⟨f3,.inl a2⟩⟩)
  rcases h with h|⟨k1,k4,k5⟩
  .omega
  have k2:b.addr=a.addr:=by omega
  have k3:c.addr=b.addr:=by omega
  rcases hb:b.server with _|_
  .exact g1 (.inr ⟨e2,.inr ⟨f2,.inr ⟨k2,hb,k5⟩⟩⟩)
  .exact g2 (.inr ⟨e3,.inr ⟨f3,.inr ⟨k3,k4,hb⟩⟩⟩)
def Le(ms ms':List Mem):Prop:=∀t k,cI ms t=AI k->∃k',cI ms' t=AI k'/\eB k k'=false
theorem Le.refl(ms:List Mem):Le ms ms:=λ_ k h=>⟨k,h,iy k⟩
theorem Le.trans{a b c:List Mem}(h:Le a b)(k:Le b c):Le a c:=λt x hx=>by
 obtain⟨y,hy,h1⟩:=h t x hx;obtain⟨z,hz,h2⟩:=k t y hy;exact⟨z,hz,Da h1 h2⟩
theorem MJ{ms:List Mem}(hr:bn ms)(m:Mem):Le ms (aP ms m):=λt k hk=>by
 by_cases ht:m.name=t
 .subst ht
  by_cases hh:aP ms m=ms
  .rw[hh];exact⟨k,hk,iy k⟩
  .refine⟨m,pM m ms hh,?_⟩
   have h1:=(pP hr m).2 hh;unfold qH at h1;rw[hk] at h1;exact Bz h1
 .rw[mQ m t ht ms];exact⟨k,hk,iy k⟩
theorem tA{x:Mem}{t:ByteArray}(hx:x.name≠t):∀(ms:List Mem) (p:Nat),(ms.getD p dm).name≠t->cI (ms.set p x) t=cI ms t
 |[],_,_=>rfl
 |y::r,0,h=>by
  have h:y.name≠t:=by simpa using h
  show cI (x::r) t=cI (y::r) t;rw[ej,ej,if_neg hx,if_neg h]
 |y::r,p+1,h=>by
  have h:(r.getD p dm).name≠t:=by simpa using h
  show cI (y::r.set p x) t=cI (y::r) t;rw[ej,ej,tA hx r p h]
theorem BA(k:Mem):eB k (cO k)=false:=by
 rcases h:eB k (cO k) with _|_
 .rfl
 .rw[so] at h
  have e:(cO k).aI=k.aI+1:=rfl;rw[e] at h;rcases h with h|⟨h,_⟩<;>omega
theorem tB{ms ms':List Mem}{r:bL}(h:Le ms ms')(ha:fk ms r=false):fk ms' r=false:=by
 unfold fk at ha ⊢;rcases hf:cI ms r.m.name with _|k
 .rw[hf] at ha;cases ha
 .rw[hf] at ha
  obtain⟨k',h1,h2⟩:=h _ _ hf;rw[h1];exact Da ha h2
theorem tC{ms:List Mem}{m:Mem}{i:Int}(h:cI ms m.name=AI m):fk ms ⟨m,i⟩=false:=by
 unfold fk;show(match cI ms m.name with|none=>true|some k=>eB m k)=false;rw[h];exact iy m
theorem Kd{n:Nd}(h:bj n.ms=0)(m:Mem):Le n.ms (iJ n m).ms:=by
 have hl:=MJ (af h).2.1 m;unfold iJ;split<;>exact hl
theorem PA{n:Nd}(h:bj n.ms=0):Le n.ms (uk n).ms:=by
 unfold uk;by_cases hR:iT n.ms (jC n) (oC n)=true
 .rw[if_pos hR]
  obtain⟨_,cv,hL,hM,_,hn,hp⟩:=pQ h hR;intro t k hk;show ∃k',cI (nS n) t=AI k'/\eB k k'=false;rw[hL];by_cases ht:n.name=t
  .subst ht
   have h1:=gz cv;rw[h1] at hk;injection hk with hk;refine⟨cO k,?_,BA k⟩;rw[gz (Bv cv (x:=cO (n.ms.getD (jC n) dm)) hn),<- hk];simp[Ip,hp]
  .rw[tA (x:=cO (n.ms.getD (jC n) dm)) (λe=>ht (hn.symm.trans e)) n.ms (jC n) (λe=>ht (hn.symm.trans e))]
   exact⟨k,hk,iy k⟩
 .rw[if_neg hR]
  have:nS n=n.ms:=by unfold nS tu;rw[if_neg hR]
  show Le n.ms (nS n);rw[this];exact Le.refl _
theorem Ke{n:Nd}{m:Mem}(h:Sp n)(hm:m.e=0)(h0:j7 n m=0):Le n.ms (mA n m).ms:=by
 unfold mA;have h1:=Kd h.ms m;split
 .exact h1.trans (PA (qI h.ms h.rs hm h0).1)
 .exact h1
theorem Nd.nP.pe{n:Nd}(h:n.nP):n.pE=0:=by
 unfold Nd.pE;rw[h.name,h.aD,if_pos (by rfl),if_pos h.ms,if_pos h.rs,if_pos h.sv,if_pos h.gw,if_pos h.p,h.wh]
theorem Kf{n n':Nd}(h:n.nP)(hs:Sp n')(hr:Rest n n'):n'.nP:=
 ⟨hs.name,by rw[hr.aD];exact h.aD,hs.ms,hs.rs,by rw[hr.sv];exact h.sv,by rw[hr.gw];exact h.gw,by rw[hr.p];exact h.p,by rw[hr.wh];exact h.wh⟩
theorem Kg{n:Nd}{m:Mem}(he:n.e=0)(hm:m.e=0)(h0:mm n m=0):(mA n m).e=0:=by
 have hp:=Nd.parts (Nd.aU he).1;have vc:Sp n:=⟨hp.ms,hp.rs,hp.name⟩;obtain⟨me,LM,s2,s3,hah⟩:=Nd.ko (Nd.aU he).2;have hS:=Kb vc hm h0;refine Nd.Sq (Kf hp hS (fT n m)).pe ?_;have hr:=(af hp.ms).2.1;have h1:j7 n m=0:=by
  unfold mm at h0;split at h0
  .rename_i h;exact h
  .rename_i h;exact absurd h0 h
 have hJ:(iJ n m).ms=aP n.ms m:=by unfold iJ;split<;>rfl
 have hle:=Kd hp.ms m;have Sr:∀r∈(iJ n m).rs,fk (iJ n m).ms r=false:=by
  intro r mj;rw[hJ];rw[hJ] at hle;by_cases hc:qH n.ms m=true
  .have oN:(iJ n m).rs=iw n.rs m:=by unfold iJ;rw[if_pos hc]
   rw[oN] at mj;rcases pO mj with h|rfl
   .exact tB hle (hah r h)
   .exact tC (pM m n.ms ((pP hr m).1 hc))
  .have oN:(iJ n m).rs=n.rs:=by unfold iJ;rw[if_neg hc]
   rw[oN] at mj;exact tB hle (hah r mj)
 by_cases hn:m.name=n.name
 .have hN:mA n m=uk (iJ n m):=by unfold mA;rw[if_pos hn]
  have h2:zx (iJ n m)=0:=by
   unfold mm at h0;rw[if_pos h1,if_pos hn] at h0;exact h0
  have MK:=qI hp.ms hp.rs hm h1;have cV:(iJ n m).name=n.name:=mS n m;rw[hN];obtain⟨k1,jq,_⟩:=hle _ _ LM;rw[<- cV] at jq;generalize iJ n m=n1 at *;have mB:=PA MK.1;have cv:=xp (af MK.1).2.1 n1.name;by_cases hR:iT n1.ms (jC n1) (oC n1)=true
  .obtain⟨_,ads,hL,hM,_,V2,vG⟩:=pQ MK.1 hR
   have hN2:uk n1={ n1 with ms:=nS n1,rs:=iw n1.rs (yt n1) }:=by unfold uk;rw[if_pos hR]
   rw[hN2] at mB ⊢;have hf:cI (nS n1) n1.name=AI (yt n1):=by
    rw[hL,gz (Bv ads (x:=cO (n1.ms.getD (jC n1) dm)) V2),hM];simp[Ip,vG]
   have hmn:(yt n1).name=n1.name:=by rw[hM];exact V2
   have oM:(yt n1).state=1:=by rw[hM];rfl
   refine Nd.Db (m:=yt n1) hf (by rw[oM];decide) (by rw[oM];decide) (λr mj=>?_);rcases pO mj with h|rfl
   .exact tB mB (Sr r h)
   .exact tC (by rw[hmn];exact hf)
  .have hN2:uk n1={ n1 with ms:=nS n1 }:=by unfold uk;rw[if_neg hR]
   have hL:nS n1=n1.ms:=by unfold nS tu;rw[if_neg hR]
   rw[hN2,hL];have hF:oC n1=true:=by
    rcases hF:oC n1 with _|_
    .have hF2:Sc n1.ms n1.name=false:=hF
     rw[hF2] at cv;have:=rv (af MK.1).2.1 cv;rw[jq] at this;cases this
    .rfl
   have hF2:Sc n1.ms n1.name=true:=hF;rw[hF2] at cv;have h5:=gz cv;rw[jq] at h5;injection h5 with h5;have hE:jw n1.ms (jC n1) (oC n1)=0:=by
    unfold zx at h2;split at h2
    .rename_i h;exact h
    .rename_i h;exact absurd h2 h
   have pD:¬ (k1.state=2\/k1.state=3):=by
    intro hb;have aJ:(decide ((n1.ms.getD (jC n1) dm).state=2)||decide ((n1.ms.getD (jC n1) dm).state=3))=true:=by
     have e:n1.ms.getD (jC n1) dm=k1:=h5.symm;rw[e];rcases hb with hb|hb<;>simp[hb]
    unfold iT at hR;unfold jw at hE;rw[hF,aJ] at hR hE;rcases hl:((n1.ms.getD (jC n1) dm).aI==1000000) with _|_
    .rw[hl] at hR;exact hR rfl
    .rw[hl] at hE;cases hE
   exact Nd.Db (m:=k1) jq (λe=>pD (.inl e)) (λe=>pD (.inr e)) Sr
 .have hN:mA n m=iJ n m:=by unfold mA;rw[if_neg hn]
  rw[hN];refine Nd.Db (m:=me) ?_ s2 s3 Sr;rw[hJ,mS,mQ m n.name hn n.ms];exact LM
theorem PC:∀(l:List Mem) (n:Nd),n.e=0->(∀m∈l,m.e=0)->qJ n l=0->(uZ n l).e=0
 |[],_,h,_,_=>h
 |x::r,n,h,hl,h0=>by
  rw[qJ] at h0;split at h0
  .rename_i h1
   exact PC r (mA n x) (Kg h (hl x (by simp)) h1) (λm hm=>hl m (by simp[hm])) h0
  .rename_i h1;exact absurd h0 h1
theorem xx{n:Nd}{m:Mem}(h:mm n m=0):j7 n m=0:=by
 unfold mm at h;split at h
 .rename_i h1;exact h1
 .rename_i h1;exact absurd h h1
theorem PD:∀(l:List Mem) (n:Nd),Sp n->(∀m∈l,m.e=0)->qJ n l=0->Le n.ms (uZ n l).ms
 |[],n,_,_,_=>Le.refl _
 |x::r,n,h,hl,h0=>by
  rw[qJ] at h0;split at h0
  .rename_i h1
   exact(Ke h (hl x (by simp)) (xx h1)).trans (PD r (mA n x) (Kb h (hl x (by simp)) h1) (λm hm=>hl m (by simp[hm])) h0)
  .rename_i h1;exact absurd h0 h1
def PE(wh:List Wh.bE)(x:Wh.bE):Int:=if 20<(Wh.aP wh x).length then 2 else 0
theorem En(L b:Nat)(n:Nd)(x:Wh.bE)(w:World)(h:Wk L w b n)(hL:L<=b)(hf:Wh.oB n.wh)(hx:x.ok) :
 Calls Tryz.prog 201 #[Ie (AI ⟨b,0,be⟩),Ij #[Y x.node,U O x.x,U O x.y,U O x.z,U O x.h,U O x.s]] w λe w'=>e=By (U O (PE n.wh x))/\Sh (λk=>k=b) w w'/\Hid (Wk L w' b { n with wh:=Wh.aP n.wh x }):=by
 have pN:Hid (Wk L w b n):=h;have aN:=h.lt;obtain⟨vm,vr,vs,vg,vw,h1,h2,h3,h4⟩:=h;have ml:Hid _:=h2.is h4;obtain⟨aw,cw,LH,_⟩:=aA h2.wh;subst LH;obtain⟨W1,cM,aB,fg,cK⟩:=bW w #[Y x.node,U O x.x,U O x.y,U O x.z,U O x.h,U O x.s] 116;have aV:Hid _:=aB;obtain⟨W3,ea⟩:∃W3,W3=((W1.alloc (AT #[Y x.node,U O x.x,U O x.y,U O x.z,U O x.h,U O x.s] 116)).alloc (AT #[J aw n.wh.length cw,J (AI ⟨W1.heap.size,0,be⟩) 1 1] 40)).drew:=⟨_,rfl⟩;have bV:Below w.heap.size w W3:=by rw[ea];exact((aB.alloc aB.size _).alloc (by simp;omega) _).drew
 have rP:W3.heap.size=W1.heap.size+2:=by rw[ea];simp
 have ji:W3.heap[W1.heap.size+1]?=AI (AT #[J aw n.wh.length cw,J (AI ⟨W1.heap.size,0,be⟩) 1 1] 40 (0,0)):=by
  have h:=Ih (W1.alloc (AT #[Y x.node,U O x.x,U O x.y,U O x.z,U O x.h,U O x.s] 116)) (AT #[J aw n.wh.length cw,J (AI ⟨W1.heap.size,0,be⟩) 1 1] 40);rw[ea,dB];simpa using h
 have Ss:W3.heap[W1.heap.size]?=AI (AT #[Y x.node,U O x.x,U O x.y,U O x.z,U O x.h,U O x.s] 116 (0,0)):=by
  rw[ea,dB,Below.heap_alloc _ _ _ (by simp)];exact Ih W1 _
 have Gh:Wh.Sl W3 (J (AI ⟨W1.heap.size,0,be⟩) 1 1) [x]:=by
  refine⟨_,_,rfl,Wh.cB (λm hm=>by simp at hm;rw[hm];exact hx),.inr ⟨_,0,rfl,by omega,λj hj=>?_⟩⟩;have ML:j=0:=by simpa using hj
  subst ML;exact⟨ae Ss 0,ae Ss 1,ae Ss 2,ae Ss 3,ae Ss 4,ae Ss 5⟩
 have HJ:Hid (Calls Tryz.prog 238 #[.func (.func 112) #[] #[],.func (.func 237) #[] #[],J (AI ⟨W1.heap.size+1,0,be⟩) 2 2] W3 λe w'=>∃p c,e=By (J p (Wh.aP n.wh x).length c)/\Hid (Wh.Own W3.heap.size w' (J p (Wh.aP n.wh x).length c) (Wh.aP n.wh x))/\Below W3.heap.size W3 w'):=by
  refine(Wh.iu n.wh [x] _ _ (W1.heap.size+1) 2 W3 (ml.out.wh.below bV) Gh (by omega) (ae ji 0) (ae ji 1) hf.len (by simp) hf.Eh).mono ?_;rintro e w' ⟨v',rfl,ho,hb⟩;obtain⟨p,c,rfl,_⟩:=aA ho;exact⟨p,c,rfl,ho,hb⟩
 have qG:Hid (∀w1 a k c,Below W3.heap.size W3 w1->Wh.Own W3.heap.size w1 (J a k c) (Wh.aP n.wh x)->Wk L (w1.setCell ⟨b,11,be⟩ (J a k c)) b { n with wh:=Wh.aP n.wh x }/\Sh (λk=>k=b) w (w1.setCell ⟨b,11,be⟩ (J a k c))/\w1.heap[b]?=AI (AT (dt n vm vr vs vg (J aw n.wh.length cw)) 90 (0,0))):=λw1 a k c PF LJ=>
  ⟨(pN.out.below bV).R0 (by have:=bV.size;omega) PF LJ (Wh.pL hf.ok hx),((Sh.of bV).next PF).setCell (S:=λk=>k=b) rfl _,((bV.trans (PF.mono bV.size)).block _ aN).trans h1⟩
 have HX:Hid (∀W,Below w.heap.size w W->W.heap[b]?=AI (AT (dt n vm vr vs vg (J aw n.wh.length cw)) 90 (0,0))):=λW hW=>(hW.block _ aN).trans h1;have HE:Hid (PE n.wh x=if 20<(Wh.aP n.wh x).length then 2 else 0):=rfl;generalize PE n.wh x=res at *;generalize Wh.aP n.wh x=HL at *;generalize iH:HL.length=kl at *;have HKL:Hid _:=iH;have y11:=ae (HX.out W1 aB) 11;clear iH h1 h2 h3 h4 hf hx Gh Ss ji rP bV aB;generalize n.wh.length=nl at *;obtain⟨x0,x1,x2,x3,x4,x5⟩:=x;simp only at cK cM ea;obtain⟨c0,c1,c2,c3,c4,c5⟩:=fm cK;have aj1:b<W1.heap.size:=by omega
 have aj2:w.heap.size<W1.heap.size:=by omega
 have V0:¬ b=W1.heap.size:=by omega
 have Sn:¬ w.heap.size=W1.heap.size:=by omega
 have aj3:¬ b=W1.heap.size+1:=by omega
 have aj4:¬ w.heap.size=W1.heap.size+1:=by omega
 have tv:Hid _:=fg;clear cK fg;go_enter Tryz.func201,Tryz.ntmps201;go_upto_region 2 with fail
 rw[<- cM];clear cM;go_region_with (first|(go_at_call 238;refine(show Calls _ _ _ _ _ by first|(rw[<- ea];exact HJ.out)|(have h:=HJ.out;rw[ea] at h;exact h)).mono ?_;rintro e w5 ⟨a,c,rfl,Py,jB⟩;obtain⟨i1,i2,i3⟩:=qG.out w5 a kl c jB Py.out;have HI1:Hid (Wk L (w5.setCell ⟨b,11,be⟩ (J a kl c)) b { n with wh:=HL }):=i1;have TT:Hid (Sh (λk=>k=b) w (w5.setCell ⟨b,11,be⟩ (J a kl c))):=i2;have z11:w5.cell? ⟨b,11,be⟩=AI (J aw nl cw):=ae i3 11;have zf:w5.frozen? ⟨b,11,be⟩=false:=an i3 11;clear Py jB i1 i2 i3))
 all_goals
  by_cases hk20:20<kl
  .have HR:Hid _:=HE.out.trans (if_pos hk20)
   have L5:(20:Int)<(kl:Int):=by omega
   clear hk20 HE;go_wp2_with fail;go_ret;exact⟨ai HR.out.symm,TT.out,HI1⟩
  .have HR:Hid _:=HE.out.trans (if_neg hk20)
   have L5:¬ (20:Int)<(kl:Int):=by omega
   clear hk20 HE;go_wp2_with fail;go_ret;exact⟨ai HR.out.symm,TT.out,HI1⟩
end Go.Proofs.YtfidhgjmifendaaGreatDoor
