import Derived.Test.YtfidhgjmifendaaGreatDoorng25
set_option maxHeartbeats 25600000
set_option maxRecDepth 100000
open Go renaming maxLen→Io,below_drewN→Jc,heap_alloc_new→Ii,redrawn→Iv,below_regrown→J1,cell_regrown→Ig
open Go.Value renaming pointer→If,agg→Ik,string→Y,int→U,bool→Ia,slice→J,tuple→Im
open Go.IntKind renaming i64→O
open Go.Ending renaming returned→AT
open Option renaming some→AI,none→be
open Go.Obj renaming cells→By
open Go.RowKit.Below renaming refl→Ib
open Array renaming getElem?_eq_some_iff→BY
open List renaming mem_of_mem_take→Je,length_set→IT,getD→Iq,pairwise_iff_getElem→I5
namespace Go.Proofs.YtfidhgjmifendaaGreatDoor
open Go.RowKit
theorem Kh{ms:List Mem}{m:Mem}(h:∀x∈ms,x.name.size<=Io)(hm:m.name.size<=Io):∀x∈aQ ms m,x.name.size<=Io:=λx hx=>by
 rcases fH ms m x hx with rfl|hx
 .exact hm
 .exact h x hx
theorem SB(n:Nd)(m:Mem):(jt n m).ms=aQ n.ms m:=by unfold jt;split<;>rfl
theorem mP(n:Nd)(m:Mem):(jt n m).name=n.name:=by unfold jt;split<;>rfl
theorem vL{ms:List Mem}{m:Mem}(h:bj ms=0)(hm:m.e=0)(hj:aE ms [m]=0):(aQ ms m).length<=20:=by
 rw[Ed h hm] at hj;split at hj
 .cases hj
 .omega
theorem qB{n:Nd}{m:Mem}(h:bj n.ms=0)(hr:dV n.rs=0)(hm:m.e=0)(h0:j7 n m=0):bj (jt n m).ms=0/\dV (jt n m).rs=0:=by
 unfold j7 at h0;split at h0
 .rename_i hj
  rw[SB];refine⟨Kg h hm (vL h hm hj),?_⟩;unfold jt;by_cases hc:qA n.ms m=true
  .rw[if_pos hc] at h0 ⊢
   exact zd hr hm h0
  .rw[if_neg hc];exact hr
 .rename_i hj;exact absurd h0 hj
theorem ox(L b:Nat)(n:Nd)(m:Mem)(w:World)(h:Wk L w b n)(hL:L<=b)(hU:bj n.ms=0)(nx:dV n.rs=0)(hl:ba n.name=true)(hm:m.e=0)(VT:m.name.size<=Io) :
 aF 63 #[If (AI ⟨b,0,be⟩),Ik #[Y m.name,U O m.state,U O m.aM,U O m.addr,Ia m.server]] w λe w'=>e=AT (U O (ma n m))/\Sh (λk=>k=b) w w'/\Hid (ma n m=0->Wk L w' b (nG n m)):=by
 have pD:Hid (Wk L w b n):=h;have aN:=h.lt;obtain⟨vm,vr,vs,vg,vw,h1,h2,h3,h4⟩:=h;have l9:Hid _:=h2.is h4;obtain⟨am,cm,nF,_⟩:=aA h2.ms;subst nF;have HHR:Hid (∀W,Below w.heap.size w W->aF 106 #[J am n.ms.length cm,Ik #[Y m.name,U O m.state,U O m.aM,U O m.addr,Ia m.server]] W λe w'=>∃a k c,e=AT (Im #[J a k c,Ia (decide (aE n.ms [m]=0)&&qA n.ms m),U O (aE n.ms [m])])/\Below W.heap.size W w'/\(aE n.ms [m]=0->Own W.heap.size w' (J a k c) (aQ n.ms m))):=λW hW=>by
  refine(Ki n.ms m _ W (l9.out.ms.below hW) VT).mono ?_;rintro e w' ⟨v',r,rfl,hb,hx,ho⟩;by_cases h0:aE n.ms [m]=0
  .obtain⟨yN,fB⟩:=ho h0
   obtain⟨a,c,rfl,_⟩:=aA yN;refine⟨a,_,c,?_,hb,λ_=>yN⟩;have e1:r=qA n.ms m:=by rw[Bool.eq_iff_iff,fB,pG (af hU).2.1]
   rw[e1,decide_eq_true h0,Bool.true_and]
  .obtain⟨rfl,rfl⟩:=hx h0
   exact⟨be,0,0,by rw[decide_eq_false h0,Bool.false_and],hb,λh=>absurd h h0⟩
 have tr:Hid (∀W w1 a k c,Below w.heap.size w W->Below W.heap.size W w1->(aE n.ms [m]=0->Own W.heap.size w1 (J a k c) (aQ n.ms m))->aE n.ms [m]=0->Wk L (w1.setCell ⟨b,2,be⟩ (J a k c)) b { n with ms:=aQ n.ms m }):=λW w1 a k c hW h1 h2 h0=>
  (pD.out.below hW).H5 (by have:=hW.size;omega) h1 (h2 h0) (Kh h4.ms VT)
 have HX:Hid (∀W,Below w.heap.size w W->W.heap[b]?=AI (By (dw n (J am n.ms.length cm) vr vs vg vw) 90 (0,0))):=λW hW=>(hW.block _ aN).trans h1;have MT:Hid (∀W,aE n.ms [m]=0->qA n.ms m=true->Wk L W b { n with ms:=aQ n.ms m }->aF 107 #[If (AI ⟨b,0,be⟩),Y m.name] W λe w'=>e=AT (U O (iy n.rs m))/\Sh (λk=>k=b) W w'/\(iy n.rs m=0->Wk L w' b { n with ms:=aQ n.ms m,rs:=ix n.rs m })):=λW hj hc hW=>
  tp L b { n with ms:=aQ n.ms m } m.name m W hW hL (by show(aQ n.ms m).length<=1000;have:=vL hU hm hj;omega) nx (kO (pC m n.ms ((pG (af hU).2.1 m).1 hc))) hm VT
 have HRF:Hid (∀W,j7 n m=0->Wk L W b (jt n m)->aF 108 #[If (AI ⟨b,0,be⟩)] W λe w'=>e=AT (U O (ze (jt n m)))/\Sh (λk=>k=b) W w'/\Hid (ze (jt n m)=0->Wk L w' b (vK (jt n m)))):=λW h0 hW=>
  Bw L b (jt n m) W hW hL (qB hU nx hm h0).1 (qB hU nx hm h0).2 (by rw[mP];exact hl)
 have MU:Hid (∀W,Wk L W b (jt n m)->W.cell? ⟨b,0,be⟩=AI (Y n.name)):=λW hW=>by
  obtain⟨_,_,_,_,_,g1,_⟩:=hW;rw[<- mP n m];exact ae g1 0
 have HEE:Hid (j7 n m≠0->ma n m=j7 n m):=λh=>by show ma n m=_;unfold ma;rw[if_neg h]
 have PD:Hid (j7 n m=0->m.name=n.name->ma n m=ze (jt n m)):=λh h2=>by show ma n m=_;unfold ma;rw[if_pos h,if_pos h2]
 have HEN:Hid (j7 n m=0->m.name≠n.name->ma n m=0):=λh h2=>by show ma n m=_;unfold ma;rw[if_pos h,if_neg h2]
 have HD1:Hid (aE n.ms [m]≠0->j7 n m=aE n.ms [m]):=λh=>by show j7 n m=_;unfold j7;rw[if_neg h]
 have TX:Hid (aE n.ms [m]=0->qA n.ms m=false->j7 n m=0/\jt n m={ n with ms:=aQ n.ms m }):=λh hc=>by
  show j7 n m=0/\jt n m=_;unfold j7 jt;rw[if_pos h,if_neg (by rw[hc];simp),if_neg (by rw[hc];simp)];exact⟨rfl,rfl⟩
 have HD3:Hid (aE n.ms [m]=0->qA n.ms m=true->j7 n m=iy n.rs m/\jt n m={ n with ms:=aQ n.ms m,rs:=ix n.rs m }):=λh hc=>by
  show j7 n m=_/\jt n m=_;unfold j7 jt;rw[if_pos h,if_pos hc,if_pos hc];exact⟨rfl,rfl⟩
 have HBM:Hid (∀W,Wk L W b { n with ms:=aQ n.ms m }->W.cell? ⟨b,0,be⟩=AI (Y n.name)):=λW hW=>by
  obtain⟨_,_,_,_,_,g1,_⟩:=hW;exact ae g1 0
 obtain⟨W0,bA,bM,eE,dF⟩:=bV w #[Y m.name,U O m.state,U O m.aM,U O m.addr,Ia m.server] 50;have cY:Hid _:=bM;obtain⟨x0,x1,x2,x3,x4⟩:=iZ dF;have y2:=ae (HX.out W0 bM) 2;have AM:Hid _:=dF;generalize ma n m=res at *;generalize CZ:n.ms.length=km at *;clear CZ h1 h2 h3 h4 hU nx dF bM;generalize aE n.ms [m]=je at *;generalize iy n.rs m=pe at *;generalize j7 n m=se at *;generalize qA n.ms m=cb at *;go_enter Tryz.func63,Tryz.ntmps63;go_upto_region 2 with fail
 rw[<- bA];clear bA;go_region_with (first|(go_at_call 106;refine(HHR.out _ cY.out.drew).mono ?_;rintro e w1 ⟨a,k,c,rfl,aB,yN⟩;have aY:Hid (Below W0.heap.size W0 w1):=(Ib W0.heap.size W0).drew.trans aB;have lz:Hid (je=0->Wk L (w1.setCell ⟨b,2,be⟩ (J a k c)) b { n with ms:=aQ n.ms m }):=tr.out _ _ a k c cY.out.drew aB yN;have hJ:=HX.out w1 (cY.out.trans (aY.out.mono cY.out.size));have z2:w1.cell? ⟨b,2,be⟩=AI (J am km cm):=ae hJ 2;have zf:w1.frozen? ⟨b,2,be⟩=false:=an hJ 2;have Gj:=(aY.out.block _ (show w.heap.size<W0.heap.size by omega)).trans AM.out;clear aB yN hJ))
 all_goals
  obtain⟨W2,bL⟩:∃W2,W2=w1.setCell ⟨b,2,be⟩ (J a k c):=⟨_,rfl⟩;rw[<- bL] at lz;have xi:Hid (Sh (λk=>k=b) w W2):=by rw[bL];exact(Sh.of (cY.out.trans (aY.out.mono cY.out.size))).setCell (S:=λk=>k=b) rfl _
  have mm:Hid (W2.heap[w.heap.size]?=AI (By #[Y m.name,U O m.state,U O m.aM,U O m.addr,Ia m.server] 50 (0,0))):=by rw[bL];exact(Below.heap_setCell _ _ _ _ (by simp only;omega)).trans Gj
  rw[<- bL];clear bL z2 zf y2 Gj x0 x1 x2 x3 x4;by_cases hj:je=0
  .cases cb
   .obtain⟨e1,e2⟩:=TX.out hj rfl
    have Ee:Hid (Wk L W2 b (jt n m)):=by rw[e2];exact lz.out hj
    subst hj;clear e2 lz HD1 TX HD3 MT HEE;have u0:=ae mm.out 0;have u1:=MU.out W2 Ee.out;by_cases dy:m.name=n.name
    .have hq:(m.name.toList !=n.name.toList)=false:=by rw[dy];simp
     have jX:(m.name.toList==n.name.toList)=true:=by rw[dy];simp
     have hq3:m.name.toList=n.name.toList:=by rw[dy]
     have HR:Hid _:=PD.out e1 dy;have HN:Hid (nG n m=vK (jt n m)):=by show nG n m=_;unfold nG;rw[if_pos dy]
     have iX:Hid (∀q,aF _ _ _ _):=λq=>HRF.out _ e1 (Ee.out.below (Jc (Ib _ _) q));clear dy;generalize ze (jt n m)=re at *;go_wp2_with fail;go_quiet (fail)
     go_wp2_with fail;refine(iX.out _).mono ?_;rintro e w7 ⟨rfl,PE,Mn⟩;have HS7:Hid _:=xi.out.trans ((Sh.of (Jc (Ib _ _) _)).trans PE);clear PE;go_wp2_with fail;go_ret;exact⟨ai HR.out.symm,HS7.out,λh=>by rw[HN.out];exact Mn.out (HR.out.symm.trans h)⟩
    .have hq:=(sE _ _).2 dy
     have jX:(m.name.toList==n.name.toList)=false:=by rw[jy,decide_eq_false dy]
     have HR:Hid _:=HEN.out e1 dy;have HN:Hid (nG n m=jt n m):=by show nG n m=_;unfold nG;rw[if_neg dy]
     clear dy;go_wp2_with fail;go_quiet (fail)
     go_wp2_with fail;go_ret;exact⟨ai HR.out.symm,xi.out.trans (Sh.of (Jc (Ib _ _) _)),λ_=>by rw[HN.out];exact Ee.out.below (Jc (Ib _ _) _)⟩
   .obtain⟨e1,e2⟩:=HD3.out hj rfl
    have MW:=lz.out hj;have HTC:Hid (aF _ _ _ _):=MT.out W2 hj rfl MW;have u0:=ae mm.out 0;subst hj;clear MW lz HD1 TX HD3 MT;go_wp2_with fail;refine HTC.out.mono ?_;rintro e w4 ⟨rfl,D8,TZ⟩;have MV:Hid _:=xi.out.trans D8;have VU:=(D8.block _ ((BY.1 mm.out).1) (by omega)).trans mm.out;have DP:Hid (pe=0->Wk L w4 b (jt n m)):=λh=>by rw[e2];exact TZ h
    have mm:Hid _:=VU;clear D8 TZ VU u0 HTC e2;by_cases hp:pe=0
    .have SC:Hid (Wk _ _ _ _):=DP.out hp
     have e3:=e1.trans hp;subst hp;clear DP e1 HEE;have u0:=ae mm.out 0;have u1:=MU.out w4 SC.out;by_cases dy:m.name=n.name
     .have hq:(m.name.toList !=n.name.toList)=false:=by rw[dy];simp
      have jX:(m.name.toList==n.name.toList)=true:=by rw[dy];simp
      have hq3:m.name.toList=n.name.toList:=by rw[dy]
      have HR:Hid _:=PD.out e3 dy;have HN:Hid (nG n m=vK (jt n m)):=by show nG n m=_;unfold nG;rw[if_pos dy]
      have iX:Hid (∀q,aF _ _ _ _):=λq=>HRF.out _ e3 (SC.out.below (Jc (Ib _ _) q));clear dy;generalize ze (jt n m)=re at *;go_wp2_with fail;go_quiet (fail)
      go_wp2_with fail;refine(iX.out _).mono ?_;rintro e w7 ⟨rfl,PE,Mn⟩;have HS7:Hid _:=MV.out.trans ((Sh.of (Jc (Ib _ _) _)).trans PE);clear PE;go_wp2_with fail;go_ret;exact⟨ai HR.out.symm,HS7.out,λh=>by rw[HN.out];exact Mn.out (HR.out.symm.trans h)⟩
     .have hq:=(sE _ _).2 dy
      have jX:(m.name.toList==n.name.toList)=false:=by rw[jy,decide_eq_false dy]
      have HR:Hid _:=HEN.out e3 dy;have HN:Hid (nG n m=jt n m):=by show nG n m=_;unfold nG;rw[if_neg dy]
      clear dy;go_wp2_with fail;go_quiet (fail)
      go_wp2_with fail;go_ret;exact⟨ai HR.out.symm,MV.out.trans (Sh.of (Jc (Ib _ _) _)),λ_=>by rw[HN.out];exact SC.out.below (Jc (Ib _ _) _)⟩
    .have hp':(pe !=0)=true:=by simpa using hp
     have HR:Hid _:=(HEE.out (by rw[e1];exact hp)).trans e1;have Be:Hid _:=hp;have u0:=ae mm.out 0;clear hp e1;go_wp2_with fail;go_quiet (fail)
     go_wp2_with fail;go_ret;exact⟨ai HR.out.symm,MV.out.trans (Sh.of (Jc (Ib _ _) _)),λh=>absurd (HR.out.symm.trans h) Be.out⟩
  .have Ef:(je !=0)=true:=by simpa using hj
   have hj2:=decide_eq_false hj;have e1:=HD1.out hj;have HR:Hid _:=(HEE.out (by rw[e1];exact hj)).trans e1;have Be:Hid _:=hj;clear hj e1 HD1 TX HD3;go_wp2_with fail;go_quiet (fail)
   go_wp2_with fail;go_ret;exact⟨ai HR.out.symm,xi.out.trans (Sh.of (Jc (Ib _ _) _)),λh=>absurd (HR.out.symm.trans h) Be.out⟩
def ts(n:Nd)(t:ByteArray)(cT to:Int):Int:=
 if ba t=true then(if(cK n.ms t).isSome=true then(if t=n.name then 6 else if(fc n.ms t).state=cT then ma n { fc n.ms t with state:=to } else 4) else 5) else 1
def zj(n:Nd)(t:ByteArray)(to:Int):Nd:=nG n { fc n.ms t with state:=to }
theorem sd{ms:List Mem}{t:ByteArray}(h:(cK ms t).isSome=true):fc ms t∈ms/\(fc ms t).name=t:=by
 obtain⟨m,hm⟩:=Option.isSome_iff_exists.1 h;rw[kO hm];exact pc hm
theorem tt(L b:Nat)(n:Nd)(t:ByteArray)(cT to:Int)(w:World)(h:Wk L w b n)(hL:L<=b)(hU:bj n.ms=0)(nx:dV n.rs=0)(hl:ba n.name=true)(ht:t.size<=Io)(VV:within to 1 4=true) :
 aF 41 #[If (AI ⟨b,0,be⟩),Y t,U O cT,U O to] w λe w'=>e=AT (U O (ts n t cT to))/\Sh (λk=>k=b) w w'/\Hid (ts n t cT to=0->Wk L w' b (zj n t to)):=by
 have pD:Hid (Wk L w b n):=h;have aN:=h.lt;obtain⟨vm,vr,vs,vg,vw,h1,h2,h3,h4⟩:=h;have l9:Hid _:=h2.is h4;obtain⟨am,cm,nF,_⟩:=aA h2.ms;subst nF;have D6:Hid (kt 67 #[If (AI ⟨b,0,be⟩),Y t] w (Im #[Ik #[Y (fc n.ms t).name,U O (fc n.ms t).state,U O (fc n.ms t).aM,U O (fc n.ms t).addr,Ia (fc n.ms t).server],Ia (cK n.ms t).isSome])):=
  iP b am n.ms.length cm n.ms t w (ae h1 2) l9.out.ms (by have:=(af hU).1;omega)
 have Aw:Hid ((cK n.ms t).isSome=true->∀W,Below w.heap.size w W->aF 63 #[If (AI ⟨b,0,be⟩),Ik #[Y (fc n.ms t).name,U O to,U O (fc n.ms t).aM,U O (fc n.ms t).addr,Ia (fc n.ms t).server]] W λe w'=>e=AT (U O (ma n { fc n.ms t with state:=to }))/\Sh (λk=>k=b) W w'/\Hid (ma n { fc n.ms t with state:=to }=0->Wk L w' b (zj n t to))):=λhs W hW=>by
  obtain⟨g1,g2⟩:=sd hs;have he:=(kC _).1 (lL hU _ g1);exact ox L b n { fc n.ms t with state:=to } W (pD.out.below hW) hL hU nx hl ((kC _).2 ⟨he.1,VV,he.2.2.1,he.2.2.2⟩) (show(fc n.ms t).name.size<=Io from h4.ms _ g1)
 have HX:Hid (∀W,Below w.heap.size w W->W.cell? ⟨b,0,be⟩=AI (Y n.name)):=λW hW=>ae ((hW.block _ aN).trans h1) 0;have HE:Hid (ts n t cT to=if ba t=true then(if(cK n.ms t).isSome=true then(if t=n.name then 6 else if(fc n.ms t).state=cT then ma n { fc n.ms t with state:=to } else 4) else 5) else 1):=rfl;generalize ts n t cT to=res at *;generalize ma n { fc n.ms t with state:=to }=se at *;clear h1 h2 h3 h4 hU nx;generalize(cK n.ms t).isSome=fd at *;generalize Ml:fc n.ms t=m at *;clear Ml;obtain⟨mn,st,lf,ad,sv⟩:=m;simp only at D6 Aw HE;go_enter Tryz.func41,Tryz.ntmps41;rcases hlab:ba t with _|_
 .have HR:Hid (res=1):=HE.out.trans (by rw[hlab];rfl)
  go_wp2_with (go_at_call 53;refine(bQ _ _ ht).mono ?_;rintro e w' ⟨rfl,rfl⟩;rw[hlab]);go_ret;exact⟨ai HR.out.symm,Sh.refl _ _,λh=>by have:=HR.out.symm.trans h;cases this⟩
 have kx:Hid (res=if fd=true then(if t=n.name then 6 else if st=cT then se else 4) else 5):=HE.out.trans (by rw[hlab];rfl);clear HE;go_wp2_with (first|(go_at_call 53;refine(bQ _ _ ht).mono ?_;rintro e w' ⟨rfl,PF⟩;have Gt:=PF.symm;subst Gt;rw[hlab])|fail);refine D6.out.mono ?_;rintro e w1 ⟨rfl,aB⟩;obtain⟨W2,bL⟩:∃W2,W2=w1.alloc (By #[Y mn,U O st,U O lf,U O ad,Ia sv] 50):=⟨_,rfl⟩;have aI:Below w.heap.size w W2:=by rw[bL];exact aB.alloc aB.size _
 have rB:w1.heap.size<W2.heap.size:=by rw[bL];simp
 have dS:W2.heap[w1.heap.size]?=AI (By #[Y mn,U O st,U O lf,U O ad,Ia sv] 50 (0,0)):=by rw[bL];exact Ii w1 _
 have bp:Hid _:=aI;have fh:=aB.size;obtain⟨x0,x1,x2,x3,x4⟩:=iZ dS;have zf:=an dS 1;have y0:=HX.out W2 aI;go_upto_region 4 with fail
 rw[<- bL];clear bL aB aI D6;cases fd
 .have HR:Hid (res=5):=kx.out.trans (by simp)
  go_wp2_with fail;go_ret;exact⟨ai HR.out.symm,Sh.of bp.out,λh=>by have:=HR.out.symm.trans h;cases this⟩
 by_cases dy:t=n.name
 .have HR:Hid (res=6):=kx.out.trans (by simp[dy])
  have hq:(t.toList==n.name.toList)=true:=by rw[dy];simp
  have jX:t.toList=n.name.toList:=by rw[dy]
  clear dy;go_wp2_with fail;go_ret;exact⟨ai HR.out.symm,Sh.of bp.out,λh=>by have:=HR.out.symm.trans h;cases this⟩
 have hq:(t.toList==n.name.toList)=false:=by rw[jy,decide_eq_false dy]
 by_cases oG:st=cT
 .have HR:Hid (res=se):=kx.out.trans (by simp[dy,oG])
  subst oG;have Kj:=λW hW=>Aw.out rfl W hW;clear dy kx;obtain⟨W3,ep⟩:∃W3,W3=W2.setCell ⟨w1.heap.size,1,be⟩ (U O to):=⟨_,rfl⟩;have cF:Hid (Below w.heap.size w W3):=by rw[ep];exact bp.out.setCell (p:=⟨w1.heap.size,1,be⟩) fh _
  have lh:W3.heap[w1.heap.size]?=AI (By #[Y mn,U O to,U O lf,U O ad,Ia sv] 50 (0,0)):=by rw[ep];exact Joins.block_setCell (i:=1) dS _
  obtain⟨v0,v1,v2,v3,v4⟩:=iZ lh;have SD:Hid (aF _ _ _ _):=Kj W3 cF.out;clear Kj lh dS;go_upto_region 11 with fail
  rw[<- ep];clear ep x0 x1 x2 x3 x4 zf y0;go_wp2_with fail;refine SD.out.mono ?_;rintro e w5 ⟨rfl,HU,AP⟩;have HS5:Hid _:=(Sh.of cF.out).trans HU;clear HU;go_wp2_with fail;go_ret;exact⟨ai HR.out.symm,HS5.out,λh=>AP.out (HR.out.symm.trans h)⟩
 .have HR:Hid (res=4):=kx.out.trans (by simp[dy,oG])
  have ady:(st !=cT)=true:=by simpa using oG
  clear dy oG kx;go_wp2_with fail;go_ret;exact⟨ai HR.out.symm,Sh.of bp.out,λh=>by have:=HR.out.symm.trans h;cases this⟩
theorem Sh.grown{S:Nat->Prop}{a w w':World}{row:Option Nat}(h:Sh S a w)(hg:w.grownBy w' row)(hr:∀k,row=AI k->S k):Sh S a w':=
 h.trans ⟨hg.os,hg.tape,hg.output,hg.size,λk hk hn=>hg.block k hk (λe=>hn (hr k e.symm))⟩
theorem Eg(L b:Nat)(n:Nd)(l:List Wh.bJ)(vx:Value)(w0 w:World)(h:Wk L w b n)(hL:L<=b)(hf:Wh.ow n.wh)(hx:Wh.Sl w0 vx l)(hB:Below w0.heap.size w0 w)(hBL:w0.heap.size<=L)(hll:l.length<=1000) :
 aF 66 #[If (AI ⟨b,0,be⟩),vx] w λe w'=>e=AT (Im #[])/\Sh (λk=>L<=k) w w'/\Wk L w' b { n with wh:=Bs n.wh l }:=by
 have pD:Hid (Wk L w b n):=h;have HB:Hid _:=hB;have HFI:Hid _:=hf;obtain⟨px,cx,rfl,T0,hxr⟩:=hx;have HXR:Hid _:=hxr;have HXS:Hid _:=T0;have HLO:Hid _:=Wh.dt T0;clear h hB hf T0 hxr;generalize hN:l.length=nl at *;have HN:Hid _:=hN;clear hN;go_enter Tryz.func66,Tryz.ntmps66;go_wp2_with fail;go_loopw [10] (λi wr=>∃k:Nat,k<=nl/\i=U O k/\Hid (Sh (λk=>L<=k) w wr)/\Hid (Wk L wr b { n with wh:=Bs n.wh (l.take k) })) (λi _=>nl-(intOf i).toNat)
 case atStart=>exact⟨0,Nat.zero_le _,rfl,Sh.refl _ _,pD⟩
 case round=>
  obtain⟨k,hk,rfl,xi,HW⟩:=hrel;by_cases aR:k<nl
  .obtain⟨b2,o2,hp,mo,hr⟩:∃b off,px=AI ⟨b,off,be⟩/\b<w0.heap.size/\Wh.Row w0 b off l:=by
    rcases HXR.out with h|h
    .have:=HN.out;rw[h] at this;simp at this;omega
    .exact h
   subst hp;have HBR:Hid _:=HB.out.trans (xi.out.below HB.out.size (λk hk=>by omega));obtain⟨c0,c1,c2,c3,c4,c5⟩:=(hr k (by rw[HN.out];exact aR)).eq (λo=>HBR.out.cell (p:=⟨b2,o,be⟩) mo);clear hr;have Eh:Hid (Wh.ow (Bs n.wh (l.take k))):=yY HFI.out (λm hm=>HLO.out m (Je hm));have sH:Hid _:=Ke n.wh l k (by rw[HN.out];exact aR);have hxo:=HXS.out k;generalize l.getD k Wh.dm=x at *;generalize gK:Bs n.wh (l.take k)=known at *;clear gK;obtain⟨p,f,cH⟩:=Wh.ku known Eh.out.Eb x;have fb:Hid _:=cH;have HAN:Hid _:=Sq Eh.out.Eb cH;clear cH;have hbr:=HW.out.lt;obtain⟨vm,vr,vs,vg,vw,h1,h2,h3,h4⟩:=HW.out;have Bi:Hid (Wh.Own _ _ _ _):=h2.wh;have HH3:Hid _:=h3;have HH4:Hid _:=h4;have HH2:Hid _:=h2;obtain⟨aw,cw,LU,hcw⟩:=aA h2.wh;simp only at LU hcw;subst LU;have HSW:Hid (Wh.Sl _ _ _):=h2.wh.sl (Wh.cy Eh.out.ok);have HKL:Hid _:=Eh.out.len;obtain⟨W1,cQ,aB,fh,cI⟩:=bV wr #[Y x.node,U O x.x,U O x.y,U O x.z,U O x.h,U O x.s] 116;have uJ:Hid _:=cI;have aY:Hid _:=aB;have jW:Hid (∀W,Below wr.heap.size wr W->W.heap[b]?=AI (By (dw { n with wh:=known } vm vr vs vg (J aw known.length cw)) 90 (0,0))):=λW hW=>(hW.block _ hbr).trans h1;obtain⟨x0,x1,x2,x3,x4,x5⟩:=fo cI;have y11:=ae (jW.out W1 aB) 11;have hFI:∀d os,aF 111 #[J aw known.length cw,Ik #[Y x.node,U O x.x,U O x.y,U O x.z,U O x.h,U O x.s],.func (.func 112) #[] #[]] (Go.Sort.grow (Iv W1 d) os) λe fD=>e=AT (Im #[U O p,Ia f])/\∃q:Regrown,fD=Go.Sort.grow (Iv W1 q.d) q.os:=λd os=>Calls.regrown_of ((Wh.fm known _ x _ (HSW.out.below (aB.trans ((J1 W1 d os).mono (by omega)))) (by have:=HKL.out;omega) Eh.out.Eb).mono (by
    rintro e w' ⟨p',f',rfl,hb,ha⟩;obtain⟨rfl,rfl⟩:=Wh.ed ha fb.out;exact⟨rfl,hb⟩))
   have F0:=Ig x0;have F1:=Ig x1;have F2:=Ig x2;have F3:=Ig x3;have F4:=Ig x4;have F5:=Ig x5;have G11:=Ig y11;clear h1 h2 h3 h4 cI aB x0 x1 x2 x3 x4 x5 y11;generalize iI:known.length=kl at *;have HKE:Hid _:=iI;clear iI;have agV:=HKL.out;go_upto_region 3 with fail
   rw[<- cQ];clear cQ c0 c1 c2 c3 c4 c5;refine wp_region_quiet_below (by kernel_rfl) (by kernel_rfl) ?_;repeat(quiet_step (exact hFI _ _))
   refine wpQuiet_nil ?_;intro _ zk;obtain⟨⟨dq,gT⟩,xj⟩:=zk;subst xj;have bp:Hid _:=aY.out.trans ((J1 W1 dq gT).mono (by omega));have wC:Hid _:=((J1 W1 dq gT).block _ (by omega)).trans uJ.out;clear hFI F0 F1 F2 F3 F4 F5 G11 uJ aY;generalize Go.Sort.grow (Iv W1 dq) gT=W2 at *;have y11:=ae (jW.out W2 bp.out) 11;have VW:Hid _:=xi.out.next bp.out;have Ee:Hid (Wk _ _ _ _):=HW.out.below bp.out;cases f
   rotate_left
   .have PD:Hid _:=sH.out.trans (by unfold uQ;rw[if_pos (.inl HAN.out)])
    go_wp2_with fail;go_roundw
    case rel=>exact⟨k+1,by omega,by go_num,VW,by rw[PD.out];exact Ee⟩
    case measure=>simp[intOf];omega
   .by_cases hk20:kl<20
    rotate_left
    .have PD:Hid _:=sH.out.trans (by unfold uQ;rw[if_pos (.inr (by rw[HKE.out];omega))])
     go_wp2_with fail;go_roundw
     case rel=>exact⟨k+1,by omega,by go_num,VW,by rw[PD.out];exact Ee⟩
     case measure=>simp[intOf];omega
    .have PD:Hid (Bs n.wh (l.take (k+1))=known.take p++x::known.drop p):=sH.out.trans (by
      unfold uQ
      rw[if_neg (by rw[HAN.out,HKE.out];intro h;rcases h with h|h;· cases h
                    .omega),Wh.da known x p false fb.out,if_neg (by simp)])
     have adA:Hid (∀m∈known.take p++x::known.drop p,m.ok):=λm hm=>by
      rcases List.mem_append.1 hm with hm|hm
      .exact Eh.out.ok m (Je hm)
      .rcases List.mem_cons.1 hm with rfl|hm
       .exact hxo
       .exact Eh.out.ok m (List.mem_of_mem_drop hm)
     have PC:p<=kl:=by have:=fb.out.le;rw[HKE.out] at this;exact this
     obtain⟨v0,v1,v2,v3,v4,v5⟩:=fo wC.out;obtain⟨W3,ep⟩:∃W3,W3=(W2.alloc (By #[Y x.node,U O x.x,U O x.y,U O x.z,U O x.h,U O x.s] 116)).drew:=⟨_,rfl⟩;have bU:Below wr.heap.size wr W3:=by rw[ep];exact(bp.out.alloc bp.out.size _).drew
     have akH:W3.heap.size=W2.heap.size+1:=by rw[ep];simp
     have akI:=bp.out.size;have lh:W3.heap[W2.heap.size]?=AI (By x.cs.toArray 116 (0,0)):=by rw[ep];exact Ii W2 _
     have HI:Hid (aF 113 #[J aw kl cw,U O p,J (AI ⟨W2.heap.size,0,be⟩) 1 1] W3 λe w'=>∃a q c,e=AT (J a q c)/\Wh.Own L w' (J a q c) (known.take p++x::known.drop p)/\W3.grownBy w' (J aw kl cw).ownBlock):=by
      refine(Wh.fk L p W2.heap.size _ known x W3 (Bi.out.below bU) fb.out.le (by rw[HKE.out];omega) (by omega) lh (λe=>by have:=((Bi.out.below bp.out).lt _ e).2;omega)).mono ?_;rintro e w' ⟨v',rfl,ho,hg⟩;obtain⟨a,c,rfl,_⟩:=aA ho;exact⟨a,_,c,rfl,ho,hg⟩
     have Sf:Hid (∀w5 a q c,Wh.Own L w5 (J a q c) (known.take p++x::known.drop p)->W3.grownBy w5 (J aw kl cw).ownBlock->Wk L (w5.setCell ⟨b,11,be⟩ (J a q c)) b { n with wh:=known.take p++x::known.drop p }/\Sh (λk=>L<=k) w (w5.setCell ⟨b,11,be⟩ (J a q c))/\w5.heap[b]?=AI (By (dw { n with wh:=known } vm vr vs vg (J aw kl cw)) 90 (0,0))):=λw5 a q c ho hg=>
      ⟨Wk.ins (n:={ n with wh:=known }) (jW.out W3 bU) (HH2.out.below bU) HH3.out HH4.out hg ho adA.out,
       ((xi.out.next bU).grown hg (λg Vn=>((Bi.out.below bU).lt g Vn).1)).setCell (S:=λk=>L<=k) hL _,
       (hg.block b (by have:=bU.size;omega) (λe=>HH3.out.2.2.2.2 e.symm)).trans (jW.out W3 bU)⟩
     have akJ:b<W2.heap.size:=by omega
     have akK:=(BY.1 wC.out).1;have VX:¬ b=W2.heap.size:=by omega
     have adB:¬ wr.heap.size=W2.heap.size:=by omega
     clear lh bU;go_upto_region 5 with fail
     go_region_with (first|(go_at_call 113;refine(show aF _ _ _ _ by first|(rw[<- ep];exact HI.out)|(have h:=HI.out;rw[ep] at h;exact h)).mono ?_;rintro e w5 ⟨a,q,c,rfl,PG,mQ⟩;obtain⟨i1,i2,i3⟩:=Sf.out w5 a q c PG mQ;have MX:Hid (Wk L (w5.setCell ⟨b,11,be⟩ (J a q c)) b { n with wh:=known.take p++x::known.drop p }):=i1;have TS:Hid (Sh (λk=>L<=k) w (w5.setCell ⟨b,11,be⟩ (J a q c))):=i2;have z11:w5.cell? ⟨b,11,be⟩=AI (J aw kl cw):=ae i3 11;have zf:w5.frozen? ⟨b,11,be⟩=false:=an i3 11;clear PG mQ i1 i2 i3))
     all_goals
      go_wp2_with fail;go_roundw
      case rel=>exact⟨k+1,by omega,by go_num,TS,by rw[PD.out];exact MX⟩
      case measure=>simp[intOf];omega
  .have gK:k=nl:=by omega
   subst gK;have rC:Hid (Wk L wr b { n with wh:=Bs n.wh l }):=by
    have h:=HW.out;rw[List.take_of_length_le (by rw[HN.out];exact Nat.le_refl _)] at h;exact h
   go_wp2_with fail;simp only[bodyPost,results,Tryz.results66];exact⟨trivial,Im #[],by simp,rfl,xi.out,rC.out⟩
theorem Kk{ms:List Mem}{p:Nat}{x:Mem}(hr:bl ms)(hx:x.name=(ms.getD p dm).name):bl (ms.set p x):=by
 have hn:∀j (h:j<ms.length),((ms.set p x)[j]'(by rw[IT];exact h)).name=ms[j].name:=λj h=>by
  rw[List.getElem_set];split
  .rename_i e;subst e;rw[hx];simp[Iq,List.getElem?_eq_getElem h]
  .rfl
 refine I5.2 λi j hi hj jG=>?_;rw[IT] at hi hj;rw[hn i hi,hn j hj];exact I5.1 hr i j hi hj jG
structure Sp(n:Nd):Prop where
 ms:bj n.ms=0
 rs:dV n.rs=0
 name:ba n.name=true
theorem VY{n:Nd}(h:Sp n)(h0:ze n=0):Sp (vK n):=by
 unfold ze at h0;unfold vK;by_cases hR:jb n.ms (jB n) (pH n)=true
 .obtain⟨f1,f2,f3,f4,f5,f6,f7⟩:=pI h.ms hR
  rw[if_pos (xh hR),if_pos hR] at h0;rw[if_pos hR];obtain⟨l1,l2,_⟩:=af h.ms;refine⟨jR ?_ ?_ ?_,zd h.rs f5 h0,h.name⟩
  .show(oI n).length<=20;rw[f3,IT];exact l1
  .show bl (oI n);rw[f3];exact Kk l2 rfl
  .intro m hm
   have hm:=hm;rw[f3] at hm;rcases List.mem_or_eq_of_mem_set hm with hm|rfl
   .exact lL h.ms m hm
   .rw[<- f4];exact f5
 .rw[if_neg hR]
  have:oI n=n.ms:=by unfold oI uS;rw[if_neg hR]
  rw[this];exact h
theorem Kl{n:Nd}{m:Mem}(h:Sp n)(hm:m.e=0)(h0:ma n m=0):Sp (nG n m):=by
 unfold ma at h0;split at h0
 .rename_i h1
  have h2:Sp (jt n m):=⟨(qB h.ms h.rs hm h1).1,(qB h.ms h.rs hm h1).2,by rw[mP];exact h.name⟩;unfold nG;by_cases hn:m.name=n.name
  .rw[if_pos hn] at h0 ⊢;exact VY h2 h0
  .rw[if_neg hn];exact h2
 .rename_i h1;exact absurd h0 h1
structure Rest(n n':Nd):Prop where
 name:n'.name=n.name
 aC:n'.aC=n.aC
 sv:n'.sv=n.sv
 gw:n'.gw=n.gw
 p:n'.p=n.p
 wh:n'.wh=n.wh
theorem Rest.refl(n:Nd):Rest n n:=⟨rfl,rfl,rfl,rfl,rfl,rfl⟩
theorem Rest.trans{a b c:Nd}(h:Rest a b)(k:Rest b c):Rest a c:=⟨k.name.trans h.name,k.aC.trans h.aC,k.sv.trans h.sv,k.gw.trans h.gw,k.p.trans h.p,k.wh.trans h.wh⟩
theorem MY(n:Nd):Rest n (vK n):=by unfold vK;split<;>exact⟨rfl,rfl,rfl,rfl,rfl,rfl⟩
theorem zl(n:Nd)(m:Mem):Rest n (jt n m):=by unfold jt;split<;>exact⟨rfl,rfl,rfl,rfl,rfl,rfl⟩
theorem ju(n:Nd)(m:Mem):Rest n (nG n m):=by
 unfold nG;split
 .exact(zl n m).trans (MY _)
 .exact zl n m
def qC:Nd->List Mem->Int
 |_,[]=>0
 |n,m::r=>if ma n m=0 then qC (nG n m) r else ma n m
def vM:Nd->List Mem->Nd
 |n,[]=>n
 |n,m::r=>vM (nG n m) r
theorem C8:∀(l:List Mem) (n:Nd) (m:Mem),vM n (l++[m])=nG (vM n l) m/\(qC n l=0->qC n (l++[m])=ma (vM n l) m)
 |[],n,m=>⟨rfl,λ_=>by
   show qC n [m]=ma n m;rw[qC];split
   .rename_i h;rw[h];rfl
   .rfl⟩
 |x::r,n,m=>by
  obtain⟨h1,h2⟩:=C8 r (nG n x) m;refine⟨h1,λh=>?_⟩;rw[qC] at h;split at h
  .rename_i h0
   show qC n (x::(r++[m]))=_;rw[qC,if_pos h0];exact h2 h
  .rename_i h0;exact absurd h h0
theorem Km:∀(l r:List Mem) (n:Nd),qC n l≠0->qC n (l++r)=qC n l
 |[],r,n,h=>absurd rfl h
 |x::l,r,n,h=>by
  show qC n (x::(l++r))=_;rw[qC] at h ⊢;rw[qC];split
  .rename_i h0;rw[if_pos h0] at h;exact Km l r _ h
  .rfl
theorem PH:∀(l:List Mem) (n:Nd),Sp n->(∀m∈l,m.e=0)->qC n l=0->Sp (vM n l)
 |[],n,h,_,_=>h
 |x::r,n,h,hl,h0=>by
  rw[qC] at h0;split at h0
  .rename_i h1
   exact PH r (nG n x) (Kl h (hl x (by simp)) h1) (λm hm=>hl m (by simp[hm])) h0
  .rename_i h1;exact absurd h0 h1
theorem xk:∀(l:List Mem) (n:Nd),Rest n (vM n l)
 |[],n=>Rest.refl n
 |x::r,n=>(ju n x).trans (xk r _)
def pJ(n:Nd)(p:Pk):Int:=
 if p.e=0 then(if qC n p.ms=0 then(if Sv.aE n.sv p.sv=0 then Gw.aE n.gw p.gw else Sv.aE n.sv p.sv) else qC n p.ms) else p.e
def rJ(n:Nd)(p:Pk):Nd:={ vM n p.ms with sv:=Sv.av n.sv p.sv,gw:=Gw.av n.gw p.gw,wh:=Bs n.wh p.wh }
theorem zn{p:Pk}(h:p.e=0):(∀m∈p.ms,m.e=0)/\p.ms.length<=20/\Wh.bj p.wh=0/\Sv.bj p.sv=0/\Gw.bj p.gw=0:=by
 unfold Pk.e at h;split at h
 .rename_i h0
  split at h
  .rename_i h1
   have hm:(∀m∈p.ms,m.e=0)/\p.ms.length<=20:=by
    unfold Pk.mE at h1;split at h1
    .exact⟨lL h1,(af h1).1⟩
    .obtain⟨a,b,_⟩:=vy h1
     exact⟨bb _ b,by omega⟩
   split at h
   .rename_i h2
    split at h
    .rename_i h3;exact⟨hm.1,hm.2,h,h2,h3⟩
    .rename_i h3;exact absurd h h3
   .rename_i h2;exact absurd h h2
  .rename_i h1;exact absurd h h1
 .cases h
theorem sf(a b:Mem):eH a b=true↔b.aM<a.aM\/(b.aM=a.aM/\(b.state<a.state\/(b.state=a.state/\(b.addr<a.addr\/(b.addr=a.addr/\(b.server=false/\a.server=true)))))):=by
 unfold eH oU;by_cases h1:a.aM=b.aM
 .rw[if_pos h1]
  by_cases h2:a.state=b.state
  .rw[if_pos h2]
   by_cases h3:a.addr=b.addr
   .rw[if_pos h3]
    cases ha:a.server<;>cases hb:b.server<;>simp<;>omega
   .rw[if_neg h3,decide_eq_true_eq]
    constructor
    .intro h;exact .inr ⟨h1.symm,.inr ⟨h2.symm,.inl h⟩⟩
    .rintro(h|⟨_,h|⟨_,h|⟨h,_⟩⟩⟩)<;>omega
  .rw[if_neg h2,decide_eq_true_eq]
   constructor
   .intro h;exact .inr ⟨h1.symm,.inl h⟩
   .rintro(h|⟨_,h|⟨h,_⟩⟩)<;>omega
 .rw[if_neg h1,decide_eq_true_eq]
  constructor
  .intro h;exact .inl h
  .rintro(h|⟨h,_⟩)<;>omega
theorem Bx{a b:Mem}(h:eH a b=true):eH b a=false:=by
 rw[sf] at h;rcases hb:eH b a with _|_
 .rfl
 .rw[sf] at hb
  rcases h with h|⟨h1,h|⟨h2,h|⟨h3,h4,h5⟩⟩⟩<;>rcases hb with g|⟨g1,g|⟨g2,g|⟨g3,g4,g5⟩⟩⟩<;>first|omega|(rw[h4] at g5;cases g5)
theorem C9{a b c:Mem}(h1:eH a b=false)(h2:eH b c=false):eH a c=false:=by
 rcases h3:eH a c with _|_
 .rfl
 .exfalso
  have g1:¬ eH a b=true:=by rw[h1];simp
  have g2:¬ eH b c=true:=by rw[h2];simp
  rw[sf] at h3 g1 g2;by_cases l1:b.aM<a.aM
  .exact g1 (.inl l1)
  by_cases l2:c.aM<b.aM
  .exact g2 (.inl l2)
  rcases h3 with h|⟨e1,h⟩
  .omega
  have e2:b.aM=a.aM:=by omega
  have e3:c.aM=b.aM:=by omega
  by_cases s1:b.state<a.state
  .exact g1 (.inr ⟨e2,.inl s1⟩)
  by_cases s2:c.state<b.state
  .exact g2 (.inr ⟨e3,.inl s2⟩)
  rcases h with h|⟨f1,h⟩
  .omega
  have f2:b.state=a.state:=by omega
  have f3:c.state=b.state:=by omega
  by_cases a1:b.addr<a.addr
  .exact g1 (.inr ⟨e2,.inr ⟨f2,.inl a1⟩⟩)
  by_cases a2:c.addr<b.addr
  .exact g2 (.inr ⟨e3,.inr ⟨f3,.inl a2⟩⟩)
  rcases h with h|⟨k1,k4,k5⟩
  .omega
  have k2:b.addr=a.addr:=by omega
  have k3:c.addr=b.addr:=by omega
  rcases hb:b.server with _|_
  .exact g1 (.inr ⟨e2,.inr ⟨f2,.inr ⟨k2,hb,k5⟩⟩⟩)
  .exact g2 (.inr ⟨e3,.inr ⟨f3,.inr ⟨k3,k4,hb⟩⟩⟩)
def Le(ms ms':List Mem):Prop:=∀t k,cK ms t=AI k->∃k',cK ms' t=AI k'/\eH k k'=false
theorem Le.refl(ms:List Mem):Le ms ms:=λ_ k h=>⟨k,h,iz k⟩
theorem Le.trans{a b c:List Mem}(h:Le a b)(k:Le b c):Le a c:=λt x hx=>by
 obtain⟨y,hy,h1⟩:=h t x hx;obtain⟨z,hz,h2⟩:=k t y hy;exact⟨z,hz,C9 h1 h2⟩
theorem MZ{ms:List Mem}(hr:bl ms)(m:Mem):Le ms (aQ ms m):=λt k hk=>by
 by_cases ht:m.name=t
 .subst ht
  by_cases hh:aQ ms m=ms
  .rw[hh];exact⟨k,hk,iz k⟩
  .refine⟨m,pC m ms hh,?_⟩
   have h1:=(pG hr m).2 hh;unfold qA at h1;rw[hk] at h1;exact Bx h1
 .rw[mN m t ht ms];exact⟨k,hk,iz k⟩
theorem tu{x:Mem}{t:ByteArray}(hx:x.name≠t):∀(ms:List Mem) (p:Nat),(ms.getD p dm).name≠t->cK (ms.set p x) t=cK ms t
 |[],_,_=>rfl
 |y::r,0,h=>by
  have h:y.name≠t:=by simpa using h
  show cK (x::r) t=cK (y::r) t;rw[ej,ej,if_neg hx,if_neg h]
 |y::r,p+1,h=>by
  have h:(r.getD p dm).name≠t:=by simpa using h
  show cK (y::r.set p x) t=cK (y::r) t;rw[ej,ej,tu hx r p h]
theorem Bz(k:Mem):eH k (cL k)=false:=by
 rcases h:eH k (cL k) with _|_
 .rfl
 .rw[sf] at h
  have e:(cL k).aM=k.aM+1:=rfl;rw[e] at h;rcases h with h|⟨h,_⟩<;>omega
theorem tv{ms ms':List Mem}{r:bK}(h:Le ms ms')(ha:fM ms r=false):fM ms' r=false:=by
 unfold fM at ha ⊢;rcases hf:cK ms r.m.name with _|k
 .rw[hf] at ha;cases ha
 .rw[hf] at ha
  obtain⟨k',h1,h2⟩:=h _ _ hf;rw[h1];exact C9 ha h2
theorem tw{ms:List Mem}{m:Mem}{i:Int}(h:cK ms m.name=AI m):fM ms ⟨m,i⟩=false:=by
 unfold fM;show(match cK ms m.name with|none=>true|some k=>eH m k)=false;rw[h];exact iz m
theorem Kn{n:Nd}(h:bj n.ms=0)(m:Mem):Le n.ms (jt n m).ms:=by
 have hl:=MZ (af h).2.1 m;unfold jt;split<;>exact hl
theorem PI{n:Nd}(h:bj n.ms=0):Le n.ms (vK n).ms:=by
 unfold vK;by_cases hR:jb n.ms (jB n) (pH n)=true
 .rw[if_pos hR]
  obtain⟨_,cH,hL,hM,_,hn,hp⟩:=pI h hR;intro t k hk;show ∃k',cK (oI n) t=AI k'/\eH k k'=false;rw[hL];by_cases ht:n.name=t
  .subst ht
   have h1:=gA cH;rw[h1] at hk;injection hk with hk;refine⟨cL k,?_,Bz k⟩;rw[gA (Bv cH (x:=cL (n.ms.getD (jB n) dm)) hn),<- hk];simp[Iq,hp]
  .rw[tu (x:=cL (n.ms.getD (jB n) dm)) (λe=>ht (hn.symm.trans e)) n.ms (jB n) (λe=>ht (hn.symm.trans e))]
   exact⟨k,hk,iz k⟩
 .rw[if_neg hR]
  have:oI n=n.ms:=by unfold oI uS;rw[if_neg hR]
  show Le n.ms (oI n);rw[this];exact Le.refl _
theorem Ko{n:Nd}{m:Mem}(h:Sp n)(hm:m.e=0)(h0:j7 n m=0):Le n.ms (nG n m).ms:=by
 unfold nG;have h1:=Kn h.ms m;split
 .exact h1.trans (PI (qB h.ms h.rs hm h0).1)
 .exact h1
theorem Nd.mL.pe{n:Nd}(h:n.mL):n.pE=0:=by
 unfold Nd.pE;rw[h.name,h.aC,if_pos (by rfl),if_pos h.ms,if_pos h.rs,if_pos h.sv,if_pos h.gw,if_pos h.p,h.wh]
theorem Kr{n n':Nd}(h:n.mL)(hs:Sp n')(hr:Rest n n'):n'.mL:=
 ⟨hs.name,by rw[hr.aC];exact h.aC,hs.ms,hs.rs,by rw[hr.sv];exact h.sv,by rw[hr.gw];exact h.gw,by rw[hr.p];exact h.p,by rw[hr.wh];exact h.wh⟩
theorem Ks{n:Nd}{m:Mem}(he:n.e=0)(hm:m.e=0)(h0:ma n m=0):(nG n m).e=0:=by
 have hp:=Nd.parts (Nd.bc he).1;have uT:Sp n:=⟨hp.ms,hp.rs,hp.name⟩;obtain⟨me,L1,s2,s3,hah⟩:=Nd.pK (Nd.bc he).2;have hS:=Kl uT hm h0;refine Nd.SE (Kr hp hS (ju n m)).pe ?_;have hr:=(af hp.ms).2.1;have h1:j7 n m=0:=by
  unfold ma at h0;split at h0
  .rename_i h;exact h
  .rename_i h;exact absurd h0 h
 have hU:(jt n m).ms=aQ n.ms m:=by unfold jt;split<;>rfl
 have hle:=Kn hp.ms m;have SF:∀r∈(jt n m).rs,fM (jt n m).ms r=false:=by
  intro r lg;rw[hU];rw[hU] at hle;by_cases hc:qA n.ms m=true
  .have nx:(jt n m).rs=ix n.rs m:=by unfold jt;rw[if_pos hc]
   rw[nx] at lg;rcases pF lg with h|rfl
   .exact tv hle (hah r h)
   .exact tw (pC m n.ms ((pG hr m).1 hc))
  .have nx:(jt n m).rs=n.rs:=by unfold jt;rw[if_neg hc]
   rw[nx] at lg;exact tv hle (hah r lg)
 by_cases hn:m.name=n.name
 .have hN:nG n m=vK (jt n m):=by unfold nG;rw[if_pos hn]
  have h2:ze (jt n m)=0:=by
   unfold ma at h0;rw[if_pos h1,if_pos hn] at h0;exact h0
  have M0:=qB hp.ms hp.rs hm h1;have dy:(jt n m).name=n.name:=mP n m;rw[hN];obtain⟨k1,jj,_⟩:=hle _ _ L1;rw[<- dy] at jj;generalize jt n m=n1 at *;have mo:=PI M0.1;have cH:=xe (af M0.1).2.1 n1.name;by_cases hR:jb n1.ms (jB n1) (pH n1)=true
  .obtain⟨_,adC,hL,hM,_,VZ,vC⟩:=pI M0.1 hR
   have hN2:vK n1={ n1 with ms:=oI n1,rs:=ix n1.rs (yf n1) }:=by unfold vK;rw[if_pos hR]
   rw[hN2] at mo ⊢;have hf:cK (oI n1) n1.name=AI (yf n1):=by
    rw[hL,gA (Bv adC (x:=cL (n1.ms.getD (jB n1) dm)) VZ),hM];simp[Iq,vC]
   have hmn:(yf n1).name=n1.name:=by rw[hM];exact VZ
   have oG:(yf n1).state=1:=by rw[hM];rfl
   refine Nd.Da (m:=yf n1) hf (by rw[oG];decide) (by rw[oG];decide) (λr lg=>?_);rcases pF lg with h|rfl
   .exact tv mo (SF r h)
   .exact tw (by rw[hmn];exact hf)
  .have hN2:vK n1={ n1 with ms:=oI n1 }:=by unfold vK;rw[if_neg hR]
   have hL:oI n1=n1.ms:=by unfold oI uS;rw[if_neg hR]
   rw[hN2,hL];have hF:pH n1=true:=by
    rcases hF:pH n1 with _|_
    .have hF2:TY n1.ms n1.name=false:=hF
     rw[hF2] at cH;have:=qY (af M0.1).2.1 cH;rw[jj] at this;cases this
    .rfl
   have hF2:TY n1.ms n1.name=true:=hF;rw[hF2] at cH;have h5:=gA cH;rw[jj] at h5;injection h5 with h5;have hE:jq n1.ms (jB n1) (pH n1)=0:=by
    unfold ze at h2;split at h2
    .rename_i h;exact h
    .rename_i h;exact absurd h2 h
   have pj:¬ (k1.state=2\/k1.state=3):=by
    intro hb;have aI:(decide ((n1.ms.getD (jB n1) dm).state=2)||decide ((n1.ms.getD (jB n1) dm).state=3))=true:=by
     have e:n1.ms.getD (jB n1) dm=k1:=h5.symm;rw[e];rcases hb with hb|hb<;>simp[hb]
    unfold jb at hR;unfold jq at hE;rw[hF,aI] at hR hE;rcases hl:((n1.ms.getD (jB n1) dm).aM==1000000) with _|_
    .rw[hl] at hR;exact hR rfl
    .rw[hl] at hE;cases hE
   exact Nd.Da (m:=k1) jj (λe=>pj (.inl e)) (λe=>pj (.inr e)) SF
 .have hN:nG n m=jt n m:=by unfold nG;rw[if_neg hn]
  rw[hN];refine Nd.Da (m:=me) ?_ s2 s3 SF;rw[hU,mP,mN m n.name hn n.ms];exact L1
theorem PJ:∀(l:List Mem) (n:Nd),n.e=0->(∀m∈l,m.e=0)->qC n l=0->(vM n l).e=0
 |[],_,h,_,_=>h
 |x::r,n,h,hl,h0=>by
  rw[qC] at h0;split at h0
  .rename_i h1
   exact PJ r (nG n x) (Ks h (hl x (by simp)) h1) (λm hm=>hl m (by simp[hm])) h0
  .rename_i h1;exact absurd h0 h1
theorem xl{n:Nd}{m:Mem}(h:ma n m=0):j7 n m=0:=by
 unfold ma at h;split at h
 .rename_i h1;exact h1
 .rename_i h1;exact absurd h h1
theorem PK:∀(l:List Mem) (n:Nd),Sp n->(∀m∈l,m.e=0)->qC n l=0->Le n.ms (vM n l).ms
 |[],n,_,_,_=>Le.refl _
 |x::r,n,h,hl,h0=>by
  rw[qC] at h0;split at h0
  .rename_i h1
   exact(Ko h (hl x (by simp)) (xl h1)).trans (PK r (nG n x) (Kl h (hl x (by simp)) h1) (λm hm=>hl m (by simp[hm])) h0)
  .rename_i h1;exact absurd h0 h1
def PM(wh:List Wh.bJ)(x:Wh.bJ):Int:=if 20<(Wh.aQ wh x).length then 2 else 0
theorem Ei(L b:Nat)(n:Nd)(x:Wh.bJ)(w:World)(h:Wk L w b n)(hL:L<=b)(hf:Wh.ow n.wh)(hx:x.ok) :
 Calls Tryz.prog 201 #[If (AI ⟨b,0,be⟩),Ik #[Y x.node,U O x.x,U O x.y,U O x.z,U O x.h,U O x.s]] w λe w'=>e=AT (U O (PM n.wh x))/\Sh (λk=>k=b) w w'/\Hid (Wk L w' b { n with wh:=Wh.aQ n.wh x }):=by
 have pD:Hid (Wk L w b n):=h;have aN:=h.lt;obtain⟨vm,vr,vs,vg,vw,h1,h2,h3,h4⟩:=h;have l9:Hid _:=h2.is h4;obtain⟨aw,cw,LU,_⟩:=aA h2.wh;subst LU;obtain⟨W1,cQ,aB,fh,cI⟩:=bV w #[Y x.node,U O x.x,U O x.y,U O x.z,U O x.h,U O x.s] 116;have aY:Hid _:=aB;obtain⟨W3,ep⟩:∃W3,W3=((W1.alloc (By #[Y x.node,U O x.x,U O x.y,U O x.z,U O x.h,U O x.s] 116)).alloc (By #[J aw n.wh.length cw,J (AI ⟨W1.heap.size,0,be⟩) 1 1] 40)).drew:=⟨_,rfl⟩;have bU:Below w.heap.size w W3:=by rw[ep];exact((aB.alloc aB.size _).alloc (by simp;omega) _).drew
 have rI:W3.heap.size=W1.heap.size+2:=by rw[ep];simp
 have lh:W3.heap[W1.heap.size+1]?=AI (By #[J aw n.wh.length cw,J (AI ⟨W1.heap.size,0,be⟩) 1 1] 40 (0,0)):=by
  have h:=Ii (W1.alloc (By #[Y x.node,U O x.x,U O x.y,U O x.z,U O x.h,U O x.s] 116)) (By #[J aw n.wh.length cw,J (AI ⟨W1.heap.size,0,be⟩) 1 1] 40);rw[ep,dA];simpa using h
 have SG:W3.heap[W1.heap.size]?=AI (By #[Y x.node,U O x.x,U O x.y,U O x.z,U O x.h,U O x.s] 116 (0,0)):=by
  rw[ep,dA,Below.heap_alloc _ _ _ (by simp)];exact Ii W1 _
 have Gr:Wh.Sl W3 (J (AI ⟨W1.heap.size,0,be⟩) 1 1) [x]:=by
  refine⟨_,_,rfl,Wh.cy (λm hm=>by simp at hm;rw[hm];exact hx),.inr ⟨_,0,rfl,by omega,λj hj=>?_⟩⟩;have PN:j=0:=by simpa using hj
  subst PN;exact⟨ae SG 0,ae SG 1,ae SG 2,ae SG 3,ae SG 4,ae SG 5⟩
 have HJ:Hid (Calls Tryz.prog 238 #[.func (.func 112) #[] #[],.func (.func 237) #[] #[],J (AI ⟨W1.heap.size+1,0,be⟩) 2 2] W3 λe w'=>∃p c,e=AT (J p (Wh.aQ n.wh x).length c)/\Hid (Wh.Own W3.heap.size w' (J p (Wh.aQ n.wh x).length c) (Wh.aQ n.wh x))/\Below W3.heap.size W3 w'):=by
  refine(Wh.iv n.wh [x] _ _ (W1.heap.size+1) 2 W3 (l9.out.wh.below bU) Gr (by omega) (ae lh 0) (ae lh 1) hf.len (by simp) hf.Eb).mono ?_;rintro e w' ⟨v',rfl,ho,hb⟩;obtain⟨p,c,rfl,_⟩:=aA ho;exact⟨p,c,rfl,ho,hb⟩
 have tq:Hid (∀w1 a k c,Below W3.heap.size W3 w1->Wh.Own W3.heap.size w1 (J a k c) (Wh.aQ n.wh x)->Wk L (w1.setCell ⟨b,11,be⟩ (J a k c)) b { n with wh:=Wh.aQ n.wh x }/\Sh (λk=>k=b) w (w1.setCell ⟨b,11,be⟩ (J a k c))/\w1.heap[b]?=AI (By (dw n vm vr vs vg (J aw n.wh.length cw)) 90 (0,0))):=λw1 a k c L2 Hx=>
  ⟨(pD.out.below bU).Si (by have:=bU.size;omega) L2 Hx (Wh.pt hf.ok hx),((Sh.of bU).next L2).setCell (S:=λk=>k=b) rfl _,((bU.trans (L2.mono bU.size)).block _ aN).trans h1⟩
 have HX:Hid (∀W,Below w.heap.size w W->W.heap[b]?=AI (By (dw n vm vr vs vg (J aw n.wh.length cw)) 90 (0,0))):=λW hW=>(hW.block _ aN).trans h1;have HE:Hid (PM n.wh x=if 20<(Wh.aQ n.wh x).length then 2 else 0):=rfl;generalize PM n.wh x=res at *;generalize Wh.aQ n.wh x=HL at *;generalize iI:HL.length=kl at *;have HKL:Hid _:=iI;have y11:=ae (HX.out W1 aB) 11;clear iI h1 h2 h3 h4 hf hx Gr SG lh rI bU aB;generalize n.wh.length=nl at *;obtain⟨x0,x1,x2,x3,x4,x5⟩:=x;simp only at cI cQ ep;obtain⟨c0,c1,c2,c3,c4,c5⟩:=fo cI;have akM:b<W1.heap.size:=by omega
 have akN:w.heap.size<W1.heap.size:=by omega
 have VX:¬ b=W1.heap.size:=by omega
 have adB:¬ w.heap.size=W1.heap.size:=by omega
 have akO:¬ b=W1.heap.size+1:=by omega
 have akP:¬ w.heap.size=W1.heap.size+1:=by omega
 have tr:Hid _:=fh;clear cI fh;go_enter Tryz.func201,Tryz.ntmps201;go_upto_region 2 with fail
 rw[<- cQ];clear cQ;go_region_with (first|(go_at_call 238;refine(show Calls _ _ _ _ _ by first|(rw[<- ep];exact HJ.out)|(have h:=HJ.out;rw[ep] at h;exact h)).mono ?_;rintro e w5 ⟨a,c,rfl,PG,jz⟩;obtain⟨i1,i2,i3⟩:=tq.out w5 a kl c jz PG.out;have MX:Hid (Wk L (w5.setCell ⟨b,11,be⟩ (J a kl c)) b { n with wh:=HL }):=i1;have TS:Hid (Sh (λk=>k=b) w (w5.setCell ⟨b,11,be⟩ (J a kl c))):=i2;have z11:w5.cell? ⟨b,11,be⟩=AI (J aw nl cw):=ae i3 11;have zf:w5.frozen? ⟨b,11,be⟩=false:=an i3 11;clear PG jz i1 i2 i3))
 all_goals
  by_cases hk20:20<kl
  .have HR:Hid _:=HE.out.trans (if_pos hk20)
   have yI:(20:Int)<(kl:Int):=by omega
   clear hk20 HE;go_wp2_with fail;go_ret;exact⟨ai HR.out.symm,TS.out,MX⟩
  .have HR:Hid _:=HE.out.trans (if_neg hk20)
   have yI:¬ (20:Int)<(kl:Int):=by omega
   clear hk20 HE;go_wp2_with fail;go_ret;exact⟨ai HR.out.symm,TS.out,MX⟩
end Go.Proofs.YtfidhgjmifendaaGreatDoor
