import Derived.Test.YtfidjlcdlakceaaGreatDoortf31
import Derived.Test.YtfidjlcdlakceaaGreatDoortf32
import Derived.Test.YtfidjlcdlakceaaGreatDoortf14
set_option maxHeartbeats 25600000
set_option maxRecDepth 100000
open Go.Value renaming pointer→If,string→I,int→O,bool→AI,slice→U
open Go.IntKind renaming i64→J
open Go.Ending renaming returned→sh
open Option renaming some→Z,none→Y
open Go.RowKit.Below renaming refl→Ib
open List renaming length_set→Jb,pairwise_iff_getElem→Jh
namespace Go.Proofs.YtfidjlcdlakceaaGreatDoor
open Go.RowKit
theorem PZ{ms:List Mem}{m:Mem}(h:∀x∈ms,x.name.size<=maxLen)(hm:m.name.size<=maxLen):∀x∈aZ ms m,x.name.size<=maxLen:=λx hx=>by
 rcases gX ms m x hx with rfl|hx
 .exact hm
 .exact h x hx
theorem aa9(n:Nd)(m:Mem):(nD n m).ms=aZ n.ms m:=by unfold nD;split<;>rfl
theorem uK(n:Nd)(m:Mem):(nD n m).name=n.name:=by unfold nD;split<;>rfl
theorem xK{ms:List Mem}{m:Mem}(h:ba ms=0)(hm:m.e=0)(hj:aA ms [m]=0):(aZ ms m).length<=20:=by
 rw[Kl h hm] at hj;split at hj
 .cases hj
 .omega
theorem zo{n:Nd}{m:Mem}(h:ba n.ms=0)(hr:ee n.rs=0)(hm:m.e=0)(h0:lr n m=0):ba (nD n m).ms=0/\ee (nD n m).rs=0:=by
 unfold lr at h0;split at h0
 .rename_i hj
  rw[aa9];refine⟨PW h hm (xK h hm hj),?_⟩;unfold nD;by_cases hc:uH n.ms m=true
  .rw[if_pos hc] at h0 ⊢
   exact Bs hr hm h0
  .rw[if_neg hc];exact hr
 .rename_i hj;exact absurd h0 hj
theorem oF(L b:Nat)(n:Nd)(m:Mem)(w:World)(h:Wk L w b n)(hL:L<=b)(j5:ba n.ms=0)(sX:ee n.rs=0)(hl:aN n.name=true)(hm:m.e=0)(hmz:m.name.size<=maxLen) :
 aP 95 #[If (Z ⟨b,0,Y⟩),.agg #[I m.name,O J m.state,O J m.aX,O J m.addr,AI m.server]] w λe w'=>e=sh (O J (nE n m))/\Sh (λk=>k=b) w w'/\Hid (nE n m=0->Wk L w' b (sZ n m)):=by
 have sA:Hid (Wk L w b n):=h;have aU:=h.lt;obtain⟨vm,vr,vs,vg,vw,h1,h2,h3,h4⟩:=h;have ze:Hid _:=h2.is h4;obtain⟨am,cm,sG,_⟩:=az h2.ms;subst sG;have HHR:Hid (∀W,Below w.heap.size w W->aP 144 #[U am n.ms.length cm,.agg #[I m.name,O J m.state,O J m.aX,O J m.addr,AI m.server]] W λe w'=>∃a k c,e=sh (.tuple #[U a k c,AI (decide (aA n.ms [m]=0)&&uH n.ms m),O J (aA n.ms [m])])/\Below W.heap.size W w'/\(aA n.ms [m]=0->Own W.heap.size w' (U a k c) (aZ n.ms m))):=λW hW=>by
  refine(MK n.ms m _ W (ze.out.ms.below hW) hmz).mono ?_;rintro e w' ⟨v',r,rfl,hb,hx,ho⟩;by_cases h0:aA n.ms [m]=0
  .obtain⟨wY,ly⟩:=ho h0
   obtain⟨a,c,rfl,_⟩:=az wY;refine⟨a,_,c,?_,hb,λ_=>wY⟩;have e1:r=uH n.ms m:=by rw[Bool.eq_iff_iff,ly,Bu (aF j5).2.1]
   rw[e1,decide_eq_true h0,Bool.true_and]
  .obtain⟨rfl,rfl⟩:=hx h0
   exact⟨Y,0,0,by rw[decide_eq_false h0,Bool.false_and],hb,λh=>absurd h h0⟩
 have CB:Hid (∀W w1 a k c,Below w.heap.size w W->Below W.heap.size W w1->(aA n.ms [m]=0->Own W.heap.size w1 (U a k c) (aZ n.ms m))->aA n.ms [m]=0->Wk L (w1.setCell ⟨b,2,Y⟩ (U a k c)) b { n with ms:=aZ n.ms m }):=λW w1 a k c hW h1 h2 h0=>
  (sA.out.below hW).PO (by have:=hW.size;omega) h1 (h2 h0) (PZ h4.ms hmz)
 have HX:Hid (∀W,Below w.heap.size w W->W.heap[b]?=Z (.cells (fD n (U am n.ms.length cm) vr vs vg vw) 81 (0,0))):=λW hW=>(hW.block _ aU).trans h1;have Vs:Hid (∀W,aA n.ms [m]=0->uH n.ms m=true->Wk L W b { n with ms:=aZ n.ms m }->aP 145 #[If (Z ⟨b,0,Y⟩),I m.name] W λe w'=>e=sh (O J (gW n.rs m))/\Sh (λk=>k=b) W w'/\(gW n.rs m=0->Wk L w' b { n with ms:=aZ n.ms m,rs:=iF n.rs m })):=λW hj hc hW=>
  uG L b { n with ms:=aZ n.ms m } m.name m W hW hL (by show(aZ n.ms m).length<=1000;have:=xK j5 hm hj;omega) sX (kG (Bo m n.ms ((Bu (aF j5).2.1 m).1 hc))) hm hmz
 have HRF:Hid (∀W,lr n m=0->Wk L W b (nD n m)->aP 146 #[If (Z ⟨b,0,Y⟩)] W λe w'=>e=sh (O J (DU (nD n m)))/\Sh (λk=>k=b) W w'/\Hid (DU (nD n m)=0->Wk L w' b (Ko (nD n m)))):=λW h0 hW=>
  DV L b (nD n m) W hW hL (zo j5 sX hm h0).1 (zo j5 sX hm h0).2 (by rw[uK];exact hl)
 have HNM:Hid (∀W,Wk L W b (nD n m)->W.cell? ⟨b,0,Y⟩=Z (I n.name)):=λW hW=>by
  obtain⟨_,_,_,_,_,g1,_⟩:=hW;rw[<- uK n m];exact af g1 0
 have XZ:Hid (lr n m≠0->nE n m=lr n m):=λh=>by show nE n m=_;unfold nE;rw[if_neg h]
 have Xa:Hid (lr n m=0->m.name=n.name->nE n m=DU (nD n m)):=λh h2=>by show nE n m=_;unfold nE;rw[if_pos h,if_pos h2]
 have HEN:Hid (lr n m=0->m.name≠n.name->nE n m=0):=λh h2=>by show nE n m=_;unfold nE;rw[if_pos h,if_neg h2]
 have jF:Hid (aA n.ms [m]≠0->lr n m=aA n.ms [m]):=λh=>by show lr n m=_;unfold lr;rw[if_neg h]
 have lQ:Hid (aA n.ms [m]=0->uH n.ms m=false->lr n m=0/\nD n m={ n with ms:=aZ n.ms m }):=λh hc=>by
  show lr n m=0/\nD n m=_;unfold lr nD;rw[if_pos h,if_neg (by rw[hc];simp),if_neg (by rw[hc];simp)];exact⟨rfl,rfl⟩
 have GX:Hid (aA n.ms [m]=0->uH n.ms m=true->lr n m=gW n.rs m/\nD n m={ n with ms:=aZ n.ms m,rs:=iF n.rs m }):=λh hc=>by
  show lr n m=_/\nD n m=_;unfold lr nD;rw[if_pos h,if_pos hc,if_pos hc];exact⟨rfl,rfl⟩
 have HBM:Hid (∀W,Wk L W b { n with ms:=aZ n.ms m }->W.cell? ⟨b,0,Y⟩=Z (I n.name)):=λW hW=>by
  obtain⟨_,_,_,_,_,g1,_⟩:=hW;exact af g1 0
 obtain⟨W0,dK,df,nP,dt⟩:=cR w #[I m.name,O J m.state,O J m.aX,O J m.addr,AI m.server] 70;have dy:Hid _:=df;obtain⟨x0,x1,x2,x3,x4⟩:=zd dt;have y2:=af (HX.out W0 df) 2;have wB:Hid _:=dt;generalize nE n m=res at *;generalize vu:n.ms.length=km at *;clear vu h1 h2 h3 h4 j5 sX dt df;generalize aA n.ms [m]=je at *;generalize gW n.rs m=pe at *;generalize lr n m=se at *;generalize uH n.ms m=cb at *;go_enter Tryz.func95,Tryz.ntmps95;go_upto_region 2 with fail
 rw[<- dK];clear dK;go_region_with (first|(go_at_call 144;refine(HHR.out _ dy.out.drew).mono ?_;rintro e w1 ⟨a,k,c,rfl,al,wY⟩;have aR:Hid (Below W0.heap.size W0 w1):=(Ib W0.heap.size W0).drew.trans al;have j7:Hid (je=0->Wk L (w1.setCell ⟨b,2,Y⟩ (U a k c)) b { n with ms:=aZ n.ms m }):=CB.out _ _ a k c dy.out.drew al wY;have eu:=HX.out w1 (dy.out.trans (aR.out.mono dy.out.size));have z2:w1.cell? ⟨b,2,Y⟩=Z (U am km cm):=af eu 2;have zf:w1.frozen? ⟨b,2,Y⟩=false:=dZ eu 2;have kO:=(aR.out.block _ (show w.heap.size<W0.heap.size by omega)).trans wB.out;clear al wY eu))
 all_goals
  obtain⟨W2,eX⟩:∃W2,W2=w1.setCell ⟨b,2,Y⟩ (U a k c):=⟨_,rfl⟩;rw[<- eX] at j7;have zk:Hid (Sh (λk=>k=b) w W2):=by rw[eX];exact(Sh.of (dy.out.trans (aR.out.mono dy.out.size))).setCell (S:=λk=>k=b) rfl _
  have CO:Hid (W2.heap[w.heap.size]?=Z (.cells #[I m.name,O J m.state,O J m.aX,O J m.addr,AI m.server] 70 (0,0))):=by rw[eX];exact(Below.heap_setCell _ _ _ _ (by simp only;omega)).trans kO
  rw[<- eX];clear eX z2 zf y2 kO x0 x1 x2 x3 x4;by_cases hj:je=0
  .cases cb
   .obtain⟨e1,e2⟩:=lQ.out hj rfl
    have Kw:Hid (Wk L W2 b (nD n m)):=by rw[e2];exact j7.out hj
    subst hj;clear e2 j7 jF lQ GX Vs XZ;have u0:=af CO.out 0;have u1:=HNM.out W2 Kw.out;by_cases ft:m.name=n.name
    .have hq:(m.name.toList !=n.name.toList)=false:=by rw[ft];simp
     have hq2:(m.name.toList==n.name.toList)=true:=by rw[ft];simp
     have hq3:m.name.toList=n.name.toList:=by rw[ft]
     have HR:Hid _:=Xa.out e1 ft;have HN:Hid (sZ n m=Ko (nD n m)):=by show sZ n m=_;unfold sZ;rw[if_pos ft]
     have Hj:Hid (∀q,aP _ _ _ _):=λq=>HRF.out _ e1 (Kw.out.below (below_drewN (Ib _ _) q));clear ft;generalize DU (nD n m)=re at *;go_wp2_with fail;go_quiet (fail)
     go_wp2_with fail;refine(Hj.out _).mono ?_;rintro e w7 ⟨rfl,hs7,pY⟩;have xD:Hid _:=zk.out.trans ((Sh.of (below_drewN (Ib _ _) _)).trans hs7);clear hs7;go_wp2_with fail;go_ret;exact⟨aj HR.out.symm,xD.out,λh=>by rw[HN.out];exact pY.out (HR.out.symm.trans h)⟩
    .have hq:=(uy _ _).2 ft
     have hq2:(m.name.toList==n.name.toList)=false:=by rw[kF,decide_eq_false ft]
     have HR:Hid _:=HEN.out e1 ft;have HN:Hid (sZ n m=nD n m):=by show sZ n m=_;unfold sZ;rw[if_neg ft]
     clear ft;go_wp2_with fail;go_quiet (fail)
     go_wp2_with fail;go_ret;exact⟨aj HR.out.symm,zk.out.trans (Sh.of (below_drewN (Ib _ _) _)),λ_=>by rw[HN.out];exact Kw.out.below (below_drewN (Ib _ _) _)⟩
   .obtain⟨e1,e2⟩:=GX.out hj rfl
    have Kx:=j7.out hj;have HTC:Hid (aP _ _ _ _):=Vs.out W2 hj rfl Kx;have u0:=af CO.out 0;subst hj;clear Kx j7 jF lQ GX Vs;go_wp2_with fail;refine HTC.out.mono ?_;rintro e w4 ⟨rfl,Db,W8⟩;have DW:Hid _:=zk.out.trans Db;have adG:=(Db.block _ ((Array.getElem?_eq_some_iff.1 CO.out).1) (by omega)).trans CO.out;have vD:Hid (pe=0->Wk L w4 b (nD n m)):=λh=>by rw[e2];exact W8 h
    have CO:Hid _:=adG;clear Db W8 adG u0 HTC e2;by_cases hp:pe=0
    .have abb:Hid (Wk _ _ _ _):=vD.out hp
     have e3:=e1.trans hp;subst hp;clear vD e1 XZ;have u0:=af CO.out 0;have u1:=HNM.out w4 abb.out;by_cases ft:m.name=n.name
     .have hq:(m.name.toList !=n.name.toList)=false:=by rw[ft];simp
      have hq2:(m.name.toList==n.name.toList)=true:=by rw[ft];simp
      have hq3:m.name.toList=n.name.toList:=by rw[ft]
      have HR:Hid _:=Xa.out e3 ft;have HN:Hid (sZ n m=Ko (nD n m)):=by show sZ n m=_;unfold sZ;rw[if_pos ft]
      have Hj:Hid (∀q,aP _ _ _ _):=λq=>HRF.out _ e3 (abb.out.below (below_drewN (Ib _ _) q));clear ft;generalize DU (nD n m)=re at *;go_wp2_with fail;go_quiet (fail)
      go_wp2_with fail;refine(Hj.out _).mono ?_;rintro e w7 ⟨rfl,hs7,pY⟩;have xD:Hid _:=DW.out.trans ((Sh.of (below_drewN (Ib _ _) _)).trans hs7);clear hs7;go_wp2_with fail;go_ret;exact⟨aj HR.out.symm,xD.out,λh=>by rw[HN.out];exact pY.out (HR.out.symm.trans h)⟩
     .have hq:=(uy _ _).2 ft
      have hq2:(m.name.toList==n.name.toList)=false:=by rw[kF,decide_eq_false ft]
      have HR:Hid _:=HEN.out e3 ft;have HN:Hid (sZ n m=nD n m):=by show sZ n m=_;unfold sZ;rw[if_neg ft]
      clear ft;go_wp2_with fail;go_quiet (fail)
      go_wp2_with fail;go_ret;exact⟨aj HR.out.symm,DW.out.trans (Sh.of (below_drewN (Ib _ _) _)),λ_=>by rw[HN.out];exact abb.out.below (below_drewN (Ib _ _) _)⟩
    .have hp':(pe !=0)=true:=by simpa using hp
     have HR:Hid _:=(XZ.out (by rw[e1];exact hp)).trans e1;have wO:Hid _:=hp;have u0:=af CO.out 0;clear hp e1;go_wp2_with fail;go_quiet (fail)
     go_wp2_with fail;go_ret;exact⟨aj HR.out.symm,DW.out.trans (Sh.of (below_drewN (Ib _ _) _)),λh=>absurd (HR.out.symm.trans h) wO.out⟩
  .have A0:(je !=0)=true:=by simpa using hj
   have vy:=decide_eq_false hj;have e1:=jF.out hj;have HR:Hid _:=(XZ.out (by rw[e1];exact hj)).trans e1;have wO:Hid _:=hj;clear hj e1 jF lQ GX;go_wp2_with fail;go_quiet (fail)
   go_wp2_with fail;go_ret;exact⟨aj HR.out.symm,zk.out.trans (Sh.of (below_drewN (Ib _ _) _)),λh=>absurd (HR.out.symm.trans h) wO.out⟩
def Ky(n:Nd)(t:ByteArray)(dN tw:Int):Int:=
 if aN t=true then(if(du n.ms t).isSome=true then(if t=n.name then 6 else if(eD n.ms t).state=dN then nE n { eD n.ms t with state:=tw } else 4) else 5) else 1
def Vu(n:Nd)(t:ByteArray)(tw:Int):Nd:=sZ n { eD n.ms t with state:=tw }
theorem Vv{ms:List Mem}{t:ByteArray}(h:(du ms t).isSome=true):eD ms t∈ms/\(eD ms t).name=t:=by
 obtain⟨m,hm⟩:=Option.isSome_iff_exists.1 h;rw[kG hm];exact o5 hm
theorem DZ(L b:Nat)(n:Nd)(t:ByteArray)(dN tw:Int)(w:World)(h:Wk L w b n)(hL:L<=b)(j5:ba n.ms=0)(sX:ee n.rs=0)(hl:aN n.name=true)(ht:t.size<=maxLen)(hto:within tw 1 4=true) :
 aP 54 #[If (Z ⟨b,0,Y⟩),I t,O J dN,O J tw] w λe w'=>e=sh (O J (Ky n t dN tw))/\Sh (λk=>k=b) w w'/\Hid (Ky n t dN tw=0->Wk L w' b (Vu n t tw)):=by
 have sA:Hid (Wk L w b n):=h;have aU:=h.lt;obtain⟨vm,vr,vs,vg,vw,h1,h2,h3,h4⟩:=h;have ze:Hid _:=h2.is h4;obtain⟨am,cm,sG,_⟩:=az h2.ms;subst sG;have Vj:Hid (nZ 104 #[If (Z ⟨b,0,Y⟩),I t] w (.tuple #[.agg #[I (eD n.ms t).name,O J (eD n.ms t).state,O J (eD n.ms t).aX,O J (eD n.ms t).addr,AI (eD n.ms t).server],AI (du n.ms t).isSome])):=
  jW b am n.ms.length cm n.ms t w (af h1 2) ze.out.ms (by have:=(aF j5).1;omega)
 have P0:Hid ((du n.ms t).isSome=true->∀W,Below w.heap.size w W->aP 95 #[If (Z ⟨b,0,Y⟩),.agg #[I (eD n.ms t).name,O J tw,O J (eD n.ms t).aX,O J (eD n.ms t).addr,AI (eD n.ms t).server]] W λe w'=>e=sh (O J (nE n { eD n.ms t with state:=tw }))/\Sh (λk=>k=b) W w'/\Hid (nE n { eD n.ms t with state:=tw }=0->Wk L w' b (Vu n t tw))):=λhs W hW=>by
  obtain⟨g1,g2⟩:=Vv hs;have he:=(zi _).1 (qR j5 _ g1);exact oF L b n { eD n.ms t with state:=tw } W (sA.out.below hW) hL j5 sX hl ((zi _).2 ⟨he.1,hto,he.2.2.1,he.2.2.2⟩) (show(eD n.ms t).name.size<=maxLen from h4.ms _ g1)
 have HX:Hid (∀W,Below w.heap.size w W->W.cell? ⟨b,0,Y⟩=Z (I n.name)):=λW hW=>af ((hW.block _ aU).trans h1) 0;have HE:Hid (Ky n t dN tw=if aN t=true then(if(du n.ms t).isSome=true then(if t=n.name then 6 else if(eD n.ms t).state=dN then nE n { eD n.ms t with state:=tw } else 4) else 5) else 1):=rfl;generalize Ky n t dN tw=res at *;generalize nE n { eD n.ms t with state:=tw }=se at *;clear h1 h2 h3 h4 j5 sX;generalize(du n.ms t).isSome=fd at *;generalize zJ:eD n.ms t=m at *;clear zJ;obtain⟨mn,st,lf,ad,sv⟩:=m;simp only at Vj P0 HE;go_enter Tryz.func54,Tryz.ntmps54;rcases lj:aN t with _|_
 .have HR:Hid (res=1):=HE.out.trans (by rw[lj];rfl)
  go_wp2_with (go_at_call 65;refine(bc _ _ ht).mono ?_;rintro e w' ⟨rfl,rfl⟩;rw[lj]);go_ret;exact⟨aj HR.out.symm,Sh.refl _ _,λh=>by have:=HR.out.symm.trans h;cases this⟩
 have iN:Hid (res=if fd=true then(if t=n.name then 6 else if st=dN then se else 4) else 5):=HE.out.trans (by rw[lj];rfl);clear HE;go_wp2_with (first|(go_at_call 65;refine(bc _ _ ht).mono ?_;rintro e w' ⟨rfl,hww⟩;have xb:=hww.symm;subst xb;rw[lj])|fail);refine Vj.out.mono ?_;rintro e w1 ⟨rfl,al⟩;obtain⟨W2,eX⟩:∃W2,W2=w1.alloc (.cells #[I mn,O J st,O J lf,O J ad,AI sv] 70):=⟨_,rfl⟩;have aC:Below w.heap.size w W2:=by rw[eX];exact al.alloc al.size _
 have hbb:w1.heap.size<W2.heap.size:=by rw[eX];simp
 have iL:W2.heap[w1.heap.size]?=Z (.cells #[I mn,O J st,O J lf,O J ad,AI sv] 70 (0,0)):=by rw[eX];exact heap_alloc_new w1 _
 have bw:Hid _:=aC;have gI:=al.size;obtain⟨x0,x1,x2,x3,x4⟩:=zd iL;have zf:=dZ iL 1;have y0:=HX.out W2 aC;go_upto_region 4 with fail
 rw[<- eX];clear eX al aC Vj;cases fd
 .have HR:Hid (res=5):=iN.out.trans (by simp)
  go_wp2_with fail;go_ret;exact⟨aj HR.out.symm,Sh.of bw.out,λh=>by have:=HR.out.symm.trans h;cases this⟩
 by_cases ft:t=n.name
 .have HR:Hid (res=6):=iN.out.trans (by simp[ft])
  have hq:(t.toList==n.name.toList)=true:=by rw[ft];simp
  have hq2:t.toList=n.name.toList:=by rw[ft]
  clear ft;go_wp2_with fail;go_ret;exact⟨aj HR.out.symm,Sh.of bw.out,λh=>by have:=HR.out.symm.trans h;cases this⟩
 have hq:(t.toList==n.name.toList)=false:=by rw[kF,decide_eq_false ft]
 by_cases tr:st=dN
 .have HR:Hid (res=se):=iN.out.trans (by simp[ft,tr])
  subst tr;have Sx:=λW hW=>P0.out rfl W hW;clear ft iN;obtain⟨W3,kL⟩:∃W3,W3=W2.setCell ⟨w1.heap.size,1,Y⟩ (O J tw):=⟨_,rfl⟩;have da:Hid (Below w.heap.size w W3):=by rw[kL];exact bw.out.setCell (p:=⟨w1.heap.size,1,Y⟩) gI _
  have vt:W3.heap[w1.heap.size]?=Z (.cells #[I mn,O J tw,O J lf,O J ad,AI sv] 70 (0,0)):=by rw[kL];exact Joins.block_setCell (i:=1) iL _
  obtain⟨v0,v1,v2,v3,v4⟩:=zd vt;have aik:Hid (aP _ _ _ _):=Sx W3 da.out;clear Sx vt iL;go_upto_region 11 with fail
  rw[<- kL];clear kL x0 x1 x2 x3 x4 zf y0;go_wp2_with fail;refine aik.out.mono ?_;rintro e w5 ⟨rfl,WI,xu⟩;have wK:Hid _:=(Sh.of da.out).trans WI;clear WI;go_wp2_with fail;go_ret;exact⟨aj HR.out.symm,wK.out,λh=>xu.out (HR.out.symm.trans h)⟩
 .have HR:Hid (res=4):=iN.out.trans (by simp[ft,tr])
  have aoa:(st !=dN)=true:=by simpa using tr
  clear ft tr iN;go_wp2_with fail;go_ret;exact⟨aj HR.out.symm,Sh.of bw.out,λh=>by have:=HR.out.symm.trans h;cases this⟩
theorem P1{ms:List Mem}{p:Nat}{x:Mem}(hr:bO ms)(hx:x.name=(ms.getD p dm).name):bO (ms.set p x):=by
 have hn:∀j (h:j<ms.length),((ms.set p x)[j]'(by rw[Jb];exact h)).name=ms[j].name:=λj h=>by
  rw[List.getElem_set];split
  .rename_i e;subst e;rw[hx];simp[List.getD,List.getElem?_eq_getElem h]
  .rfl
 refine Jh.2 λi j hi hj lO=>?_;rw[Jb] at hi hj;rw[hn i hi,hn j hj];exact Jh.1 hr i j hi hj lO
structure Sp(n:Nd):Prop where
 ms:ba n.ms=0
 rs:ee n.rs=0
 name:aN n.name=true
theorem adH{n:Nd}(h:Sp n)(h0:DU n=0):Sp (Ko n):=by
 unfold DU at h0;unfold Ko;by_cases hR:jI n.ms (lL n) (sY n)=true
 .obtain⟨f1,f2,f3,f4,f5,f6,f7⟩:=Bw h.ms hR
  rw[if_pos (zj hR),if_pos hR] at h0;rw[if_pos hR];obtain⟨l1,l2,_⟩:=aF h.ms;refine⟨PV ?_ ?_ ?_,Bs h.rs f5 h0,h.name⟩
  .show(wQ n).length<=20;rw[f3,Jb];exact l1
  .show bO (wQ n);rw[f3];exact P1 l2 rfl
  .intro m hm
   have hm:=hm;rw[f3] at hm;rcases List.mem_or_eq_of_mem_set hm with hm|rfl
   .exact qR h.ms m hm
   .rw[<- f4];exact f5
 .rw[if_neg hR]
  have:wQ n=n.ms:=by unfold wQ Ab;rw[if_neg hR]
  rw[this];exact h
theorem adI{n:Nd}{m:Mem}(h:Sp n)(hm:m.e=0)(h0:nE n m=0):Sp (sZ n m):=by
 unfold nE at h0;split at h0
 .rename_i h1
  have h2:Sp (nD n m):=⟨(zo h.ms h.rs hm h1).1,(zo h.ms h.rs hm h1).2,by rw[uK];exact h.name⟩;unfold sZ;by_cases hn:m.name=n.name
  .rw[if_pos hn] at h0 ⊢;exact adH h2 h0
  .rw[if_neg hn];exact h2
 .rename_i h1;exact absurd h0 h1
structure Rest(n n':Nd):Prop where
 name:n'.name=n.name
 ai:n'.ai=n.ai
 sv:n'.sv=n.sv
 gw:n'.gw=n.gw
 p:n'.p=n.p
 wh:n'.wh=n.wh
theorem Rest.refl(n:Nd):Rest n n:=⟨rfl,rfl,rfl,rfl,rfl,rfl⟩
theorem Rest.trans{a b c:Nd}(h:Rest a b)(k:Rest b c):Rest a c:=⟨k.name.trans h.name,k.ai.trans h.ai,k.sv.trans h.sv,k.gw.trans h.gw,k.p.trans h.p,k.wh.trans h.wh⟩
theorem Vw(n:Nd):Rest n (Ko n):=by unfold Ko;split<;>exact⟨rfl,rfl,rfl,rfl,rfl,rfl⟩
theorem Bz(n:Nd)(m:Mem):Rest n (nD n m):=by unfold nD;split<;>exact⟨rfl,rfl,rfl,rfl,rfl,rfl⟩
theorem Vx(n:Nd)(m:Mem):Rest n (sZ n m):=by
 unfold sZ;split
 .exact(Bz n m).trans (Vw _)
 .exact Bz n m
def nW:Nd->List Mem->Int
 |_,[]=>0
 |n,m::r=>if nE n m=0 then nW (sZ n m) r else nE n m
def lX:Nd->List Mem->Nd
 |n,[]=>n
 |n,m::r=>lX (sZ n m) r
theorem zp:∀(l:List Mem) (n:Nd) (m:Mem),lX n (l++[m])=sZ (lX n l) m/\(nW n l=0->nW n (l++[m])=nE (lX n l) m)
 |[],n,m=>⟨rfl,λ_=>by
   show nW n [m]=nE n m;rw[nW];split
   .rename_i h;rw[h];rfl
   .rfl⟩
 |x::r,n,m=>by
  obtain⟨h1,h2⟩:=zp r (sZ n x) m;refine⟨h1,λh=>?_⟩;rw[nW] at h;split at h
  .rename_i h0
   show nW n (x::(r++[m]))=_;rw[nW,if_pos h0];exact h2 h
  .rename_i h0;exact absurd h h0
theorem D0:∀(l r:List Mem) (n:Nd),nW n l≠0->nW n (l++r)=nW n l
 |[],r,n,h=>absurd rfl h
 |x::l,r,n,h=>by
  show nW n (x::(l++r))=_;rw[nW] at h ⊢;rw[nW];split
  .rename_i h0;rw[if_pos h0] at h;exact D0 l r _ h
  .rfl
theorem P2:∀(l:List Mem) (n:Nd),Sp n->(∀m∈l,m.e=0)->nW n l=0->Sp (lX n l)
 |[],n,h,_,_=>h
 |x::r,n,h,hl,h0=>by
  rw[nW] at h0;split at h0
  .rename_i h1
   exact P2 r (sZ n x) (adI h (hl x (by simp)) h1) (λm hm=>hl m (by simp[hm])) h0
  .rename_i h1;exact absurd h0 h1
theorem zq:∀(l:List Mem) (n:Nd),Rest n (lX n l)
 |[],n=>Rest.refl n
 |x::r,n=>(Vx n x).trans (zq r _)
def oG(n:Nd)(p:Pk):Int:=
 if p.e=0 then(if nW n p.ms=0 then(if Sv.aA n.sv p.sv=0 then Gw.aA n.gw p.gw else Sv.aA n.sv p.sv) else nW n p.ms) else p.e
def s9(n:Nd)(p:Pk):Nd:={ lX n p.ms with sv:=Sv.ay n.sv p.sv,gw:=Gw.ay n.gw p.gw,wh:=Bx n.wh p.wh }
theorem xL{p:Pk}(h:p.e=0):(∀m∈p.ms,m.e=0)/\p.ms.length<=20/\Wh.ba p.wh=0/\Sv.ba p.sv=0/\Gw.ba p.gw=0:=by
 unfold Pk.e at h;split at h
 .rename_i h0
  split at h
  .rename_i h1
   have hm:(∀m∈p.ms,m.e=0)/\p.ms.length<=20:=by
    unfold Pk.mE at h1;split at h1
    .exact⟨qR h1,(aF h1).1⟩
    .obtain⟨a,b,_⟩:=Gz h1
     exact⟨dh _ b,by omega⟩
   split at h
   .rename_i h2
    split at h
    .rename_i h3;exact⟨hm.1,hm.2,h,h2,h3⟩
    .rename_i h3;exact absurd h h3
   .rename_i h2;exact absurd h h2
  .rename_i h1;exact absurd h h1
 .cases h
end Go.Proofs.YtfidjlcdlakceaaGreatDoor
