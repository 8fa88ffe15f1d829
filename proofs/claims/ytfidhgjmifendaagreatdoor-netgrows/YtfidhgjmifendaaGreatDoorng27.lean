import Derived.Test.YtfidhgjmifendaaGreatDoorng26
set_option maxHeartbeats 51200000
set_option maxRecDepth 100000
open Go.Value renaming slice→J,pointer→If,string→Y,bool→Ia,int→U,tuple→Im
open Option renaming some→AI,none→be
open Go.Ending renaming returned→AT
namespace Go.Proofs.YtfidhgjmifendaaGreatDoor
open Go.RowKit
theorem Wk.Kt{L b:Nat}{W:World}{n:Nd}(h:Wk L W b n):∃a k c a2 k2 c2 vm vr vw,W.heap[b]?=AI (.cells (dw n vm vr (J a k c) (J a2 k2 c2) vw) 90 (0,0))/\Sv.Sl W (J a k c) n.sv/\Gw.Sl W (J a2 k2 c2) n.gw:=by
 obtain⟨vm,vr,vs,vg,vw,h1,h2,h3,h4⟩:=h;obtain⟨a,c,hv,_⟩:=aA h2.sv;obtain⟨a2,c2,PO,_⟩:=aA h2.gw;subst hv PO;exact⟨a,_,c,a2,_,c2,vm,vr,vw,h1,(h2.is h4).sv,(h2.is h4).gw⟩
theorem Wk.okN{L b:Nat}{W:World}{n:Nd}(h:Wk L W b n):iq n:=by
 obtain⟨_,_,_,_,_,_,_,_,h4⟩:=h;exact h4
theorem Sv.Sl.H8{w:World}{v:Value}{ms:List Sv.aW}(h:Sv.Sl w v ms):∀j,(ms.getD j Sv.dm).ok:=by
 obtain⟨_,_,_,h2,_⟩:=h;exact h2
theorem Gw.Sl.H8{w:World}{v:Value}{ms:List Gw.bC}(h:Gw.Sl w v ms):∀j,(ms.getD j Gw.dm).ok:=by
 obtain⟨_,_,_,h2,_⟩:=h;exact h2
theorem Ej(L b:Nat)(n:Nd)(p:Pk)(vm vs vg vw:Value)(w0 w:World)(h:Wk L w b n)(hL:L<=b)(uT:Sp n)(LL:Sv.bj n.sv=0)(wF:Gw.bj n.gw=0)(nC:Wh.ow n.wh)(hx:jY w0 p vm vs vg vw)(hB:Below w0.heap.size w0 w)(hBL:w0.heap.size<=L)(hlen:p.whole=true\/p.sv.length+p.gw.length+p.wh.length<=4611686018427387904) :
 aF 39 #[If (AI ⟨b,0,be⟩),.agg #[Y p.cT,Ia p.whole,vm,vs,vg,vw]] w λe w'=>e=AT (U .i64 (pJ n p))/\Sh (λk=>L<=k) w w'/\Hid (pJ n p=0->Wk L w' b (rJ n p)):=by
 have pD:Hid (Wk L w b n):=h;have aN:=h.lt;have HB:Hid _:=hB;have M1:Hid _:=uT;have HE:Hid (pJ n p=if p.e=0 then(if qC n p.ms=0 then(if Sv.aE n.sv p.sv=0 then Gw.aE n.gw p.gw else Sv.aE n.sv p.sv) else qC n p.ms) else p.e):=rfl;have SH:Hid (rJ n p={ vM n p.ms with sv:=Sv.av n.sv p.sv,gw:=Gw.av n.gw p.gw,wh:=Bs n.wh p.wh }):=rfl;have mr:Hid (∀W,Below w0.heap.size w0 W->aF _ _ _ _):=λW hW=>lA p vm vs vg vw W (hx.below hW) hlen;have HPM:Hid (p.e=0->(∀m∈p.ms,m.e=0)/\p.ms.length<=20/\p.wh.length<=20):=λh=>⟨(zn h).1,(zn h).2.1,(Wh.af (zn h).2.2.1).1⟩;have Gf:Hid _:=hx;have uK:Hid (∀l,Rest n (vM n l)):=λl=>xk l n;have HSV:Hid _:=LL;have HGW:Hid _:=wF;have HWF:Hid _:=nC;obtain⟨cT,whole,ms,sv,gw,wh⟩:=p;obtain⟨hU,V0,V1,V2,LM,du⟩:=hx;simp only at hU V0 V1 V2 hlen HE SH mr HPM;obtain⟨pm,cm,rfl,Hv,Hw⟩:=hU;obtain⟨ps,cs,rfl,_,_⟩:=V0;obtain⟨pg,cg,rfl,_,_⟩:=V1;obtain⟨ph,ch,rfl,_,_⟩:=V2;have adG:Hid _:=Hw;have HMZ:Hid _:=Hv;clear Hv Hw h hB uT LL wF nC hlen du LM;have HJS:Hid (∀W va,Below w0.heap.size w0 W->Sv.Sl W va n.sv->aF 64 #[va,J ps sv.length cs] W λe w'=>∃a k c,e=AT (Im #[J a k c,U .i64 (Sv.aE n.sv sv)])/\Below W.heap.size W w'/\(Sv.aE n.sv sv=0->Sv.Own W.heap.size w' (J a k c) (Sv.av n.sv sv))):=λW va hW hva=>by
  refine(Sv.qt n.sv sv va _ W hva (Gf.out.sv.below hW)).mono ?_;rintro e w' ⟨v',rfl,hb,h1,h2⟩;by_cases h0:Sv.aE n.sv sv=0
  .obtain⟨a,c,rfl,_⟩:=aA (h2 h0)
   exact⟨a,_,c,rfl,hb,h2⟩
  .rw[h1 h0];exact⟨be,0,0,rfl,hb,λh=>absurd h h0⟩
 have HJG:Hid (∀W va,Below w0.heap.size w0 W->Gw.Sl W va n.gw->aF 65 #[va,J pg gw.length cg] W λe w'=>∃a k c,e=AT (Im #[J a k c,U .i64 (Gw.aE n.gw gw)])/\Below W.heap.size W w'/\(Gw.aE n.gw gw=0->Gw.Own W.heap.size w' (J a k c) (Gw.av n.gw gw))):=λW va hW hva=>by
  refine(Gw.qt n.gw gw va _ W hva (Gf.out.gw.below hW)).mono ?_;rintro e w' ⟨v',rfl,hb,h1,h2⟩;by_cases h0:Gw.aE n.gw gw=0
  .obtain⟨a,c,rfl,_⟩:=aA (h2 h0)
   exact⟨a,_,c,rfl,hb,h2⟩
  .rw[h1 h0];exact⟨be,0,0,rfl,hb,λh=>absurd h h0⟩
 have HJO:Hid _:=Sv.iJ sv n.sv pD.out.okN.sv (Sv.dt Gf.out.sv.H8);have HJP:Hid _:=Gw.iJ gw n.gw pD.out.okN.gw (Gw.dt Gf.out.gw.H8);have oY:Hid (∀W nd,Wk L W b nd->nd.wh=n.wh->Below w0.heap.size w0 W->wh.length<=20->aF 66 #[If (AI ⟨b,0,be⟩),J ph wh.length ch] W λe w'=>e=AT (Im #[])/\Sh (λk=>L<=k) W w'/\Wk L w' b { nd with wh:=Bs n.wh wh }):=λW nd hW hn hB hl=>by
  have:=Eg L b nd wh _ w0 W hW hL (by rw[hn];exact HWF.out) Gf.out.wh hB hBL (by omega);rw[hn] at this;exact this
 generalize Pk.e ⟨cT,whole,ms,sv,gw,wh⟩=pe at *;generalize pJ n ⟨cT,whole,ms,sv,gw,wh⟩=res at *;generalize CZ:ms.length=km at *;have HKM:Hid _:=CZ;clear CZ;generalize sv.length=ks at *;generalize gw.length=kg at *;generalize wh.length=kh at *;obtain⟨W0,bA,bM,eE,dF⟩:=bV w #[Y cT,Ia whole,J pm km cm,J ps ks cs,J pg kg cg,J ph kh ch] 53;have cY:Hid _:=bM;have AM:Hid _:=dF;have LY:Hid (∀W,Sh (λk=>k=b) W0 W->Below w0.heap.size w0 W/\W.heap[w.heap.size]?=AI (.cells #[Y cT,Ia whole,J pm km cm,J ps ks cs,J pg kg cg,J ph kh ch] 53 (0,0))/\Sh (λk=>L<=k) w W/\w.heap.size<W.heap.size):=λW hW=>
  ⟨HB.out.trans ((bM.mono HB.out.size).trans (hW.below (by have:=HB.out.size;omega) (λk hk=>by omega))),(hW.block _ (by omega) (by omega)).trans dF,(Sh.of bM).trans (hW.mono (λk hk=>by omega)),by have:=hW.size;omega⟩
 clear bM dF;go_enter Tryz.func39,Tryz.ntmps39;go_wp2_with fail;rw[<- bA];refine(mr.out W0 (LY.out W0 (Sh.refl _ _)).1).mono ?_;rintro e w1 ⟨rfl,aB⟩;have tr:Hid (Sh (λk=>k=b) W0 w1):=Sh.of aB;have MW:Hid (Wk L w1 b n):=(pD.out.below cY.out).below aB;clear aB bA;obtain⟨_,cI,V3,DK⟩:=LY.out w1 tr.out;have q2:=ae cI 2;have adJ:Hid _:=V3;clear cI V3;by_cases Db:pe=0;rotate_left
 .have akV:(pe !=0)=true:=by simpa using Db
  have HR:Hid _:=HE.out.trans (if_neg Db);have Be:Hid _:=Db;clear Db;go_wp2_with fail;go_ret;exact⟨ai HR.out.symm,adJ.out,λh=>absurd (HR.out.symm.trans h) Be.out⟩
 have kx:Hid _:=HE.out.trans (if_pos Db);obtain⟨L1,Pp,Ge⟩:=HPM.out Db;have M3:Hid _:=L1;have V4:Hid _:=Ge;subst Db;clear HE HPM L1 Ge mr;go_wp2_with fail;go_loopw [18] (λi wr=>∃k:Nat,k<=km/\i=U .i64 k/\Hid (Sh (λk=>k=b) W0 wr)/\Hid (qC n (ms.take k)=0)/\Hid (Wk L wr b (vM n (ms.take k)))) (λi _=>km-(intOf i).toNat)
 case atStart=>exact⟨0,Nat.zero_le _,rfl,tr,rfl,MW⟩
 case round=>
  clear q2 DK;obtain⟨k,hk,rfl,HS,HZ,HW⟩:=hrel;obtain⟨xZ,LN,V5,akW⟩:=LY.out wr HS.out;have HBr:Hid _:=xZ;have akX:Hid _:=V5;have HGr:Hid _:=LN;clear xZ V5 LN;by_cases aR:k<km
  .obtain⟨b2,o2,hp,mo,hr⟩:∃b off,pm=AI ⟨b,off,be⟩/\b<w0.heap.size/\Row w0 b off ms:=by
    rcases adG.out with h|h
    .have:=HKM.out;rw[h] at this;simp at this;omega
    .exact h
   subst hp;have iI:k<ms.length:=by rw[HKM.out];exact aR
   obtain⟨c0,c1,c2,c3,c4⟩:=(hr k iI).eq (λo=>HBr.out.cell (p:=⟨b2,o,be⟩) mo);clear hr;have Gj:ms.getD k dm=ms[k]:=by simp[List.getD,List.getElem?_eq_getElem iI]
   have VT:=HMZ.out k;have Sc:(ms.getD k dm).e=0:=by rw[Gj];exact M3.out _ (List.getElem_mem _)
   have M4:ms.take (k+1)=ms.take k++[ms.getD k dm]:=by rw[Gj];exact List.take_succ_eq_append_getElem iI
   obtain⟨fh,iU⟩:=C8 (ms.take k) n (ms.getD k dm);rw[<- M4] at fh iU;have LW:Hid _:=fh;have wD:Hid _:=iU HZ.out;have V6:Hid (ma (vM n (ms.take k)) (ms.getD k dm)≠0->res=ma (vM n (ms.take k)) (ms.getD k dm)):=λaT=>by
    have e1:qC n (ms.take (k+1))≠0:=by rw[wD.out];exact aT
    have e2:=Km (ms.take (k+1)) (ms.drop (k+1)) n e1;rw[List.take_append_drop,wD.out] at e2;exact kx.out.trans (by rw[e2,if_neg aT])
   have SI:Hid _:=PH (ms.take k) n M1.out (λm hm=>M3.out m (List.mem_of_mem_take hm)) HZ.out;have Kj:Hid (∀W,Below wr.heap.size wr W->aF 63 #[If (AI ⟨b,0,be⟩),.agg #[Y (ms.getD k dm).name,U .i64 (ms.getD k dm).state,U .i64 (ms.getD k dm).aM,U .i64 (ms.getD k dm).addr,Ia (ms.getD k dm).server]] W λe w'=>e=AT (U .i64 (ma (vM n (ms.take k)) (ms.getD k dm)))/\Sh (λk=>k=b) W w'/\Hid (ma (vM n (ms.take k)) (ms.getD k dm)=0->Wk L w' b (vM n (ms.take (k+1))))):=λW hW=>by
    have h:=ox L b (vM n (ms.take k)) (ms.getD k dm) W (HW.out.below hW) hL SI.out.ms SI.out.rs SI.out.name Sc VT;rw[<- LW.out] at h;exact h
   clear M4 fh iU Gj Sc;generalize ma (vM n (ms.take k)) (ms.getD k dm)=se at *;generalize ms.getD k dm=mk at *;obtain⟨mn,st,lf,ad,VK⟩:=mk;simp only at c0 c1 c2 c3 c4 Kj;go_wp2_with fail;refine(Kj.out _ ((Below.refl _ _).alloc (Nat.le_refl _) _)).mono ?_;rintro e w3 ⟨rfl,rI,uf⟩;have SJ:Hid _:=(HS.out.alloc _).trans rI;have adK:Hid _:=(LY.out w3 SJ.out).2.2.1;clear rI c0 c1 c2 c3 c4;by_cases hse:se=0
   .have pZ:Hid _:=wD.out.trans hse
    have yH:Hid (Wk _ _ _ _):=uf.out hse;subst hse;clear uf V6 wD;go_wp2_with fail;go_roundw
    case rel=>exact⟨k+1,by omega,by go_num,SJ,pZ,yH⟩
    case measure=>simp[intOf];omega
   .have Vq:(se !=0)=true:=by simpa using hse
    have HR:Hid _:=V6.out hse;have Be:Hid _:=hse;clear hse uf V6 wD;go_wp2_with fail;go_ret;exact⟨ai HR.out.symm,adK.out,λh=>absurd (HR.out.symm.trans h) Be.out⟩
  .have rZ:km=k:=by omega
   subst rZ;have M4:=List.take_of_length_le (by rw[HKM.out];exact Nat.le_refl _);rw[M4] at HZ HW;have Dc:Hid _:=kx.out.trans (if_pos HZ.out);clear M4 kx;have HRT:Hid _:=uK.out ms;generalize L3:vM n ms=nd at *;clear L3;obtain⟨Ax,ka,ca,ag_,kg2,cg2,vm2,vr2,vw2,h1,h2,h3⟩:=HW.out.Kt;rw[HRT.out.sv] at h2;rw[HRT.out.gw] at h3;have y4:=ae h1 4;have x3:=ae HGr.out 3;have V7:Hid (aF 64 #[J Ax ka ca,J ps ks cs] wr.drew λe w'=>∃a k c,e=AT (Im #[J a k c,U .i64 (Sv.aE n.sv sv)])/\Below wr.heap.size wr w'/\(Sv.aE n.sv sv=0->Sv.Own wr.heap.size w' (J a k c) (Sv.av n.sv sv))):=(HJS.out wr.drew _ HBr.out.drew h2).mono (by rintro e w' ⟨a,k,c,rfl,hb,ho⟩;exact⟨a,k,c,rfl,(Below.refl wr.heap.size wr).drew.trans hb,ho⟩);have jW:Hid (∀W,Below wr.heap.size wr W->W.heap[b]?=AI (.cells (dw nd vm2 vr2 (J Ax ka ca) (J ag_ kg2 cg2) vw2) 90 (0,0))):=λW hW=>(hW.block _ HW.out.lt).trans h1;have sH:Hid (∀w1 a k c,Below wr.heap.size wr w1->(Sv.aE n.sv sv=0->Sv.Own wr.heap.size w1 (J a k c) (Sv.av n.sv sv))->Sv.aE n.sv sv=0->Wk L (w1.setCell ⟨b,4,be⟩ (J a k c)) b { nd with sv:=Sv.av n.sv sv }):=λw1 a k c g1 g2 g0=>HW.out.Bm (by have:=HW.out.lt;omega) g1 (g2 g0) HJO.out;generalize Sv.aE n.sv sv=je at *;generalize Gw.aE n.gw gw=ge at *;clear h1 h2 h3 HJS;go_wp2_with fail;go_region_with (first|(go_at_call 64;refine V7.out.mono ?_;rintro e w4 ⟨a,k1,c,rfl,eP,V8⟩;have MV:Hid (Sh (λk=>k=b) W0 (w4.setCell ⟨b,4,be⟩ (J a k1 c))):=(HS.out.next eP).setCell (S:=λk=>k=b) rfl _;have nD:Hid (je=0->Wk L (w4.setCell ⟨b,4,be⟩ (J a k1 c)) b { nd with sv:=Sv.av n.sv sv }):=sH.out w4 a k1 c eP V8;have hJ:=jW.out w4 eP;have z4:w4.cell? ⟨b,4,be⟩=AI (J Ax ka ca):=ae hJ 4;have zf:w4.frozen? ⟨b,4,be⟩=false:=an hJ 4;clear eP V8 hJ))
   all_goals
    obtain⟨W5,iV⟩:∃W5,W5=w4.setCell ⟨b,4,be⟩ (J a k1 c):=⟨_,rfl⟩;rw[<- iV] at MV nD;rw[<- iV];clear iV z4 zf y4 x3 jW V7 sH;obtain⟨hB5,mQ,Ku,V9⟩:=LY.out W5 MV.out;have gX:Hid _:=hB5;have CU:Hid _:=mQ;have adL:Hid _:=Ku;clear hB5 mQ Ku;by_cases hje:je=0;rotate_left
    .have ak5:(je !=0)=true:=by simpa using hje
     have HR:Hid _:=Dc.out.trans (if_neg hje);have Be:Hid _:=hje;clear hje;go_wp2_with fail;go_ret;exact⟨ai HR.out.symm,adL.out,λh=>absurd (HR.out.symm.trans h) Be.out⟩
    .have Po:Hid (Wk _ _ _ _):=nD.out hje
     have HE4:Hid _:=Dc.out.trans (if_pos hje);subst hje;clear nD Dc;obtain⟨as3,ka3,DX,ag3,kg3,cg3,vm3,vr3,vw3,h1,_,h3⟩:=Po.out.Kt;have h3:Gw.Sl W5 (J ag3 kg3 cg3) n.gw:=by rw[<- HRT.out.gw];exact h3
     have y5:=ae h1 5;have x4:=ae CU.out 4;have V7:Hid (aF 65 #[J ag3 kg3 cg3,J pg kg cg] W5.drew λe w'=>∃a k c,e=AT (Im #[J a k c,U .i64 ge])/\Below W5.heap.size W5 w'/\(ge=0->Gw.Own W5.heap.size w' (J a k c) (Gw.av n.gw gw))):=(HJG.out W5.drew _ gX.out.drew h3).mono (by rintro e w' ⟨a,k,c,rfl,hb,ho⟩;exact⟨a,k,c,rfl,(Below.refl W5.heap.size W5).drew.trans hb,ho⟩);have jW:Hid (∀W,Below W5.heap.size W5 W->W.heap[b]?=AI (.cells (dw { nd with sv:=Sv.av n.sv sv } vm3 vr3 (J as3 ka3 DX) (J ag3 kg3 cg3) vw3) 90 (0,0))):=λW hW=>(hW.block _ Po.out.lt).trans h1;have sH:Hid (∀w1 a k c,Below W5.heap.size W5 w1->(ge=0->Gw.Own W5.heap.size w1 (J a k c) (Gw.av n.gw gw))->ge=0->Wk L (w1.setCell ⟨b,5,be⟩ (J a k c)) b { nd with sv:=Sv.av n.sv sv,gw:=Gw.av n.gw gw }):=λw1 a k c g1 g2 g0=>Po.out.H7 (by have:=Po.out.lt;omega) g1 (g2 g0) HJP.out;clear h1 h3;go_wp2_with fail;go_region_with (first|(go_at_call 65;refine V7.out.mono ?_;rintro e w6 ⟨a6,k6,c6,rfl,rK,Wb⟩;have HS6:Hid (Sh (λk=>k=b) W0 (w6.setCell ⟨b,5,be⟩ (J a6 k6 c6))):=(MV.out.next rK).setCell (S:=λk=>k=b) rfl _;have yc:Hid (ge=0->Wk L (w6.setCell ⟨b,5,be⟩ (J a6 k6 c6)) b { nd with sv:=Sv.av n.sv sv,gw:=Gw.av n.gw gw }):=sH.out w6 a6 k6 c6 rK Wb;have hJ:=jW.out w6 rK;have z5:w6.cell? ⟨b,5,be⟩=AI (J ag3 kg3 cg3):=ae hJ 5;have zf:w6.frozen? ⟨b,5,be⟩=false:=an hJ 5;clear rK Wb hJ))
     all_goals
      obtain⟨W7,Ek⟩:∃W7,W7=w6.setCell ⟨b,5,be⟩ (J a6 k6 c6):=⟨_,rfl⟩;rw[<- Ek] at HS6 yc;rw[<- Ek];clear Ek z5 zf y5 x4 jW V7 sH;obtain⟨hB7,hg7,Wc,alb⟩:=LY.out W7 HS6.out;have DQ:Hid _:=hB7;have Wd:Hid _:=Wc;have x5:=ae hg7 5;clear hB7 hg7 Wc;by_cases yC:ge=0;rotate_left
      .have Vp:(ge !=0)=true:=by simpa using yC
       have Be:Hid _:=yC;clear yC;go_wp2_with fail;go_ret;exact⟨ai HE4.out.symm,Wd.out,λh=>absurd (HE4.out.symm.trans h) Be.out⟩
      .have HLC:=oY.out W7 { nd with sv:=Sv.av n.sv sv,gw:=Gw.av n.gw gw } (yc.out yC) HRT.out.wh DQ.out V4.out
       have El:Hid _:=HE4.out.trans yC;subst yC;clear yc;go_wp2_with fail;refine HLC.mono ?_;rintro e w8 ⟨rfl,We,T1⟩;have HS8:Hid _:=Wd.out.trans We;have HK8:Hid (Wk L w8 b (rJ n ⟨cT,whole,ms,sv,gw,wh⟩)):=by rw[SH.out];exact T1
       clear We T1;go_wp2_with fail;go_ret;exact⟨ai El.out.symm,HS8.out,λ_=>HK8.out⟩
end Go.Proofs.YtfidhgjmifendaaGreatDoor
