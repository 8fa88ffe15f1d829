import Derived.Test.YtfidhgjmifendaaGreatDoornt28
set_option maxHeartbeats 51200000
set_option maxRecDepth 100000
open Go.Value renaming slice→J,pointer→Ie,string→Y,bool→Ia,int→U,tuple→Ik
open Option renaming some→AI,none→be
open Go.Ending renaming returned→By
namespace Go.Proofs.YtfidhgjmifendaaGreatDoor
open Go.RowKit
theorem Wk.Kh{L b:Nat}{W:World}{n:Nd}(h:Wk L W b n):∃a k c a2 k2 c2 vm vr vw,W.heap[b]?=AI (.cells (dt n vm vr (J a k c) (J a2 k2 c2) vw) 90 (0,0))/\Sv.Sl W (J a k c) n.sv/\Gw.Sl W (J a2 k2 c2) n.gw:=by
 obtain⟨vm,vr,vs,vg,vw,h1,h2,h3,h4⟩:=h;obtain⟨a,c,hv,_⟩:=aA h2.sv;obtain⟨a2,c2,PG,_⟩:=aA h2.gw;subst hv PG;exact⟨a,_,c,a2,_,c2,vm,vr,vw,h1,(h2.is h4).sv,(h2.is h4).gw⟩
theorem Wk.okN{L b:Nat}{W:World}{n:Nd}(h:Wk L W b n):il n:=by
 obtain⟨_,_,_,_,_,_,_,_,h4⟩:=h;exact h4
theorem Sv.Sl.Hv{w:World}{v:Value}{ms:List Sv.aT}(h:Sv.Sl w v ms):∀j,(ms.getD j Sv.dm).ok:=by
 obtain⟨_,_,_,h2,_⟩:=h;exact h2
theorem Gw.Sl.Hv{w:World}{v:Value}{ms:List Gw.bK}(h:Gw.Sl w v ms):∀j,(ms.getD j Gw.dm).ok:=by
 obtain⟨_,_,_,h2,_⟩:=h;exact h2
theorem Eo(L b:Nat)(n:Nd)(p:Pk)(vm vs vg vw:Value)(w0 w:World)(h:Wk L w b n)(hL:L<=b)(vc:Sp n)(Ly:Sv.bj n.sv=0)(wM:Gw.bj n.gw=0)(nG:Wh.oB n.wh)(hx:jY w0 p vm vs vg vw)(hB:Below w0.heap.size w0 w)(hBL:w0.heap.size<=L)(hlen:p.whole=true\/p.sv.length+p.gw.length+p.wh.length<=4611686018427387904) :
 aF 39 #[Ie (AI ⟨b,0,be⟩),.agg #[Y p.cU,Ia p.whole,vm,vs,vg,vw]] w λe w'=>e=By (U .i64 (pR n p))/\Sh (λk=>L<=k) w w'/\Hid (pR n p=0->Wk L w' b (rQ n p)):=by
 have pN:Hid (Wk L w b n):=h;have aN:=h.lt;have HB:Hid _:=hB;have MM:Hid _:=vc;have HE:Hid (pR n p=if p.e=0 then(if qJ n p.ms=0 then(if Sv.aE n.sv p.sv=0 then Gw.aE n.gw p.gw else Sv.aE n.sv p.sv) else qJ n p.ms) else p.e):=rfl;have Su:Hid (rQ n p={ uZ n p.ms with sv:=Sv.av n.sv p.sv,gw:=Gw.av n.gw p.gw,wh:=Bs n.wh p.wh }):=rfl;have nN:Hid (∀W,Below w0.heap.size w0 W->aF _ _ _ _):=λW hW=>lD p vm vs vg vw W (hx.below hW) hlen;have TU:Hid (p.e=0->(∀m∈p.ms,m.e=0)/\p.ms.length<=20/\p.wh.length<=20):=λh=>⟨(zB h).1,(zB h).2.1,(Wh.af (zB h).2.2.1).1⟩;have FZ:Hid _:=hx;have qu:Hid (∀l,Rest n (uZ n l)):=λl=>xv l n;have HSV:Hid _:=Ly;have HGW:Hid _:=wM;have HWF:Hid _:=nG;obtain⟨cU,whole,ms,sv,gw,wh⟩:=p;obtain⟨hJ,V3,V4,V5,Lz,dx⟩:=hx;simp only at hJ V3 V4 V5 hlen HE Su nN TU;obtain⟨pm,cm,rfl,He,Hf⟩:=hJ;obtain⟨ps,cs,rfl,_,_⟩:=V3;obtain⟨pg,cg,rfl,_,_⟩:=V4;obtain⟨ph,ch,rfl,_,_⟩:=V5;have adv:Hid _:=Hf;have HMZ:Hid _:=He;clear He Hf h hB vc Ly wM nG hlen dx Lz;have HJS:Hid (∀W va,Below w0.heap.size w0 W->Sv.Sl W va n.sv->aF 64 #[va,J ps sv.length cs] W λe w'=>∃a k c,e=By (Ik #[J a k c,U .i64 (Sv.aE n.sv sv)])/\Below W.heap.size W w'/\(Sv.aE n.sv sv=0->Sv.Own W.heap.size w' (J a k c) (Sv.av n.sv sv))):=λW va hW hva=>by
  refine(Sv.qB n.sv sv va _ W hva (FZ.out.sv.below hW)).mono ?_;rintro e w' ⟨v',rfl,hb,h1,h2⟩;by_cases h0:Sv.aE n.sv sv=0
  .obtain⟨a,c,rfl,_⟩:=aA (h2 h0)
   exact⟨a,_,c,rfl,hb,h2⟩
  .rw[h1 h0];exact⟨be,0,0,rfl,hb,λh=>absurd h h0⟩
 have HJG:Hid (∀W va,Below w0.heap.size w0 W->Gw.Sl W va n.gw->aF 65 #[va,J pg gw.length cg] W λe w'=>∃a k c,e=By (Ik #[J a k c,U .i64 (Gw.aE n.gw gw)])/\Below W.heap.size W w'/\(Gw.aE n.gw gw=0->Gw.Own W.heap.size w' (J a k c) (Gw.av n.gw gw))):=λW va hW hva=>by
  refine(Gw.qB n.gw gw va _ W hva (FZ.out.gw.below hW)).mono ?_;rintro e w' ⟨v',rfl,hb,h1,h2⟩;by_cases h0:Gw.aE n.gw gw=0
  .obtain⟨a,c,rfl,_⟩:=aA (h2 h0)
   exact⟨a,_,c,rfl,hb,h2⟩
  .rw[h1 h0];exact⟨be,0,0,rfl,hb,λh=>absurd h h0⟩
 have HJO:Hid _:=Sv.iI sv n.sv pN.out.okN.sv (Sv.dw FZ.out.sv.Hv);have HJP:Hid _:=Gw.iI gw n.gw pN.out.okN.gw (Gw.dw FZ.out.gw.Hv);have o8:Hid (∀W nd,Wk L W b nd->nd.wh=n.wh->Below w0.heap.size w0 W->wh.length<=20->aF 66 #[Ie (AI ⟨b,0,be⟩),J ph wh.length ch] W λe w'=>e=By (Ik #[])/\Sh (λk=>L<=k) W w'/\Wk L w' b { nd with wh:=Bs n.wh wh }):=λW nd hW hn hB hl=>by
  have:=El L b nd wh _ w0 W hW hL (by rw[hn];exact HWF.out) FZ.out.wh hB hBL (by omega);rw[hn] at this;exact this
 generalize Pk.e ⟨cU,whole,ms,sv,gw,wh⟩=pe at *;generalize pR n ⟨cU,whole,ms,sv,gw,wh⟩=res at *;generalize zt:ms.length=km at *;have V6:Hid _:=zt;clear zt;generalize sv.length=ks at *;generalize gw.length=kg at *;generalize wh.length=kh at *;obtain⟨W0,bJ,bM,eE,dG⟩:=bW w #[Y cU,Ia whole,J pm km cm,J ps ks cs,J pg kg cg,J ph kh ch] 53;have da:Hid _:=bM;have AM:Hid _:=dG;have LL:Hid (∀W,Sh (λk=>k=b) W0 W->Below w0.heap.size w0 W/\W.heap[w.heap.size]?=AI (.cells #[Y cU,Ia whole,J pm km cm,J ps ks cs,J pg kg cg,J ph kh ch] 53 (0,0))/\Sh (λk=>L<=k) w W/\w.heap.size<W.heap.size):=λW hW=>
  ⟨HB.out.trans ((bM.mono HB.out.size).trans (hW.below (by have:=HB.out.size;omega) (λk hk=>by omega))),(hW.block _ (by omega) (by omega)).trans dG,(Sh.of bM).trans (hW.mono (λk hk=>by omega)),by have:=hW.size;omega⟩
 clear bM dG;go_enter Tryz.func39,Tryz.ntmps39;go_wp2_with fail;rw[<- bJ];refine(nN.out W0 (LL.out W0 (Sh.refl _ _)).1).mono ?_;rintro e w1 ⟨rfl,aB⟩;have tv:Hid (Sh (λk=>k=b) W0 w1):=Sh.of aB;have MG:Hid (Wk L w1 b n):=(pN.out.below da.out).below aB;clear aB bJ;obtain⟨_,cK,V7,DK⟩:=LL.out w1 tv.out;have q2:=ae cK 2;have adx:Hid _:=V7;clear cK V7;by_cases Dc:pe=0;rotate_left
 .have aka:(pe !=0)=true:=by simpa using Dc
  have HR:Hid _:=HE.out.trans (if_neg Dc);have A6:Hid _:=Dc;clear Dc;go_wp2_with fail;go_ret;exact⟨ai HR.out.symm,adx.out,λh=>absurd (HR.out.symm.trans h) A6.out⟩
 have kz:Hid _:=HE.out.trans (if_pos Dc);obtain⟨LM,Pf,Gb⟩:=TU.out Dc;have MN:Hid _:=LM;have V8:Hid _:=Gb;subst Dc;clear HE TU LM Gb nN;go_wp2_with fail;go_loopw [18] (λi wr=>∃k:Nat,k<=km/\i=U .i64 k/\Hid (Sh (λk=>k=b) W0 wr)/\Hid (qJ n (ms.take k)=0)/\Hid (Wk L wr b (uZ n (ms.take k)))) (λi _=>km-(intOf i).toNat)
 case atStart=>exact⟨0,Nat.zero_le _,rfl,tv,rfl,MG⟩
 case round=>
  clear q2 DK;obtain⟨k,hk,rfl,HS,HZ,HW⟩:=hrel;obtain⟨yk,LN,V9,akb⟩:=LL.out wr HS.out;have HBr:Hid _:=yk;have akc:Hid _:=V9;have HGr:Hid _:=LN;clear yk V9 LN;by_cases aW:k<km
  .obtain⟨b2,o2,hp,mB,hr⟩:∃b off,pm=AI ⟨b,off,be⟩/\b<w0.heap.size/\Row w0 b off ms:=by
    rcases adv.out with h|h
    .have:=V6.out;rw[h] at this;simp at this;omega
    .exact h
   subst hp;have iH:k<ms.length:=by rw[V6.out];exact aW
   obtain⟨c0,c1,c2,c3,c4⟩:=(hr k iH).eq (λo=>HBr.out.cell (p:=⟨b2,o,be⟩) mB);clear hr;have Ga:ms.getD k dm=ms[k]:=by simp[List.getD,List.getElem?_eq_getElem iH]
   have VW:=HMZ.out k;have RO:(ms.getD k dm).e=0:=by rw[Ga];exact MN.out _ (List.getElem_mem _)
   have Hn:ms.take (k+1)=ms.take k++[ms.getD k dm]:=by rw[Ga];exact List.take_succ_eq_append_getElem iH
   obtain⟨fg,gY⟩:=C9 (ms.take k) n (ms.getD k dm);rw[<- Hn] at fg gY;have LF:Hid _:=fg;have wL:Hid _:=gY HZ.out;have Wb:Hid (mm (uZ n (ms.take k)) (ms.getD k dm)≠0->res=mm (uZ n (ms.take k)) (ms.getD k dm)):=λaM=>by
    have e1:qJ n (ms.take (k+1))≠0:=by rw[wL.out];exact aM
    have e2:=Kc (ms.take (k+1)) (ms.drop (k+1)) n e1;rw[List.take_append_drop,wL.out] at e2;exact kz.out.trans (by rw[e2,if_neg aM])
   have Sw:Hid _:=Pz (ms.take k) n MM.out (λm hm=>MN.out m (List.mem_of_mem_take hm)) HZ.out;have H8:Hid (∀W,Below wr.heap.size wr W->aF 63 #[Ie (AI ⟨b,0,be⟩),.agg #[Y (ms.getD k dm).name,U .i64 (ms.getD k dm).state,U .i64 (ms.getD k dm).aI,U .i64 (ms.getD k dm).addr,Ia (ms.getD k dm).server]] W λe w'=>e=By (U .i64 (mm (uZ n (ms.take k)) (ms.getD k dm)))/\Sh (λk=>k=b) W w'/\Hid (mm (uZ n (ms.take k)) (ms.getD k dm)=0->Wk L w' b (uZ n (ms.take (k+1))))):=λW hW=>by
    have h:=oD L b (uZ n (ms.take k)) (ms.getD k dm) W (HW.out.below hW) hL Sw.out.ms Sw.out.rs Sw.out.name RO VW;rw[<- LF.out] at h;exact h
   clear Hn fg gY Ga RO;generalize mm (uZ n (ms.take k)) (ms.getD k dm)=se at *;generalize ms.getD k dm=mk at *;obtain⟨mn,st,lf,ad,VH⟩:=mk;simp only at c0 c1 c2 c3 c4 H8;go_wp2_with fail;refine(H8.out _ ((Below.refl _ _).alloc (Nat.le_refl _) _)).mono ?_;rintro e w3 ⟨rfl,rP,ui⟩;have Sx:Hid _:=(HS.out.alloc _).trans rP;have ady:Hid _:=(LL.out w3 Sx.out).2.2.1;clear rP c0 c1 c2 c3 c4;by_cases hse:se=0
   .have qg:Hid _:=wL.out.trans hse
    have yQ:Hid (Wk _ _ _ _):=ui.out hse;subst hse;clear ui Wb wL;go_wp2_with fail;go_roundw
    case rel=>exact⟨k+1,by omega,by go_num,Sx,qg,yQ⟩
    case measure=>simp[intOf];omega
   .have Vo:(se !=0)=true:=by simpa using hse
    have HR:Hid _:=Wb.out hse;have A6:Hid _:=hse;clear hse ui Wb wL;go_wp2_with fail;go_ret;exact⟨ai HR.out.symm,ady.out,λh=>absurd (HR.out.symm.trans h) A6.out⟩
  .have sj:km=k:=by omega
   subst sj;have Hn:=List.take_of_length_le (by rw[V6.out];exact Nat.le_refl _);rw[Hn] at HZ HW;have Dd:Hid _:=kz.out.trans (if_pos HZ.out);clear Hn kz;have HRT:Hid _:=qu.out ms;generalize LO:uZ n ms=nd at *;clear LO;obtain⟨AB,ka,ca,ag_,kg2,cg2,vm2,vr2,vw2,h1,h2,h3⟩:=HW.out.Kh;rw[HRT.out.sv] at h2;rw[HRT.out.gw] at h3;have y4:=ae h1 4;have x3:=ae HGr.out 3;have Wc:Hid (aF 64 #[J AB ka ca,J ps ks cs] wr.drew λe w'=>∃a k c,e=By (Ik #[J a k c,U .i64 (Sv.aE n.sv sv)])/\Below wr.heap.size wr w'/\(Sv.aE n.sv sv=0->Sv.Own wr.heap.size w' (J a k c) (Sv.av n.sv sv))):=(HJS.out wr.drew _ HBr.out.drew h2).mono (by rintro e w' ⟨a,k,c,rfl,hb,ho⟩;exact⟨a,k,c,rfl,(Below.refl wr.heap.size wr).drew.trans hb,ho⟩);have iM:Hid (∀W,Below wr.heap.size wr W->W.heap[b]?=AI (.cells (dt nd vm2 vr2 (J AB ka ca) (J ag_ kg2 cg2) vw2) 90 (0,0))):=λW hW=>(hW.block _ HW.out.lt).trans h1;have sI:Hid (∀w1 a k c,Below wr.heap.size wr w1->(Sv.aE n.sv sv=0->Sv.Own wr.heap.size w1 (J a k c) (Sv.av n.sv sv))->Sv.aE n.sv sv=0->Wk L (w1.setCell ⟨b,4,be⟩ (J a k c)) b { nd with sv:=Sv.av n.sv sv }):=λw1 a k c g1 g2 g0=>HW.out.Bm (by have:=HW.out.lt;omega) g1 (g2 g0) HJO.out;generalize Sv.aE n.sv sv=je at *;generalize Gw.aE n.gw gw=ge at *;clear h1 h2 h3 HJS;go_wp2_with fail;go_region_with (first|(go_at_call 64;refine Wc.out.mono ?_;rintro e w4 ⟨a,k1,c,rfl,eO,Wd⟩;have ME:Hid (Sh (λk=>k=b) W0 (w4.setCell ⟨b,4,be⟩ (J a k1 c))):=(HS.out.next eO).setCell (S:=λk=>k=b) rfl _;have nH:Hid (je=0->Wk L (w4.setCell ⟨b,4,be⟩ (J a k1 c)) b { nd with sv:=Sv.av n.sv sv }):=sI.out w4 a k1 c eO Wd;have gI:=iM.out w4 eO;have z4:w4.cell? ⟨b,4,be⟩=AI (J AB ka ca):=ae gI 4;have zf:w4.frozen? ⟨b,4,be⟩=false:=an gI 4;clear eO Wd gI))
   all_goals
    obtain⟨W5,iZ⟩:∃W5,W5=w4.setCell ⟨b,4,be⟩ (J a k1 c):=⟨_,rfl⟩;rw[<- iZ] at ME nH;rw[<- iZ];clear iZ z4 zf y4 x3 iM Wc sI;obtain⟨hB5,mT,Ki,We⟩:=LL.out W5 ME.out;have gE:Hid _:=hB5;have CU:Hid _:=mT;have adz:Hid _:=Ki;clear hB5 mT Ki;by_cases hje:je=0;rotate_left
    .have akk:(je !=0)=true:=by simpa using hje
     have HR:Hid _:=Dd.out.trans (if_neg hje);have A6:Hid _:=hje;clear hje;go_wp2_with fail;go_ret;exact⟨ai HR.out.symm,adz.out,λh=>absurd (HR.out.symm.trans h) A6.out⟩
    .have Pg:Hid (Wk _ _ _ _):=nH.out hje
     have HE4:Hid _:=Dd.out.trans (if_pos hje);subst hje;clear nH Dd;obtain⟨as3,ka3,DU,ag3,kg3,cg3,vm3,vr3,vw3,h1,_,h3⟩:=Pg.out.Kh;have h3:Gw.Sl W5 (J ag3 kg3 cg3) n.gw:=by rw[<- HRT.out.gw];exact h3
     have y5:=ae h1 5;have x4:=ae CU.out 4;have Wc:Hid (aF 65 #[J ag3 kg3 cg3,J pg kg cg] W5.drew λe w'=>∃a k c,e=By (Ik #[J a k c,U .i64 ge])/\Below W5.heap.size W5 w'/\(ge=0->Gw.Own W5.heap.size w' (J a k c) (Gw.av n.gw gw))):=(HJG.out W5.drew _ gE.out.drew h3).mono (by rintro e w' ⟨a,k,c,rfl,hb,ho⟩;exact⟨a,k,c,rfl,(Below.refl W5.heap.size W5).drew.trans hb,ho⟩);have iM:Hid (∀W,Below W5.heap.size W5 W->W.heap[b]?=AI (.cells (dt { nd with sv:=Sv.av n.sv sv } vm3 vr3 (J as3 ka3 DU) (J ag3 kg3 cg3) vw3) 90 (0,0))):=λW hW=>(hW.block _ Pg.out.lt).trans h1;have sI:Hid (∀w1 a k c,Below W5.heap.size W5 w1->(ge=0->Gw.Own W5.heap.size w1 (J a k c) (Gw.av n.gw gw))->ge=0->Wk L (w1.setCell ⟨b,5,be⟩ (J a k c)) b { nd with sv:=Sv.av n.sv sv,gw:=Gw.av n.gw gw }):=λw1 a k c g1 g2 g0=>Pg.out.Hu (by have:=Pg.out.lt;omega) g1 (g2 g0) HJP.out;clear h1 h3;go_wp2_with fail;go_region_with (first|(go_at_call 65;refine Wc.out.mono ?_;rintro e w6 ⟨a6,k6,c6,rfl,rR,Wf⟩;have HS6:Hid (Sh (λk=>k=b) W0 (w6.setCell ⟨b,5,be⟩ (J a6 k6 c6))):=(ME.out.next rR).setCell (S:=λk=>k=b) rfl _;have yo:Hid (ge=0->Wk L (w6.setCell ⟨b,5,be⟩ (J a6 k6 c6)) b { nd with sv:=Sv.av n.sv sv,gw:=Gw.av n.gw gw }):=sI.out w6 a6 k6 c6 rR Wf;have gI:=iM.out w6 rR;have z5:w6.cell? ⟨b,5,be⟩=AI (J ag3 kg3 cg3):=ae gI 5;have zf:w6.frozen? ⟨b,5,be⟩=false:=an gI 5;clear rR Wf gI))
     all_goals
      obtain⟨W7,Ep⟩:∃W7,W7=w6.setCell ⟨b,5,be⟩ (J a6 k6 c6):=⟨_,rfl⟩;rw[<- Ep] at HS6 yo;rw[<- Ep];clear Ep z5 zf y5 x4 iM Wc sI;obtain⟨hB7,hg7,Wg,akq⟩:=LL.out W7 HS6.out;have DW:Hid _:=hB7;have Wi:Hid _:=Wg;have x5:=ae hg7 5;clear hB7 hg7 Wg;by_cases yO:ge=0;rotate_left
      .have Vn:(ge !=0)=true:=by simpa using yO
       have A6:Hid _:=yO;clear yO;go_wp2_with fail;go_ret;exact⟨ai HE4.out.symm,Wi.out,λh=>absurd (HE4.out.symm.trans h) A6.out⟩
      .have HLC:=o8.out W7 { nd with sv:=Sv.av n.sv sv,gw:=Gw.av n.gw gw } (yo.out yO) HRT.out.wh DW.out V8.out
       have Es:Hid _:=HE4.out.trans yO;subst yO;clear yo;go_wp2_with fail;refine HLC.mono ?_;rintro e w8 ⟨rfl,Wj,TV⟩;have HS8:Hid _:=Wi.out.trans Wj;have HK8:Hid (Wk L w8 b (rQ n ⟨cU,whole,ms,sv,gw,wh⟩)):=by rw[Su.out];exact TV
       clear Wj TV;go_wp2_with fail;go_ret;exact⟨ai Es.out.symm,HS8.out,λ_=>HK8.out⟩
end Go.Proofs.YtfidhgjmifendaaGreatDoor
