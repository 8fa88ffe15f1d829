import Derived.Test.YtbfghimjdlpicaaGreatDoorna18
set_option maxHeartbeats 51200000
set_option maxRecDepth 100000
open Go.Value renaming slice→J,pointer→If,string→Y,bool→Ia,int→U,tuple→Ip
open Option renaming some→AI,none→be
open Go.Ending renaming returned→AT
namespace Go.Proofs.YtbfghimjdlpicaaGreatDoor
open Go.RowKit
theorem Wk.M1{L b:Nat}{W:World}{n:Nd}(h:Wk L W b n):∃a k c a2 k2 c2 vm vr vw,W.heap[b]?=AI (.cells (dE n vm vr (J a k c) (J a2 k2 c2) vw) 107 (0,0))/\Sv.Sl W (J a k c) n.sv/\Gw.Sl W (J a2 k2 c2) n.gw:=by
 obtain⟨vm,vr,vs,vg,vw,h1,h2,h3,h4⟩:=h;obtain⟨a,c,hv,_⟩:=aE h2.sv;obtain⟨a2,c2,Fk,_⟩:=aE h2.gw;subst hv Fk;exact⟨a,_,c,a2,_,c2,vm,vr,vw,h1,(h2.is h4).sv,(h2.is h4).gw⟩
theorem Wk.okN{L b:Nat}{W:World}{n:Nd}(h:Wk L W b n):iE n:=by
 obtain⟨_,_,_,_,_,_,_,_,h4⟩:=h;exact h4
theorem Sv.Sl.MM{w:World}{v:Value}{ms:List Sv.aV}(h:Sv.Sl w v ms):∀j,(ms.getD j Sv.dm).ok:=by
 obtain⟨_,_,_,h2,_⟩:=h;exact h2
theorem Gw.Sl.MM{w:World}{v:Value}{ms:List Gw.bN}(h:Gw.Sl w v ms):∀j,(ms.getD j Gw.dm).ok:=by
 obtain⟨_,_,_,h2,_⟩:=h;exact h2
theorem Hb(L b:Nat)(n:Nd)(p:Pk)(vm vs vg vw:Value)(w0 w:World)(h:Wk L w b n)(hL:L<=b)(xj:Sp n)(Lu:Sv.bp n.sv=0)(wW:Gw.bp n.gw=0)(pF:Wh.qA n.wh)(hx:lz w0 p vm vs vg vw)(hB:Below w0.heap.size w0 w)(hBL:w0.heap.size<=L)(hlen:p.whole=true\/p.sv.length+p.gw.length+p.wh.length<=4611686018427387904) :
 aK 34 #[If (AI ⟨b,0,be⟩),.agg #[Y p.du,Ia p.whole,vm,vs,vg,vw]] w λe w'=>e=AT (U .i64 (nr n p))/\Sh (λk=>L<=k) w w'/\Hid (nr n p=0->Wk L w' b (ox n p)):=by
 have rJ:Hid (Wk L w b n):=h;have aO:=h.lt;have HB:Hid _:=hB;have Sg:Hid _:=xj;have HE:Hid (nr n p=if p.e=0 then(if nj n p.ms=0 then(if Sv.aJ n.sv p.sv=0 then Gw.aJ n.gw p.gw else Sv.aJ n.sv p.sv) else nj n p.ms) else p.e):=rfl;have Si:Hid (ox n p={ tv n p.ms with sv:=Sv.aB n.sv p.sv,gw:=Gw.aB n.gw p.gw,wh:=Df n.wh p.wh }):=rfl;have od:Hid (∀W,Below w0.heap.size w0 W->aK _ _ _ _):=λW hW=>mU p vm vs vg vw W (hx.below hW) hlen;have HPM:Hid (p.e=0->(∀m∈p.ms,m.e=0)/\p.ms.length<=20/\p.wh.length<=20):=λh=>⟨(pO h).1,(pO h).2.1,(Wh.aj (pO h).2.2.1).1⟩;have LJ:Hid _:=hx;have xk:Hid (∀l,Rest n (tv n l)):=λl=>np l n;have HSV:Hid _:=Lu;have HGW:Hid _:=wW;have HWF:Hid _:=pF;obtain⟨du,whole,ms,sv,gw,wh⟩:=p;obtain⟨gE,abI,abJ,abK,P7,dN⟩:=hx;simp only at gE abI abJ abK hlen HE Si od HPM;obtain⟨pm,cm,rfl,My,Mz⟩:=gE;obtain⟨ps,cs,rfl,_,_⟩:=abI;obtain⟨pg,cg,rfl,_,_⟩:=abJ;obtain⟨ph,ch,rfl,_,_⟩:=abK;have ahi:Hid _:=Mz;have HMZ:Hid _:=My;clear My Mz h hB xj Lu wW pF hlen dN P7;have HJS:Hid (∀W va,Below w0.heap.size w0 W->Sv.Sl W va n.sv->aK 61 #[va,J ps sv.length cs] W λe w'=>∃a k c,e=AT (Ip #[J a k c,U .i64 (Sv.aJ n.sv sv)])/\Below W.heap.size W w'/\(Sv.aJ n.sv sv=0->Sv.Own W.heap.size w' (J a k c) (Sv.aB n.sv sv))):=λW va hW hva=>by
  refine(Sv.sM n.sv sv va _ W hva (LJ.out.sv.below hW)).mono ?_;rintro e w' ⟨v',rfl,hb,h1,h2⟩;by_cases h0:Sv.aJ n.sv sv=0
  .obtain⟨a,c,rfl,_⟩:=aE (h2 h0)
   exact⟨a,_,c,rfl,hb,h2⟩
  .rw[h1 h0];exact⟨be,0,0,rfl,hb,λh=>absurd h h0⟩
 have HJG:Hid (∀W va,Below w0.heap.size w0 W->Gw.Sl W va n.gw->aK 62 #[va,J pg gw.length cg] W λe w'=>∃a k c,e=AT (Ip #[J a k c,U .i64 (Gw.aJ n.gw gw)])/\Below W.heap.size W w'/\(Gw.aJ n.gw gw=0->Gw.Own W.heap.size w' (J a k c) (Gw.aB n.gw gw))):=λW va hW hva=>by
  refine(Gw.sM n.gw gw va _ W hva (LJ.out.gw.below hW)).mono ?_;rintro e w' ⟨v',rfl,hb,h1,h2⟩;by_cases h0:Gw.aJ n.gw gw=0
  .obtain⟨a,c,rfl,_⟩:=aE (h2 h0)
   exact⟨a,_,c,rfl,hb,h2⟩
  .rw[h1 h0];exact⟨be,0,0,rfl,hb,λh=>absurd h h0⟩
 have HJO:Hid _:=Sv.iP sv n.sv rJ.out.okN.sv (Sv.dI LJ.out.sv.MM);have HJP:Hid _:=Gw.iP gw n.gw rJ.out.okN.gw (Gw.dI LJ.out.gw.MM);have pM:Hid (∀W nd,Wk L W b nd->nd.wh=n.wh->Below w0.heap.size w0 W->wh.length<=20->aK 63 #[If (AI ⟨b,0,be⟩),J ph wh.length ch] W λe w'=>e=AT (Ip #[])/\Sh (λk=>L<=k) W w'/\Wk L w' b { nd with wh:=Df n.wh wh }):=λW nd hW hn hB hl=>by
  have:=G9 L b nd wh _ w0 W hW hL (by rw[hn];exact HWF.out) LJ.out.wh hB hBL (by omega);rw[hn] at this;exact this
 generalize Pk.e ⟨du,whole,ms,sv,gw,wh⟩=pe at *;generalize nr n ⟨du,whole,ms,sv,gw,wh⟩=res at *;generalize Bg:ms.length=km at *;have HKM:Hid _:=Bg;clear Bg;generalize sv.length=ks at *;generalize gw.length=kg at *;generalize wh.length=kh at *;obtain⟨W0,bP,bK,fj,dX⟩:=bV w #[Y du,Ia whole,J pm km cm,J ps ks cs,J pg kg cg,J ph kh ch] 61;have df:Hid _:=bK;have Aq:Hid _:=dX;have P8:Hid (∀W,Sh (λk=>k=b) W0 W->Below w0.heap.size w0 W/\W.heap[w.heap.size]?=AI (.cells #[Y du,Ia whole,J pm km cm,J ps ks cs,J pg kg cg,J ph kh ch] 61 (0,0))/\Sh (λk=>L<=k) w W/\w.heap.size<W.heap.size):=λW hW=>
  ⟨HB.out.trans ((bK.mono HB.out.size).trans (hW.below (by have:=HB.out.size;omega) (λk hk=>by omega))),(hW.block _ (by omega) (by omega)).trans dX,(Sh.of bK).trans (hW.mono (λk hk=>by omega)),by have:=hW.size;omega⟩
 clear bK dX;go_enter Tryz.func34,Tryz.ntmps34;go_wp2_with fail;rw[<- bP];refine(od.out W0 (P8.out W0 (Sh.refl _ _)).1).mono ?_;rintro e w1 ⟨rfl,aC⟩;have vh:Hid (Sh (λk=>k=b) W0 w1):=Sh.of aC;have Sd:Hid (Wk L w1 b n):=(rJ.out.below df.out).below aC;clear aC bP;obtain⟨_,cI,abM,Gm⟩:=P8.out w1 vh.out;have q2:=ae cI 2;have ahk:Hid _:=abM;clear cI abM;by_cases Fl:pe=0;rotate_left
 .have aom:(pe !=0)=true:=by simpa using Fl
  have HR:Hid _:=HE.out.trans (if_neg Fl);have CI:Hid _:=Fl;clear Fl;go_wp2_with fail;go_ret;exact⟨an HR.out.symm,ahk.out,λh=>absurd (HR.out.symm.trans h) CI.out⟩
 have lP:Hid _:=HE.out.trans (if_pos Fl);obtain⟨Bn,Mx,Lv⟩:=HPM.out Fl;have RG:Hid _:=Bn;have HWL:Hid _:=Lv;subst Fl;clear HE HPM Bn Lv od;go_wp2_with fail;go_loopw [18] (λi wr=>∃k:Nat,k<=km/\i=U .i64 k/\Hid (Sh (λk=>k=b) W0 wr)/\Hid (nj n (ms.take k)=0)/\Hid (Wk L wr b (tv n (ms.take k)))) (λi _=>km-(intOf i).toNat)
 case atStart=>exact⟨0,Nat.zero_le _,rfl,vh,rfl,Sd⟩
 case round=>
  clear q2 Gm;obtain⟨k,hk,rfl,HS,HZ,HW⟩:=hrel;obtain⟨AA,P9,abO,aon⟩:=P8.out wr HS.out;have HBr:Hid _:=AA;have aoo:Hid _:=abO;have HGr:Hid _:=P9;clear AA abO P9;by_cases aX:k<km
  .obtain⟨b2,o2,hp,jE,hr⟩:∃b off,pm=AI ⟨b,off,be⟩/\b<w0.heap.size/\Row w0 b off ms:=by
    rcases ahi.out with h|h
    .have:=HKM.out;rw[h] at this;simp at this;omega
    .exact h
   subst hp;have ie:k<ms.length:=by rw[HKM.out];exact aX
   obtain⟨c0,c1,c2,c3,c4⟩:=(hr k ie).eq (λo=>HBr.out.cell (p:=⟨b2,o,be⟩) jE);clear hr;have LF:ms.getD k dm=ms[k]:=by simp[List.getD,List.getElem?_eq_getElem ie]
   have hmz:=HMZ.out k;have RS:(ms.getD k dm).e=0:=by rw[LF];exact RG.out _ (List.getElem_mem _)
   have CO:ms.take (k+1)=ms.take k++[ms.getD k dm]:=by rw[LF];exact List.take_succ_eq_append_getElem ie
   obtain⟨fO,jb⟩:=Fj (ms.take k) n (ms.getD k dm);rw[<- CO] at fO jb;have Gv:Hid _:=fO;have yS:Hid _:=jb HZ.out;have HBD:Hid (lR (tv n (ms.take k)) (ms.getD k dm)≠0->res=lR (tv n (ms.take k)) (ms.getD k dm)):=λaP=>by
    have e1:nj n (ms.take (k+1))≠0:=by rw[yS.out];exact aP
    have e2:=MZ (ms.take (k+1)) (ms.drop (k+1)) n e1;rw[List.take_append_drop,yS.out] at e2;exact lP.out.trans (by rw[e2,if_neg aP])
   have WG:Hid _:=M0 (ms.take k) n Sg.out (λm hm=>RG.out m (List.mem_of_mem_take hm)) HZ.out;have MV:Hid (∀W,Below wr.heap.size wr W->aK 60 #[If (AI ⟨b,0,be⟩),.agg #[Y (ms.getD k dm).name,U .i64 (ms.getD k dm).state,U .i64 (ms.getD k dm).aI,U .i64 (ms.getD k dm).addr,Ia (ms.getD k dm).server]] W λe w'=>e=AT (U .i64 (lR (tv n (ms.take k)) (ms.getD k dm)))/\Sh (λk=>k=b) W w'/\Hid (lR (tv n (ms.take k)) (ms.getD k dm)=0->Wk L w' b (tv n (ms.take (k+1))))):=λW hW=>by
    have h:=qD L b (tv n (ms.take k)) (ms.getD k dm) W (HW.out.below hW) hL WG.out.ms WG.out.rs WG.out.name RS hmz;rw[<- Gv.out] at h;exact h
   clear CO fO jb LF RS;generalize lR (tv n (ms.take k)) (ms.getD k dm)=se at *;generalize ms.getD k dm=mk at *;obtain⟨mn,st,lf,ad,sv2⟩:=mk;simp only at c0 c1 c2 c3 c4 MV;go_wp2_with fail;refine(MV.out _ ((Below.refl _ _).alloc (Nat.le_refl _) _)).mono ?_;rintro e w3 ⟨rfl,tR,wK⟩;have WH:Hid _:=(HS.out.alloc _).trans tR;have ahl:Hid _:=(P8.out w3 WH.out).2.2.1;clear tR c0 c1 c2 c3 c4;by_cases hse:se=0
   .have qV:Hid _:=yS.out.trans hse
    have yd:Hid (Wk _ _ _ _):=wK.out hse;subst hse;clear wK HBD yS;go_wp2_with fail;go_roundw
    case rel=>exact⟨k+1,by omega,by go_num,WH,qV,yd⟩
    case measure=>simp[intOf];omega
   .have abd:(se !=0)=true:=by simpa using hse
    have HR:Hid _:=HBD.out hse;have CI:Hid _:=hse;clear hse wK HBD yS;go_wp2_with fail;go_ret;exact⟨an HR.out.symm,ahl.out,λh=>absurd (HR.out.symm.trans h) CI.out⟩
  .have tw:km=k:=by omega
   subst tw;have CO:=List.take_of_length_le (by rw[HKM.out];exact Nat.le_refl _);rw[CO] at HZ HW;have Bo:Hid _:=lP.out.trans (if_pos HZ.out);clear CO lP;have Cn:Hid _:=xk.out ms;generalize GL:tv n ms=nd at *;clear GL;obtain⟨zp,ka,ca,ag_,kg2,cg2,vm2,vr2,vw2,h1,h2,h3⟩:=HW.out.M1;rw[Cn.out.sv] at h2;rw[Cn.out.gw] at h3;have y4:=ae h1 4;have x3:=ae HGr.out 3;have HJC:Hid (aK 61 #[J zp ka ca,J ps ks cs] wr.drew λe w'=>∃a k c,e=AT (Ip #[J a k c,U .i64 (Sv.aJ n.sv sv)])/\Below wr.heap.size wr w'/\(Sv.aJ n.sv sv=0->Sv.Own wr.heap.size w' (J a k c) (Sv.aB n.sv sv))):=(HJS.out wr.drew _ HBr.out.drew h2).mono (by rintro e w' ⟨a,k,c,rfl,hb,ho⟩;exact⟨a,k,c,rfl,(Below.refl wr.heap.size wr).drew.trans hb,ho⟩);have lx:Hid (∀W,Below wr.heap.size wr W->W.heap[b]?=AI (.cells (dE nd vm2 vr2 (J zp ka ca) (J ag_ kg2 cg2) vw2) 107 (0,0))):=λW hW=>(hW.block _ HW.out.lt).trans h1;have qB:Hid (∀w1 a k c,Below wr.heap.size wr w1->(Sv.aJ n.sv sv=0->Sv.Own wr.heap.size w1 (J a k c) (Sv.aB n.sv sv))->Sv.aJ n.sv sv=0->Wk L (w1.setCell ⟨b,4,be⟩ (J a k c)) b { nd with sv:=Sv.aB n.sv sv }):=λw1 a k c g1 g2 g0=>HW.out.CV (by have:=HW.out.lt;omega) g1 (g2 g0) HJO.out;generalize Sv.aJ n.sv sv=je at *;generalize Gw.aJ n.gw gw=ge at *;clear h1 h2 h3 HJS;go_wp2_with fail;go_region_with (first|(go_at_call 61;refine HJC.out.mono ?_;rintro e w4 ⟨a,k1,c,rfl,eV,ho4⟩;have LA:Hid (Sh (λk=>k=b) W0 (w4.setCell ⟨b,4,be⟩ (J a k1 c))):=(HS.out.next eV).setCell (S:=λk=>k=b) rfl _;have pB:Hid (je=0->Wk L (w4.setCell ⟨b,4,be⟩ (J a k1 c)) b { nd with sv:=Sv.aB n.sv sv }):=qB.out w4 a k1 c eV ho4;have iH:=lx.out w4 eV;have z4:w4.cell? ⟨b,4,be⟩=AI (J zp ka ca):=ae iH 4;have zf:w4.frozen? ⟨b,4,be⟩=false:=aA iH 4;clear eV ho4 iH))
   all_goals
    obtain⟨W5,iF⟩:∃W5,W5=w4.setCell ⟨b,4,be⟩ (J a k1 c):=⟨_,rfl⟩;rw[<- iF] at LA pB;rw[<- iF];clear iF z4 zf y4 x3 lx HJC qB;obtain⟨hB5,mc,M3,abo⟩:=P8.out W5 LA.out;have jd:Hid _:=hB5;have Fb:Hid _:=mc;have ahm:Hid _:=M3;clear hB5 mc M3;by_cases hje:je=0;rotate_left
    .have aow:(je !=0)=true:=by simpa using hje
     have HR:Hid _:=Bo.out.trans (if_neg hje);have CI:Hid _:=hje;clear hje;go_wp2_with fail;go_ret;exact⟨an HR.out.symm,ahm.out,λh=>absurd (HR.out.symm.trans h) CI.out⟩
    .have Vg:Hid (Wk _ _ _ _):=pB.out hje
     have HE4:Hid _:=Bo.out.trans (if_pos hje);subst hje;clear pB Bo;obtain⟨as3,ka3,Gt,ag3,kg3,cg3,vm3,vr3,vw3,h1,_,h3⟩:=Vg.out.M1;have h3:Gw.Sl W5 (J ag3 kg3 cg3) n.gw:=by rw[<- Cn.out.gw];exact h3
     have y5:=ae h1 5;have x4:=ae Fb.out 4;have HJC:Hid (aK 62 #[J ag3 kg3 cg3,J pg kg cg] W5.drew λe w'=>∃a k c,e=AT (Ip #[J a k c,U .i64 ge])/\Below W5.heap.size W5 w'/\(ge=0->Gw.Own W5.heap.size w' (J a k c) (Gw.aB n.gw gw))):=(HJG.out W5.drew _ jd.out.drew h3).mono (by rintro e w' ⟨a,k,c,rfl,hb,ho⟩;exact⟨a,k,c,rfl,(Below.refl W5.heap.size W5).drew.trans hb,ho⟩);have lx:Hid (∀W,Below W5.heap.size W5 W->W.heap[b]?=AI (.cells (dE { nd with sv:=Sv.aB n.sv sv } vm3 vr3 (J as3 ka3 Gt) (J ag3 kg3 cg3) vw3) 107 (0,0))):=λW hW=>(hW.block _ Vg.out.lt).trans h1;have qB:Hid (∀w1 a k c,Below W5.heap.size W5 w1->(ge=0->Gw.Own W5.heap.size w1 (J a k c) (Gw.aB n.gw gw))->ge=0->Wk L (w1.setCell ⟨b,5,be⟩ (J a k c)) b { nd with sv:=Sv.aB n.sv sv,gw:=Gw.aB n.gw gw }):=λw1 a k c g1 g2 g0=>Vg.out.MG (by have:=Vg.out.lt;omega) g1 (g2 g0) HJP.out;clear h1 h3;go_wp2_with fail;go_region_with (first|(go_at_call 62;refine HJC.out.mono ?_;rintro e w6 ⟨a6,k6,c6,rfl,tN,ho6⟩;have HS6:Hid (Sh (λk=>k=b) W0 (w6.setCell ⟨b,5,be⟩ (J a6 k6 c6))):=(LA.out.next tN).setCell (S:=λk=>k=b) rfl _;have Ar:Hid (ge=0->Wk L (w6.setCell ⟨b,5,be⟩ (J a6 k6 c6)) b { nd with sv:=Sv.aB n.sv sv,gw:=Gw.aB n.gw gw }):=qB.out w6 a6 k6 c6 tN ho6;have iH:=lx.out w6 tN;have z5:w6.cell? ⟨b,5,be⟩=AI (J ag3 kg3 cg3):=ae iH 5;have zf:w6.frozen? ⟨b,5,be⟩=false:=aA iH 5;clear tN ho6 iH))
     all_goals
      obtain⟨W7,Hc⟩:∃W7,W7=w6.setCell ⟨b,5,be⟩ (J a6 k6 c6):=⟨_,rfl⟩;rw[<- Hc] at HS6 Ar;rw[<- Hc];clear Hc z5 zf y5 x4 lx HJC qB;obtain⟨hB7,hg7,abS,aoC⟩:=P8.out W7 HS6.out;have Gx:Hid _:=hB7;have abT:Hid _:=abS;have x5:=ae hg7 5;clear hB7 hg7 abS;by_cases AV:ge=0;rotate_left
      .have abc:(ge !=0)=true:=by simpa using AV
       have CI:Hid _:=AV;clear AV;go_wp2_with fail;go_ret;exact⟨an HE4.out.symm,abT.out,λh=>absurd (HE4.out.symm.trans h) CI.out⟩
      .have HLC:=pM.out W7 { nd with sv:=Sv.aB n.sv sv,gw:=Gw.aB n.gw gw } (Ar.out AV) Cn.out.wh Gx.out HWL.out
       have Hd:Hid _:=HE4.out.trans AV;subst AV;clear Ar;go_wp2_with fail;refine HLC.mono ?_;rintro e w8 ⟨rfl,hs8,hk8⟩;have HS8:Hid _:=abT.out.trans hs8;have HK8:Hid (Wk L w8 b (ox n ⟨du,whole,ms,sv,gw,wh⟩)):=by rw[Si.out];exact hk8
       clear hs8 hk8;go_wp2_with fail;go_ret;exact⟨an Hd.out.symm,HS8.out,λ_=>HK8.out⟩
end Go.Proofs.YtbfghimjdlpicaaGreatDoor
