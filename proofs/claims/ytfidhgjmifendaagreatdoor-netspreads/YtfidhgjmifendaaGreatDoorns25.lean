import Derived.Test.YtfidhgjmifendaaGreatDoorns24
set_option maxHeartbeats 51200000
set_option maxRecDepth 100000
open Go.Value renaming slice→J,pointer→Ie,string→Y,bool→Ia,int→U,tuple→Ik
open Option renaming some→AI,none→be
open Go.Ending renaming returned→AT
namespace Go.Proofs.YtfidhgjmifendaaGreatDoor
open Go.RowKit
theorem Wk.KK{L b:Nat}{W:World}{n:Nd}(h:Wk L W b n):∃a k c a2 k2 c2 vm vr vw,W.heap[b]?=AI (.cells (dv n vm vr (J a k c) (J a2 k2 c2) vw) 90 (0,0))/\Sv.Sl W (J a k c) n.sv/\Gw.Sl W (J a2 k2 c2) n.gw:=by
 obtain⟨vm,vr,vs,vg,vw,h1,h2,h3,h4⟩:=h;obtain⟨a,c,hv,_⟩:=aA h2.sv;obtain⟨a2,c2,P5,_⟩:=aA h2.gw;subst hv P5;exact⟨a,_,c,a2,_,c2,vm,vr,vw,h1,(h2.is h4).sv,(h2.is h4).gw⟩
theorem Wk.okN{L b:Nat}{W:World}{n:Nd}(h:Wk L W b n):iw n:=by
 obtain⟨_,_,_,_,_,_,_,_,h4⟩:=h;exact h4
theorem Sv.Sl.Ku{w:World}{v:Value}{ms:List Sv.aY}(h:Sv.Sl w v ms):∀j,(ms.getD j Sv.dm).ok:=by
 obtain⟨_,_,_,h2,_⟩:=h;exact h2
theorem Gw.Sl.Ku{w:World}{v:Value}{ms:List Gw.bL}(h:Gw.Sl w v ms):∀j,(ms.getD j Gw.dm).ok:=by
 obtain⟨_,_,_,h2,_⟩:=h;exact h2
theorem EP(L b:Nat)(n:Nd)(p:Pk)(vm vs vg vw:Value)(w0 w:World)(h:Wk L w b n)(hL:L<=b)(tZ:Sp n)(Gy:Sv.bl n.sv=0)(vh:Gw.bl n.gw=0)(n9:Wh.o6 n.wh)(hx:kz w0 p vm vs vg vw)(hB:Below w0.heap.size w0 w)(hBL:w0.heap.size<=L)(hlen:p.whole=true\/p.sv.length+p.gw.length+p.wh.length<=4611686018427387904) :
 aI 39 #[Ie (AI ⟨b,0,be⟩),.agg #[Y p.cV,Ia p.whole,vm,vs,vg,vw]] w λe w'=>e=AT (U .i64 (ou n p))/\Sh (λk=>L<=k) w w'/\Hid (ou n p=0->Wk L w' b (og n p)):=by
 have qj:Hid (Wk L w b n):=h;have aR:=h.lt;have HB:Hid _:=hB;have Nq:Hid _:=tZ;have HE:Hid (ou n p=if p.e=0 then(if oe n p.ms=0 then(if Sv.aE n.sv p.sv=0 then Gw.aE n.gw p.gw else Sv.aE n.sv p.sv) else oe n p.ms) else p.e):=rfl;have SN:Hid (og n p={ tU n p.ms with sv:=Sv.av n.sv p.sv,gw:=Gw.av n.gw p.gw,wh:=B4 n.wh p.wh }):=rfl;have oq:Hid (∀W,Below w0.heap.size w0 W->aI _ _ _ _):=λW hW=>lR p vm vs vg vw W (hx.below hW) hlen;have HPM:Hid (p.e=0->(∀m∈p.ms,m.e=0)/\p.ms.length<=20/\p.wh.length<=20):=λh=>⟨(tV h).1,(tV h).2.1,(Wh.af (tV h).2.2.1).1⟩;have Gz:Hid _:=hx;have vu:Hid (∀l,Rest n (tU n l)):=λl=>sN l n;have HSV:Hid _:=Gy;have HGW:Hid _:=vh;have HWF:Hid _:=n9;obtain⟨cV,whole,ms,sv,gw,wh⟩:=p;obtain⟨gQ,Wr,Ws,Wt,Mc,dz⟩:=hx;simp only at gQ Wr Ws Wt hlen HE SN oq HPM;obtain⟨pm,cm,rfl,HQ,H5⟩:=gQ;obtain⟨ps,cs,rfl,_,_⟩:=Wr;obtain⟨pg,cg,rfl,_,_⟩:=Ws;obtain⟨ph,ch,rfl,_,_⟩:=Wt;have aek:Hid _:=H5;have HMZ:Hid _:=HQ;clear HQ H5 h hB tZ Gy vh n9 hlen dz Mc;have HJS:Hid (∀W va,Below w0.heap.size w0 W->Sv.Sl W va n.sv->aI 64 #[va,J ps sv.length cs] W λe w'=>∃a k c,e=AT (Ik #[J a k c,U .i64 (Sv.aE n.sv sv)])/\Below W.heap.size W w'/\(Sv.aE n.sv sv=0->Sv.Own W.heap.size w' (J a k c) (Sv.av n.sv sv))):=λW va hW hva=>by
  refine(Sv.qX n.sv sv va _ W hva (Gz.out.sv.below hW)).mono ?_;rintro e w' ⟨v',rfl,hb,h1,h2⟩;by_cases h0:Sv.aE n.sv sv=0
  .obtain⟨a,c,rfl,_⟩:=aA (h2 h0)
   exact⟨a,_,c,rfl,hb,h2⟩
  .rw[h1 h0];exact⟨be,0,0,rfl,hb,λh=>absurd h h0⟩
 have HJG:Hid (∀W va,Below w0.heap.size w0 W->Gw.Sl W va n.gw->aI 65 #[va,J pg gw.length cg] W λe w'=>∃a k c,e=AT (Ik #[J a k c,U .i64 (Gw.aE n.gw gw)])/\Below W.heap.size W w'/\(Gw.aE n.gw gw=0->Gw.Own W.heap.size w' (J a k c) (Gw.av n.gw gw))):=λW va hW hva=>by
  refine(Gw.qX n.gw gw va _ W hva (Gz.out.gw.below hW)).mono ?_;rintro e w' ⟨v',rfl,hb,h1,h2⟩;by_cases h0:Gw.aE n.gw gw=0
  .obtain⟨a,c,rfl,_⟩:=aA (h2 h0)
   exact⟨a,_,c,rfl,hb,h2⟩
  .rw[h1 h0];exact⟨be,0,0,rfl,hb,λh=>absurd h h0⟩
 have HJO:Hid _:=Sv.iU sv n.sv qj.out.okN.sv (Sv.dy Gz.out.sv.Ku);have HJP:Hid _:=Gw.iU gw n.gw qj.out.okN.gw (Gw.dy Gz.out.gw.Ku);have pW:Hid (∀W nd,Wk L W b nd->nd.wh=n.wh->Below w0.heap.size w0 W->wh.length<=20->aI 66 #[Ie (AI ⟨b,0,be⟩),J ph wh.length ch] W λe w'=>e=AT (Ik #[])/\Sh (λk=>L<=k) W w'/\Wk L w' b { nd with wh:=B4 n.wh wh }):=λW nd hW hn hB hl=>by
  have:=EK L b nd wh _ w0 W hW hL (by rw[hn];exact HWF.out) Gz.out.wh hB hBL (by omega);rw[hn] at this;exact this
 generalize Pk.e ⟨cV,whole,ms,sv,gw,wh⟩=pe at *;generalize ou n ⟨cV,whole,ms,sv,gw,wh⟩=res at *;generalize tQ:ms.length=km at *;have HKM:Hid _:=tQ;clear tQ;generalize sv.length=ks at *;generalize gw.length=kg at *;generalize wh.length=kh at *;obtain⟨W0,bN,bO,eK,dI⟩:=bY w #[Y cV,Ia whole,J pm km cm,J ps ks cs,J pg kg cg,J ph kh ch] 53;have db:Hid _:=bO;have Bf:Hid _:=dI;have Mn:Hid (∀W,Sh (λk=>k=b) W0 W->Below w0.heap.size w0 W/\W.heap[w.heap.size]?=AI (.cells #[Y cV,Ia whole,J pm km cm,J ps ks cs,J pg kg cg,J ph kh ch] 53 (0,0))/\Sh (λk=>L<=k) w W/\w.heap.size<W.heap.size):=λW hW=>
  ⟨HB.out.trans ((bO.mono HB.out.size).trans (hW.below (by have:=HB.out.size;omega) (λk hk=>by omega))),(hW.block _ (by omega) (by omega)).trans dI,(Sh.of bO).trans (hW.mono (λk hk=>by omega)),by have:=hW.size;omega⟩
 clear bO dI;go_enter Tryz.func39,Tryz.ntmps39;go_wp2_with fail;rw[<- bN];refine(oq.out W0 (Mn.out W0 (Sh.refl _ _)).1).mono ?_;rintro e w1 ⟨rfl,aB⟩;have tR:Hid (Sh (λk=>k=b) W0 w1):=Sh.of aB;have Ni:Hid (Wk L w1 b n):=(qj.out.below db.out).below aB;clear aB bN;obtain⟨_,cO,Wu,D7⟩:=Mn.out w1 tR.out;have q2:=ae cO 2;have aen:Hid _:=Wu;clear cO Wu;by_cases DA:pe=0;rotate_left
 .have alk:(pe !=0)=true:=by simpa using DA
  have HR:Hid _:=HE.out.trans (if_neg DA);have Bu:Hid _:=DA;clear DA;go_wp2_with fail;go_ret;exact⟨ai HR.out.symm,aen.out,λh=>absurd (HR.out.symm.trans h) Bu.out⟩
 have kM:Hid _:=HE.out.trans (if_pos DA);obtain⟨Dy,Bg,GC⟩:=HPM.out DA;have Nr:Hid _:=Dy;have Wv:Hid _:=GC;subst DA;clear HE HPM Dy GC oq;go_wp2_with fail;go_loopw [18] (λi wr=>∃k:Nat,k<=km/\i=U .i64 k/\Hid (Sh (λk=>k=b) W0 wr)/\Hid (oe n (ms.take k)=0)/\Hid (Wk L wr b (tU n (ms.take k)))) (λi _=>km-(intOf i).toNat)
 case atStart=>exact⟨0,Nat.zero_le _,rfl,tR,rfl,Ni⟩
 case round=>
  clear q2 D7;obtain⟨k,hk,rfl,HS,HZ,HW⟩:=hrel;obtain⟨yK,Mp,Ww,alm⟩:=Mn.out wr HS.out;have HBr:Hid _:=yK;have aln:Hid _:=Ww;have HGr:Hid _:=Mp;clear yK Ww Mp;by_cases aX:k<km
  .obtain⟨b2,o2,hp,mJ,hr⟩:∃b off,pm=AI ⟨b,off,be⟩/\b<w0.heap.size/\Row w0 b off ms:=by
    rcases aek.out with h|h
    .have:=HKM.out;rw[h] at this;simp at this;omega
    .exact h
   subst hp;have iT:k<ms.length:=by rw[HKM.out];exact aX
   obtain⟨c0,c1,c2,c3,c4⟩:=(hr k iT).eq (λo=>HBr.out.cell (p:=⟨b2,o,be⟩) mJ);clear hr;have GN:ms.getD k dm=ms[k]:=by simp[List.getD,List.getElem?_eq_getElem iT]
   have Wl:=HMZ.out k;have R6:(ms.getD k dm).e=0:=by rw[GN];exact Nr.out _ (List.getElem_mem _)
   have xK:ms.take (k+1)=ms.take k++[ms.getD k dm]:=by rw[GN];exact List.take_succ_eq_append_getElem iT
   obtain⟨ft,iv⟩:=Dw (ms.take k) n (ms.getD k dm);rw[<- xK] at ft iv;have Mf:Hid _:=ft;have xf:Hid _:=iv HZ.out;have Wx:Hid (lr (tU n (ms.take k)) (ms.getD k dm)≠0->res=lr (tU n (ms.take k)) (ms.getD k dm)):=λaQ=>by
    have e1:oe n (ms.take (k+1))≠0:=by rw[xf.out];exact aQ
    have e2:=KE (ms.take (k+1)) (ms.drop (k+1)) n e1;rw[List.take_append_drop,xf.out] at e2;exact kM.out.trans (by rw[e2,if_neg aQ])
   have SO:Hid _:=P0 (ms.take k) n Nq.out (λm hm=>Nr.out m (List.mem_of_mem_take hm)) HZ.out;have KB:Hid (∀W,Below wr.heap.size wr W->aI 63 #[Ie (AI ⟨b,0,be⟩),.agg #[Y (ms.getD k dm).name,U .i64 (ms.getD k dm).state,U .i64 (ms.getD k dm).aJ,U .i64 (ms.getD k dm).addr,Ia (ms.getD k dm).server]] W λe w'=>e=AT (U .i64 (lr (tU n (ms.take k)) (ms.getD k dm)))/\Sh (λk=>k=b) W w'/\Hid (lr (tU n (ms.take k)) (ms.getD k dm)=0->Wk L w' b (tU n (ms.take (k+1))))):=λW hW=>by
    have h:=o8 L b (tU n (ms.take k)) (ms.getD k dm) W (HW.out.below hW) hL SO.out.ms SO.out.rs SO.out.name R6 Wl;rw[<- Mf.out] at h;exact h
   clear xK ft iv GN R6;generalize lr (tU n (ms.take k)) (ms.getD k dm)=se at *;generalize ms.getD k dm=mk at *;obtain⟨mn,st,lf,ad,V7⟩:=mk;simp only at c0 c1 c2 c3 c4 KB;go_wp2_with fail;refine(KB.out _ ((Below.refl _ _).alloc (Nat.le_refl _) _)).mono ?_;rintro e w3 ⟨rfl,sn,uL⟩;have SP:Hid _:=(HS.out.alloc _).trans sn;have aeo:Hid _:=(Mn.out w3 SP.out).2.2.1;clear sn c0 c1 c2 c3 c4;by_cases hse:se=0
   .have qK:Hid _:=xf.out.trans hse
    have zn:Hid (Wk _ _ _ _):=uL.out hse;subst hse;clear uL Wx xf;go_wp2_with fail;go_roundw
    case rel=>exact⟨k+1,by omega,by go_num,SP,qK,zn⟩
    case measure=>simp[intOf];omega
   .have VP:(se !=0)=true:=by simpa using hse
    have HR:Hid _:=Wx.out hse;have Bu:Hid _:=hse;clear hse uL Wx xf;go_wp2_with fail;go_ret;exact⟨ai HR.out.symm,aeo.out,λh=>absurd (HR.out.symm.trans h) Bu.out⟩
  .have rj:km=k:=by omega
   subst rj;have xK:=List.take_of_length_le (by rw[HKM.out];exact Nat.le_refl _);rw[xK] at HZ HW;have DB:Hid _:=kM.out.trans (if_pos HZ.out);clear xK kM;have Mq:Hid _:=vu.out ms;generalize Mr:tU n ms=nd at *;clear Mr;obtain⟨A4,ka,ca,ag_,kg2,cg2,vm2,vr2,vw2,h1,h2,h3⟩:=HW.out.KK;rw[Mq.out.sv] at h2;rw[Mq.out.gw] at h3;have y4:=ae h1 4;have x3:=ae HGr.out 3;have Wy:Hid (aI 64 #[J A4 ka ca,J ps ks cs] wr.drew λe w'=>∃a k c,e=AT (Ik #[J a k c,U .i64 (Sv.aE n.sv sv)])/\Below wr.heap.size wr w'/\(Sv.aE n.sv sv=0->Sv.Own wr.heap.size w' (J a k c) (Sv.av n.sv sv))):=(HJS.out wr.drew _ HBr.out.drew h2).mono (by rintro e w' ⟨a,k,c,rfl,hb,ho⟩;exact⟨a,k,c,rfl,(Below.refl wr.heap.size wr).drew.trans hb,ho⟩);have ky:Hid (∀W,Below wr.heap.size wr W->W.heap[b]?=AI (.cells (dv nd vm2 vr2 (J A4 ka ca) (J ag_ kg2 cg2) vw2) 90 (0,0))):=λW hW=>(hW.block _ HW.out.lt).trans h1;have rK:Hid (∀w1 a k c,Below wr.heap.size wr w1->(Sv.aE n.sv sv=0->Sv.Own wr.heap.size w1 (J a k c) (Sv.av n.sv sv))->Sv.aE n.sv sv=0->Wk L (w1.setCell ⟨b,4,be⟩ (J a k c)) b { nd with sv:=Sv.av n.sv sv }):=λw1 a k c g1 g2 g0=>HW.out.BS (by have:=HW.out.lt;omega) g1 (g2 g0) HJO.out;generalize Sv.aE n.sv sv=je at *;generalize Gw.aE n.gw gw=ge at *;clear h1 h2 h3 HJS;go_wp2_with fail;go_region_with (first|(go_at_call 64;refine Wy.out.mono ?_;rintro e w4 ⟨a,k1,c,rfl,eU,Wz⟩;have GP:Hid (Sh (λk=>k=b) W0 (w4.setCell ⟨b,4,be⟩ (J a k1 c))):=(HS.out.next eU).setCell (S:=λk=>k=b) rfl _;have nX:Hid (je=0->Wk L (w4.setCell ⟨b,4,be⟩ (J a k1 c)) b { nd with sv:=Sv.av n.sv sv }):=rK.out w4 a k1 c eU Wz;have ix:=ky.out w4 eU;have z4:w4.cell? ⟨b,4,be⟩=AI (J A4 ka ca):=ae ix 4;have zf:w4.frozen? ⟨b,4,be⟩=false:=aj ix 4;clear eU Wz ix))
   all_goals
    obtain⟨W5,jo⟩:∃W5,W5=w4.setCell ⟨b,4,be⟩ (J a k1 c):=⟨_,rfl⟩;rw[<- jo] at GP nX;rw[<- jo];clear jo z4 zf y4 x3 ky Wy rK;obtain⟨hB5,kX,KL,WA⟩:=Mn.out W5 GP.out;have iy:Hid _:=hB5;have Dg:Hid _:=kX;have aep:Hid _:=KL;clear hB5 kX KL;by_cases hje:je=0;rotate_left
    .have alw:(je !=0)=true:=by simpa using hje
     have HR:Hid _:=DB.out.trans (if_neg hje);have Bu:Hid _:=hje;clear hje;go_wp2_with fail;go_ret;exact⟨ai HR.out.symm,aep.out,λh=>absurd (HR.out.symm.trans h) Bu.out⟩
    .have PH:Hid (Wk _ _ _ _):=nX.out hje
     have HE4:Hid _:=DB.out.trans (if_pos hje);subst hje;clear nX DB;obtain⟨as3,ka3,Eh,ag3,kg3,cg3,vm3,vr3,vw3,h1,_,h3⟩:=PH.out.KK;have h3:Gw.Sl W5 (J ag3 kg3 cg3) n.gw:=by rw[<- Mq.out.gw];exact h3
     have y5:=ae h1 5;have x4:=ae Dg.out 4;have Wy:Hid (aI 65 #[J ag3 kg3 cg3,J pg kg cg] W5.drew λe w'=>∃a k c,e=AT (Ik #[J a k c,U .i64 ge])/\Below W5.heap.size W5 w'/\(ge=0->Gw.Own W5.heap.size w' (J a k c) (Gw.av n.gw gw))):=(HJG.out W5.drew _ iy.out.drew h3).mono (by rintro e w' ⟨a,k,c,rfl,hb,ho⟩;exact⟨a,k,c,rfl,(Below.refl W5.heap.size W5).drew.trans hb,ho⟩);have ky:Hid (∀W,Below W5.heap.size W5 W->W.heap[b]?=AI (.cells (dv { nd with sv:=Sv.av n.sv sv } vm3 vr3 (J as3 ka3 Eh) (J ag3 kg3 cg3) vw3) 90 (0,0))):=λW hW=>(hW.block _ PH.out.lt).trans h1;have rK:Hid (∀w1 a k c,Below W5.heap.size W5 w1->(ge=0->Gw.Own W5.heap.size w1 (J a k c) (Gw.av n.gw gw))->ge=0->Wk L (w1.setCell ⟨b,5,be⟩ (J a k c)) b { nd with sv:=Sv.av n.sv sv,gw:=Gw.av n.gw gw }):=λw1 a k c g1 g2 g0=>PH.out.Kr (by have:=PH.out.lt;omega) g1 (g2 g0) HJP.out;clear h1 h3;go_wp2_with fail;go_region_with (first|(go_at_call 65;refine Wy.out.mono ?_;rintro e w6 ⟨a6,k6,c6,rfl,sy,WB⟩;have HS6:Hid (Sh (λk=>k=b) W0 (w6.setCell ⟨b,5,be⟩ (J a6 k6 c6))):=(GP.out.next sy).setCell (S:=λk=>k=b) rfl _;have yM:Hid (ge=0->Wk L (w6.setCell ⟨b,5,be⟩ (J a6 k6 c6)) b { nd with sv:=Sv.av n.sv sv,gw:=Gw.av n.gw gw }):=rK.out w6 a6 k6 c6 sy WB;have ix:=ky.out w6 sy;have z5:w6.cell? ⟨b,5,be⟩=AI (J ag3 kg3 cg3):=ae ix 5;have zf:w6.frozen? ⟨b,5,be⟩=false:=aj ix 5;clear sy WB ix))
     all_goals
      obtain⟨W7,ER⟩:∃W7,W7=w6.setCell ⟨b,5,be⟩ (J a6 k6 c6):=⟨_,rfl⟩;rw[<- ER] at HS6 yM;rw[<- ER];clear ER z5 zf y5 x4 ky Wy rK;obtain⟨hB7,hg7,WC,alC⟩:=Mn.out W7 HS6.out;have yN:Hid _:=hB7;have WD:Hid _:=WC;have x5:=ae hg7 5;clear hB7 hg7 WC;by_cases zk:ge=0;rotate_left
      .have VO:(ge !=0)=true:=by simpa using zk
       have Bu:Hid _:=zk;clear zk;go_wp2_with fail;go_ret;exact⟨ai HE4.out.symm,WD.out,λh=>absurd (HE4.out.symm.trans h) Bu.out⟩
      .have HLC:=pW.out W7 { nd with sv:=Sv.av n.sv sv,gw:=Gw.av n.gw gw } (yM.out zk) Mq.out.wh yN.out Wv.out
       have ET:Hid _:=HE4.out.trans zk;subst zk;clear yM;go_wp2_with fail;refine HLC.mono ?_;rintro e w8 ⟨rfl,WE,Vo⟩;have HS8:Hid _:=WD.out.trans WE;have HK8:Hid (Wk L w8 b (og n ⟨cV,whole,ms,sv,gw,wh⟩)):=by rw[SN.out];exact Vo
       clear WE Vo;go_wp2_with fail;go_ret;exact⟨ai ET.out.symm,HS8.out,λ_=>HK8.out⟩
end Go.Proofs.YtfidhgjmifendaaGreatDoor
