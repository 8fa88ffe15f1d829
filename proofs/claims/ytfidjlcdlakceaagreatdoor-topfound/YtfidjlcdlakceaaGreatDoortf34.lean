import Derived.Test.YtfidjlcdlakceaaGreatDoortf33
set_option maxHeartbeats 51200000
set_option maxRecDepth 100000
open Go.Value renaming slice→U,pointer→If,string→I,bool→AI,int→O,tuple→Il
open Option renaming some→Z,none→Y
open Go.Ending renaming returned→sh
namespace Go.Proofs.YtfidjlcdlakceaaGreatDoor
open Go.RowKit
theorem Wk.zr{L b:Nat}{W:World}{n:Nd}(h:Wk L W b n):∃a k c a2 k2 c2 vm vr vw,W.heap[b]?=Z (.cells (fD n vm vr (U a k c) (U a2 k2 c2) vw) 81 (0,0))/\Sv.Sl W (U a k c) n.sv/\Gw.Sl W (U a2 k2 c2) n.gw:=by
 obtain⟨vm,vr,vs,vg,vw,h1,h2,h3,h4⟩:=h;obtain⟨a,c,hv,_⟩:=az h2.sv;obtain⟨a2,c2,hv2,_⟩:=az h2.gw;subst hv hv2;exact⟨a,_,c,a2,_,c2,vm,vr,vw,h1,(h2.is h4).sv,(h2.is h4).gw⟩
theorem Wk.okN{L b:Nat}{W:World}{n:Nd}(h:Wk L W b n):oE n:=by
 obtain⟨_,_,_,_,_,_,_,_,h4⟩:=h;exact h4
theorem Sv.Sl.Td{w:World}{v:Value}{ms:List Sv.aI}(h:Sv.Sl w v ms):∀j,(ms.getD j Sv.dm).ok:=by
 obtain⟨_,_,_,h2,_⟩:=h;exact h2
theorem Gw.Sl.Td{w:World}{v:Value}{ms:List Gw.cD}(h:Gw.Sl w v ms):∀j,(ms.getD j Gw.dm).ok:=by
 obtain⟨_,_,_,h2,_⟩:=h;exact h2
theorem Kz(L b:Nat)(n:Nd)(p:Pk)(vm vs vg vw:Value)(w0 w:World)(h:Wk L w b n)(hL:L<=b)(BA:Sp n)(Cy:Sv.ba n.sv=0)(nN:Gw.ba n.gw=0)(GW:Wh.uJ n.wh)(hx:pJ w0 p vm vs vg vw)(hB:Below w0.heap.size w0 w)(hBL:w0.heap.size<=L)(hlen:p.whole=true\/p.sv.length+p.gw.length+p.wh.length<=4611686018427387904) :
 aP 50 #[If (Z ⟨b,0,Y⟩),.agg #[I p.dN,AI p.whole,vm,vs,vg,vw]] w λe w'=>e=sh (O .i64 (oG n p))/\Sh (λk=>L<=k) w w'/\Hid (oG n p=0->Wk L w' b (s9 n p)):=by
 have sA:Hid (Wk L w b n):=h;have aU:=h.lt;have HB:Hid _:=hB;have abc:Hid _:=BA;have HE:Hid (oG n p=if p.e=0 then(if nW n p.ms=0 then(if Sv.aA n.sv p.sv=0 then Gw.aA n.gw p.gw else Sv.aA n.sv p.sv) else nW n p.ms) else p.e):=rfl;have sq:Hid (s9 n p={ lX n p.ms with sv:=Sv.ay n.sv p.sv,gw:=Gw.ay n.gw p.gw,wh:=Bx n.wh p.wh }):=rfl;have rL:Hid (∀W,Below w0.heap.size w0 W->aP _ _ _ _):=λW hW=>oC p vm vs vg vw W (hx.below hW) hlen;have HPM:Hid (p.e=0->(∀m∈p.ms,m.e=0)/\p.ms.length<=20/\p.wh.length<=20):=λh=>⟨(xL h).1,(xL h).2.1,(Wh.aF (xL h).2.2.1).1⟩;have HXI:Hid _:=hx;have Fu:Hid (∀l,Rest n (lX n l)):=λl=>zq l n;have WV:Hid _:=Cy;have HGW:Hid _:=nN;have HWF:Hid _:=GW;obtain⟨dN,whole,ms,sv,gw,wh⟩:=p;obtain⟨j5,P3,P4,P5,Vi,cV⟩:=hx;simp only at j5 P3 P4 P5 hlen HE sq rL HPM;obtain⟨pm,cm,rfl,Bl,Bm⟩:=j5;obtain⟨ps,cs,rfl,_,_⟩:=P3;obtain⟨pg,cg,rfl,_,_⟩:=P4;obtain⟨ph,ch,rfl,_,_⟩:=P5;have qD:Hid _:=Bm;have HMZ:Hid _:=Bl;clear Bl Bm h hB BA Cy nN GW hlen cV Vi;have HJS:Hid (∀W va,Below w0.heap.size w0 W->Sv.Sl W va n.sv->aP 96 #[va,U ps sv.length cs] W λe w'=>∃a k c,e=sh (Il #[U a k c,O .i64 (Sv.aA n.sv sv)])/\Below W.heap.size W w'/\(Sv.aA n.sv sv=0->Sv.Own W.heap.size w' (U a k c) (Sv.ay n.sv sv))):=λW va hW Ff=>by
  refine(Sv.ql n.sv sv va _ W Ff (HXI.out.sv.below hW)).mono ?_;rintro e w' ⟨v',rfl,hb,h1,h2⟩;by_cases h0:Sv.aA n.sv sv=0
  .obtain⟨a,c,rfl,_⟩:=az (h2 h0)
   exact⟨a,_,c,rfl,hb,h2⟩
  .rw[h1 h0];exact⟨Y,0,0,rfl,hb,λh=>absurd h h0⟩
 have HJG:Hid (∀W va,Below w0.heap.size w0 W->Gw.Sl W va n.gw->aP 97 #[va,U pg gw.length cg] W λe w'=>∃a k c,e=sh (Il #[U a k c,O .i64 (Gw.aA n.gw gw)])/\Below W.heap.size W w'/\(Gw.aA n.gw gw=0->Gw.Own W.heap.size w' (U a k c) (Gw.ay n.gw gw))):=λW va hW Ff=>by
  refine(Gw.ql n.gw gw va _ W Ff (HXI.out.gw.below hW)).mono ?_;rintro e w' ⟨v',rfl,hb,h1,h2⟩;by_cases h0:Gw.aA n.gw gw=0
  .obtain⟨a,c,rfl,_⟩:=az (h2 h0)
   exact⟨a,_,c,rfl,hb,h2⟩
  .rw[h1 h0];exact⟨Y,0,0,rfl,hb,λh=>absurd h h0⟩
 have HJO:Hid _:=Sv.jR sv n.sv sA.out.okN.sv (Sv.cZ HXI.out.sv.Td);have HJP:Hid _:=Gw.jR gw n.gw sA.out.okN.gw (Gw.cZ HXI.out.gw.Td);have Sy:Hid (∀W nd,Wk L W b nd->nd.wh=n.wh->Below w0.heap.size w0 W->wh.length<=20->aP 98 #[If (Z ⟨b,0,Y⟩),U ph wh.length ch] W λe w'=>e=sh (Il #[])/\Sh (λk=>L<=k) W w'/\Wk L w' b { nd with wh:=Bx n.wh wh }):=λW nd hW hn hB hl=>by
  have:=Ku L b nd wh _ w0 W hW hL (by rw[hn];exact HWF.out) HXI.out.wh hB hBL (by omega);rw[hn] at this;exact this
 generalize Pk.e ⟨dN,whole,ms,sv,gw,wh⟩=pe at *;generalize oG n ⟨dN,whole,ms,sv,gw,wh⟩=res at *;generalize vu:ms.length=km at *;have HKM:Hid _:=vu;clear vu;generalize sv.length=ks at *;generalize gw.length=kg at *;generalize wh.length=kh at *;obtain⟨W0,dK,df,nP,dt⟩:=cR w #[I dN,AI whole,U pm km cm,U ps ks cs,U pg kg cg,U ph kh ch] 57;have dy:Hid _:=df;have wB:Hid _:=dt;have BB:Hid (∀W,Sh (λk=>k=b) W0 W->Below w0.heap.size w0 W/\W.heap[w.heap.size]?=Z (.cells #[I dN,AI whole,U pm km cm,U ps ks cs,U pg kg cg,U ph kh ch] 57 (0,0))/\Sh (λk=>L<=k) w W/\w.heap.size<W.heap.size):=λW hW=>
  ⟨HB.out.trans ((df.mono HB.out.size).trans (hW.below (by have:=HB.out.size;omega) (λk hk=>by omega))),(hW.block _ (by omega) (by omega)).trans dt,(Sh.of df).trans (hW.mono (λk hk=>by omega)),by have:=hW.size;omega⟩
 clear df dt;go_enter Tryz.func50,Tryz.ntmps50;go_wp2_with fail;rw[<- dK];refine(rL.out W0 (BB.out W0 (Sh.refl _ _)).1).mono ?_;rintro e w1 ⟨rfl,al⟩;have CB:Hid (Sh (λk=>k=b) W0 w1):=Sh.of al;have Kx:Hid (Wk L w1 b n):=(sA.out.below dy.out).below al;clear al dK;obtain⟨_,bb,P6,Ak⟩:=BB.out w1 CB.out;have q2:=af bb 2;have abf:Hid _:=P6;clear bb P6;by_cases hpe:pe=0;rotate_left
 .have aip:(pe !=0)=true:=by simpa using hpe
  have HR:Hid _:=HE.out.trans (if_neg hpe);have wO:Hid _:=hpe;clear hpe;go_wp2_with fail;go_ret;exact⟨aj HR.out.symm,abf.out,λh=>absurd (HR.out.symm.trans h) wO.out⟩
 have iN:Hid _:=HE.out.trans (if_pos hpe);obtain⟨hme,oA,WJ⟩:=HPM.out hpe;have Pm:Hid _:=hme;have HWL:Hid _:=WJ;subst hpe;clear HE HPM hme WJ rL;go_wp2_with fail;go_loopw [18] (λi wr=>∃k:Nat,k<=km/\i=O .i64 k/\Hid (Sh (λk=>k=b) W0 wr)/\Hid (nW n (ms.take k)=0)/\Hid (Wk L wr b (lX n (ms.take k)))) (λi _=>km-(intOf i).toNat)
 case atStart=>exact⟨0,Nat.zero_le _,rfl,CB,rfl,Kx⟩
 case round=>
  clear q2 Ak;obtain⟨k,hk,rfl,HS,HZ,HW⟩:=hrel;obtain⟨GY,Mj,P7,aiq⟩:=BB.out wr HS.out;have HBr:Hid _:=GY;have air:Hid _:=P7;have HGr:Hid _:=Mj;clear GY P7 Mj;by_cases aL:k<km
  .obtain⟨b2,o2,hp,fG,hr⟩:∃b off,pm=Z ⟨b,off,Y⟩/\b<w0.heap.size/\Row w0 b off ms:=by
    rcases qD.out with h|h
    .have:=HKM.out;rw[h] at this;simp at this;omega
    .exact h
   subst hp;have sO:k<ms.length:=by rw[HKM.out];exact aL
   obtain⟨c0,c1,c2,c3,c4⟩:=(hr k sO).eq (λo=>HBr.out.cell (p:=⟨b2,o,Y⟩) fG);clear hr;have kO:ms.getD k dm=ms[k]:=by simp[List.getD,List.getElem?_eq_getElem sO]
   have hmz:=HMZ.out k;have M9:(ms.getD k dm).e=0:=by rw[kO];exact Pm.out _ (List.getElem_mem _)
   have Ks:ms.take (k+1)=ms.take k++[ms.getD k dm]:=by rw[kO];exact List.take_succ_eq_append_getElem sO
   obtain⟨gI,iZ⟩:=zp (ms.take k) n (ms.getD k dm);rw[<- Ks] at gI iZ;have yI:Hid _:=gI;have DM:Hid _:=iZ HZ.out;have HBD:Hid (nE (lX n (ms.take k)) (ms.getD k dm)≠0->res=nE (lX n (ms.take k)) (ms.getD k dm)):=λbu=>by
    have e1:nW n (ms.take (k+1))≠0:=by rw[DM.out];exact bu
    have e2:=D0 (ms.take (k+1)) (ms.drop (k+1)) n e1;rw[List.take_append_drop,DM.out] at e2;exact iN.out.trans (by rw[e2,if_neg bu])
   have Ea:Hid _:=P2 (ms.take k) n abc.out (λm hm=>Pm.out m (List.mem_of_mem_take hm)) HZ.out;have Sx:Hid (∀W,Below wr.heap.size wr W->aP 95 #[If (Z ⟨b,0,Y⟩),.agg #[I (ms.getD k dm).name,O .i64 (ms.getD k dm).state,O .i64 (ms.getD k dm).aX,O .i64 (ms.getD k dm).addr,AI (ms.getD k dm).server]] W λe w'=>e=sh (O .i64 (nE (lX n (ms.take k)) (ms.getD k dm)))/\Sh (λk=>k=b) W w'/\Hid (nE (lX n (ms.take k)) (ms.getD k dm)=0->Wk L w' b (lX n (ms.take (k+1))))):=λW hW=>by
    have h:=oF L b (lX n (ms.take k)) (ms.getD k dm) W (HW.out.below hW) hL Ea.out.ms Ea.out.rs Ea.out.name M9 hmz;rw[<- yI.out] at h;exact h
   clear Ks gI iZ kO M9;generalize nE (lX n (ms.take k)) (ms.getD k dm)=se at *;generalize ms.getD k dm=mk at *;obtain⟨mn,st,lf,ad,WZ⟩:=mk;simp only at c0 c1 c2 c3 c4 Sx;go_wp2_with fail;refine(Sx.out _ ((Below.refl _ _).alloc (Nat.le_refl _) _)).mono ?_;rintro e w3 ⟨rfl,Np,nq⟩;have Vy:Hid _:=(HS.out.alloc _).trans Np;have abh:Hid _:=(BB.out w3 Vy.out).2.2.1;clear Np c0 c1 c2 c3 c4;by_cases hse:se=0
   .have mr:Hid _:=DM.out.trans hse
    have HW3:Hid (Wk _ _ _ _):=nq.out hse;subst hse;clear nq HBD DM;go_wp2_with fail;go_roundw
    case rel=>exact⟨k+1,by omega,by go_num,Vy,mr,HW3⟩
    case measure=>simp[intOf];omega
   .have aaZ:(se !=0)=true:=by simpa using hse
    have HR:Hid _:=HBD.out hse;have wO:Hid _:=hse;clear hse nq HBD DM;go_wp2_with fail;go_ret;exact⟨aj HR.out.symm,abh.out,λh=>absurd (HR.out.symm.trans h) wO.out⟩
  .have Az:km=k:=by omega
   subst Az;have Ks:=List.take_of_length_le (by rw[HKM.out];exact Nat.le_refl _);rw[Ks] at HZ HW;have CC:Hid _:=iN.out.trans (if_pos HZ.out);clear Ks iN;have PB:Hid _:=Fu.out ms;generalize so:lX n ms=nd at *;clear so;obtain⟨Mk,ka,ca,ag_,kg2,cg2,vm2,vr2,vw2,h1,h2,h3⟩:=HW.out.zr;rw[PB.out.sv] at h2;rw[PB.out.gw] at h3;have y4:=af h1 4;have x3:=af HGr.out 3;have Dt:Hid (aP 96 #[U Mk ka ca,U ps ks cs] wr.drew λe w'=>∃a k c,e=sh (Il #[U a k c,O .i64 (Sv.aA n.sv sv)])/\Below wr.heap.size wr w'/\(Sv.aA n.sv sv=0->Sv.Own wr.heap.size w' (U a k c) (Sv.ay n.sv sv))):=(HJS.out wr.drew _ HBr.out.drew h2).mono (by rintro e w' ⟨a,k,c,rfl,hb,ho⟩;exact⟨a,k,c,rfl,(Below.refl wr.heap.size wr).drew.trans hb,ho⟩);have sC:Hid (∀W,Below wr.heap.size wr W->W.heap[b]?=Z (.cells (fD nd vm2 vr2 (U Mk ka ca) (U ag_ kg2 cg2) vw2) 81 (0,0))):=λW hW=>(hW.block _ HW.out.lt).trans h1;have lG:Hid (∀w1 a k c,Below wr.heap.size wr w1->(Sv.aA n.sv sv=0->Sv.Own wr.heap.size w1 (U a k c) (Sv.ay n.sv sv))->Sv.aA n.sv sv=0->Wk L (w1.setCell ⟨b,4,Y⟩ (U a k c)) b { nd with sv:=Sv.ay n.sv sv }):=λw1 a k c g1 g2 g0=>HW.out.DQ (by have:=HW.out.lt;omega) g1 (g2 g0) HJO.out;generalize Sv.aA n.sv sv=je at *;generalize Gw.aA n.gw gw=ge at *;clear h1 h2 h3 HJS;go_wp2_with fail;go_region_with (first|(go_at_call 96;refine Dt.out.mono ?_;rintro e w4 ⟨a,k1,c,rfl,fa,Xb⟩;have DW:Hid (Sh (λk=>k=b) W0 (w4.setCell ⟨b,4,Y⟩ (U a k1 c))):=(HS.out.next fa).setCell (S:=λk=>k=b) rfl _;have o7:Hid (je=0->Wk L (w4.setCell ⟨b,4,Y⟩ (U a k1 c)) b { nd with sv:=Sv.ay n.sv sv }):=lG.out w4 a k1 c fa Xb;have eu:=sC.out w4 fa;have z4:w4.cell? ⟨b,4,Y⟩=Z (U Mk ka ca):=af eu 4;have zf:w4.frozen? ⟨b,4,Y⟩=false:=dZ eu 4;clear fa Xb eu))
   all_goals
    obtain⟨W5,pL⟩:∃W5,W5=w4.setCell ⟨b,4,Y⟩ (U a k1 c):=⟨_,rfl⟩;rw[<- pL] at DW o7;rw[<- pL];clear pL z4 zf y4 x3 sC Dt lG;obtain⟨hB5,Df,BC,TS⟩:=BB.out W5 DW.out;have jE:Hid _:=hB5;have CA:Hid _:=Df;have abj:Hid _:=BC;clear hB5 Df BC;by_cases hje:je=0;rotate_left
    .have aiA:(je !=0)=true:=by simpa using hje
     have HR:Hid _:=CC.out.trans (if_neg hje);have wO:Hid _:=hje;clear hje;go_wp2_with fail;go_ret;exact⟨aj HR.out.symm,abj.out,λh=>absurd (HR.out.symm.trans h) wO.out⟩
    .have Vz:Hid (Wk _ _ _ _):=o7.out hje
     have HE4:Hid _:=CC.out.trans (if_pos hje);subst hje;clear o7 CC;obtain⟨as3,ka3,CZ,SP,SQ,SR,vm3,vr3,vw3,h1,_,h3⟩:=Vz.out.zr;have h3:Gw.Sl W5 (U SP SQ SR) n.gw:=by rw[<- PB.out.gw];exact h3
     have y5:=af h1 5;have x4:=af CA.out 4;have Dt:Hid (aP 97 #[U SP SQ SR,U pg kg cg] W5.drew λe w'=>∃a k c,e=sh (Il #[U a k c,O .i64 ge])/\Below W5.heap.size W5 w'/\(ge=0->Gw.Own W5.heap.size w' (U a k c) (Gw.ay n.gw gw))):=(HJG.out W5.drew _ jE.out.drew h3).mono (by rintro e w' ⟨a,k,c,rfl,hb,ho⟩;exact⟨a,k,c,rfl,(Below.refl W5.heap.size W5).drew.trans hb,ho⟩);have sC:Hid (∀W,Below W5.heap.size W5 W->W.heap[b]?=Z (.cells (fD { nd with sv:=Sv.ay n.sv sv } vm3 vr3 (U as3 ka3 CZ) (U SP SQ SR) vw3) 81 (0,0))):=λW hW=>(hW.block _ Vz.out.lt).trans h1;have lG:Hid (∀w1 a k c,Below W5.heap.size W5 w1->(ge=0->Gw.Own W5.heap.size w1 (U a k c) (Gw.ay n.gw gw))->ge=0->Wk L (w1.setCell ⟨b,5,Y⟩ (U a k c)) b { nd with sv:=Sv.ay n.sv sv,gw:=Gw.ay n.gw gw }):=λw1 a k c g1 g2 g0=>Vz.out.PR (by have:=Vz.out.lt;omega) g1 (g2 g0) HJP.out;clear h1 h3;go_wp2_with fail;go_region_with (first|(go_at_call 97;refine Dt.out.mono ?_;rintro e w6 ⟨a6,k6,c6,rfl,ix,Xc⟩;have mF:Hid (Sh (λk=>k=b) W0 (w6.setCell ⟨b,5,Y⟩ (U a6 k6 c6))):=(DW.out.next ix).setCell (S:=λk=>k=b) rfl _;have ny:Hid (ge=0->Wk L (w6.setCell ⟨b,5,Y⟩ (U a6 k6 c6)) b { nd with sv:=Sv.ay n.sv sv,gw:=Gw.ay n.gw gw }):=lG.out w6 a6 k6 c6 ix Xc;have eu:=sC.out w6 ix;have z5:w6.cell? ⟨b,5,Y⟩=Z (U SP SQ SR):=af eu 5;have zf:w6.frozen? ⟨b,5,Y⟩=false:=dZ eu 5;clear ix Xc eu))
     all_goals
      obtain⟨W7,CD⟩:∃W7,W7=w6.setCell ⟨b,5,Y⟩ (U a6 k6 c6):=⟨_,rfl⟩;rw[<- CD] at mF ny;rw[<- CD];clear CD z5 zf y5 x4 sC Dt lG;obtain⟨hB7,hg7,P8,aiG⟩:=BB.out W7 mF.out;have zS:Hid _:=hB7;have P9:Hid _:=P8;have x5:=af hg7 5;clear hB7 hg7 P8;by_cases j6:ge=0;rotate_left
      .have aaY:(ge !=0)=true:=by simpa using j6
       have wO:Hid _:=j6;clear j6;go_wp2_with fail;go_ret;exact⟨aj HE4.out.symm,P9.out,λh=>absurd (HE4.out.symm.trans h) wO.out⟩
      .have HLC:=Sy.out W7 { nd with sv:=Sv.ay n.sv sv,gw:=Gw.ay n.gw gw } (ny.out j6) PB.out.wh zS.out HWL.out
       have yj:Hid _:=HE4.out.trans j6;subst j6;clear ny;go_wp2_with fail;refine HLC.mono ?_;rintro e w8 ⟨rfl,SS,VA⟩;have HS8:Hid _:=P9.out.trans SS;have Fh:Hid (Wk L w8 b (s9 n ⟨dN,whole,ms,sv,gw,wh⟩)):=by rw[sq.out];exact VA
       clear SS VA;go_wp2_with fail;go_ret;exact⟨aj yj.out.symm,HS8.out,λ_=>Fh.out⟩
end Go.Proofs.YtfidjlcdlakceaaGreatDoor
