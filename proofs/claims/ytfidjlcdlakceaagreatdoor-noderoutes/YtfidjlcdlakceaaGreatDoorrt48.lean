import Derived.Test.YtfidjlcdlakceaaGreatDoorrt47
set_option maxHeartbeats 51200000
set_option maxRecDepth 100000
open Go.Value renaming slice→U,func→I7,int→O,tuple→Il,pointer→Ig,agg→Ip,string→I,bool→AT
open Option renaming none→Y,some→Z
open Go.Ending renaming returned→sh
open Go.Proofs.Tryz renaming prog→be
open Go.IntKind renaming i64→J
open Go renaming heap_alloc_new→Ie,bodyPost_ret→Iy
open Nat renaming le_refl→By
open Go.Obj renaming cells→AI
namespace Go.Proofs.YtfidjlcdlakceaaGreatDoor
namespace Sv
open Go.RowKit
theorem nA(pa pv:Option Addr)(ca cb pb cap:Nat)(w:World)(mJ:w.cell? ⟨pb,0,Y⟩=Z (U pa 0 ca))(kM:w.cell? ⟨pb,1,Y⟩=Z (U pv 0 cb)) :
 Calls be 206 #[I7 (.func 182) #[] #[],I7 (.func 207) #[] #[],U (Z ⟨pb,0,Y⟩) 2 cap] w λe w'=>e=sh (U Y 0 0)/\w'=w:=by
 go_enter Tryz.func206,Tryz.ntmps206;go_wp2_with fail;go_loopw [7,16] (λkn i w'=>∃k:Nat,k<=2/\i=O J k/\kn=U Y 0 0/\w'=w) (λ_ i _=>2-(intOf i).toNat)
 case atStart=>exact⟨0,by omega,rfl,rfl,rfl⟩
 case round=>
  obtain⟨k,hk,rfl,rfl,rfl⟩:=hrel;by_cases aB:k<2
  .have hc:∃(p:Option Addr) (c:Nat),wr.cell? ⟨pb,k,Y⟩=Z (U p 0 c):=by
    rcases Nat.lt_or_ge k 1 with h|h
    .have:k=0:=by omega
     subst this;exact⟨_,_,mJ⟩
    .have:k=1:=by omega
     subst this;exact⟨_,_,kM⟩
   obtain⟨p,c,hc⟩:=hc;have rD:(k:Int)<2:=by omega
   clear mJ kM;go_wp2_with fail;go_loopw [7,22] (λkn j w'=>kn=U Y 0 0/\j=O J 0/\w'=wr) (λ_ _ _=>0)
   case atStart=>exact⟨rfl,rfl,rfl⟩
   case round=>
    obtain⟨rfl,rfl,rfl⟩:=hrel;go_wp2_with fail;first
    |exact⟨⟨k+1,by omega,by go_num,by simp,by simp⟩,by simp[intOf];omega⟩
    |(go_roundw
      case rel=>exact⟨k+1,by omega,by go_num,by simp,by simp⟩
      case measure=>simp[intOf];omega)
  .have hd:decide ((k:Int)<2)=false:=by simp;omega
   go_wp2_with fail;go_ret;exact⟨rfl,rfl⟩
theorem join_none(pa pv:Option Addr)(ca cb:Nat)(w:World) :
 Calls be 96 #[U pa 0 ca,U pv 0 cb] w λe w'=>e=sh (Il #[U Y 0 0,O J 0])/\Below w.heap.size w w':=by
 have HJ:Hid (∀(W:World) (pb cap:Nat),pb<W.heap.size->W.cell? ⟨pb,0,Y⟩=Z (U pa 0 ca)->W.cell? ⟨pb,1,Y⟩=Z (U pv 0 cb)->Calls be 147 #[U (Z ⟨pb,0,Y⟩) 2 cap] W λe w'=>e=sh (Il #[U Y 0 0,O J 0])/\Below W.heap.size W w'):=λW pb cap uj h0 h1=>by
  have hn:∀(p:Option Addr) (c:Nat),Sl W (U p 0 c) []:=λp c=>⟨p,c,rfl,bN (by simp),.inl rfl⟩;have HC:Hid (Calls be 205 #[U (Z ⟨pb,0,Y⟩) 2 cap] W λe w'=>e=sh (O J 0)/\Below W.heap.size W w'):=ee [] [] _ _ pb cap W (hn pa ca) (hn pv cb) uj h0 h1;have HR:Hid (∀w1,Below W.heap.size W w1->Calls be 206 #[I7 (.func 182) #[] #[],I7 (.func 207) #[] #[],U (Z ⟨pb,0,Y⟩) 2 cap] w1 λe w'=>e=sh (U Y 0 0)/\w'=w1):=λw1 an=>nA pa pv ca cb pb cap w1 ((cD an).1 pb 0 uj |>.trans h0) ((cD an).1 pb 1 uj |>.trans h1);clear hn;go_enter Tryz.func147,Tryz.ntmps147;go_wp2_with fail;refine HC.out.mono ?_;rintro e w1 ⟨rfl,an⟩;have aK:Hid (Below W.heap.size W w1):=an;have kA:=HR.out w1 an;clear an HR HC;go_wp2_with fail;refine kA.mono ?_;rintro e w2 ⟨rfl,qR⟩;have xu:=qR.symm;subst xu;go_wp2_with fail;go_ret2;exact⟨rfl,aK.out⟩
 go_enter Tryz.func96,Tryz.ntmps96;go_wp2_with fail;refine(HJ.out _ w.heap.size 2 (by simp) (af (Ie w _) 0) (af (Ie w _) 1)).mono ?_;rintro e w2 ⟨rfl,hb⟩;have HB:Hid (Below w.heap.size w w2):=((Below.refl _ _).alloc (By _) _).trans (hb.mono (by simp));clear hb;go_wp2_with fail;go_ret2;exact⟨rfl,HB.out⟩
end Sv
end Go.Proofs.YtfidjlcdlakceaaGreatDoor
namespace Go.Proofs.YtfidjlcdlakceaaGreatDoor
open Go.RowKit
theorem B7(b ch:Nat)(ph:Option Addr)(w:World) :
 Calls be 98 #[Ig (Z ⟨b,0,Y⟩),U ph 0 ch] w λe w'=>e=sh (Il #[])/\w'=w:=by
 go_enter Tryz.func98,Tryz.ntmps98;go_wp2_with fail;go_loopw [10] (λi w'=>i=O J 0/\w'=w) (λ_ _=>0)
 case atStart=>exact⟨rfl,rfl⟩
 case round=>
  obtain⟨rfl,rfl⟩:=hrel;go_wp2_with fail;simp[bodyPost,results,Tryz.results98,go_sem]
theorem B8(L b:Nat)(n:Nd)(p:Pk)(vm vs vg vw:Value)(w0 w:World)(h:Wk L w b n)(hL:L<=b)(Dl:Sp n)(CU:Sv.aM n.sv=0)(mA:Gw.aM n.gw=0)(M3:Wh.Wz n.wh)(hx:sY w0 p vm vs vg vw)(hB:Below w0.heap.size w0 w)(hBL:w0.heap.size<=L)(hlen:p.whole=true\/p.sv.length+p.gw.length+p.wh.length<=4611686018427387904)(cP:n.sv=[])(jD:n.gw=[])(mB:p.sv=[])(iu:p.gw=[])(fW:p.wh=[]) :
 Calls be 50 #[Ig (Z ⟨b,0,Y⟩),Ip #[I p.fw,AT p.whole,vm,vs,vg,vw]] w λe w'=>e=sh (O J (B5 n p))/\Sh (λk=>L<=k) w w'/\Hid (B5 n p=0->Wk L w' b (He n p)):=by
 have yh:Hid (Wk L w b n):=h;have aL:=h.lt;have HB:Hid (Below w0.heap.size w0 w):=hB;have ag2:Hid (Sp n):=Dl;have HE:Hid (B5 n p=if p.e=0 then(if qD n p.ms=0 then(if Sv.aX n.sv p.sv=0 then Gw.aX n.gw p.gw else Sv.aX n.sv p.sv) else qD n p.ms) else p.e):=rfl;have tW:Hid (He n p={ rT n p.ms with sv:=Sv.aZ n.sv p.sv,gw:=Gw.aZ n.gw p.gw,wh:=lrn n.wh p.wh }):=rfl;have oO:Hid (∀W,Below w0.heap.size w0 W->Calls be 94 #[Ip #[I p.fw,AT p.whole,vm,vs,vg,vw]] W λe w'=>e=sh (O J p.e)/\Below W.heap.size W w'):=λW hW=>sZ p vm vs vg vw W (hx.below hW) hlen;have HPM:Hid (p.e=0->(∀m∈p.ms,m.e=0)/\p.ms.length<=20/\p.wh.length<=20):=λh=>⟨(Mu h).1,(Mu h).2.1,(Wh.aI (Mu h).2.2.1).1⟩;have HXI:Hid (sY w0 p vm vs vg vw):=hx;have A9:Hid (∀l,Rest n (rT n l)):=λl=>Dj l n;have HSV:Hid (Sv.aM n.sv=0):=CU;have HGW:Hid (Gw.aM n.gw=0):=mA;have HWF:Hid (Wh.Wz n.wh):=M3;obtain⟨fw,whole,ms,sv,gw,wh⟩:=p;obtain⟨jj,abz,abA,abB,VN,gG⟩:=hx;simp only at jj abz abA abB hlen HE tW oO HPM mB iu fW;obtain⟨pm,cm,rfl,L0,L1⟩:=jj;obtain⟨ps,cs,rfl,_,_⟩:=abz;obtain⟨pg,cg,rfl,_,_⟩:=abA;obtain⟨ph,ch,rfl,_,_⟩:=abB;have sE:Hid (ms=[]\/∃b off,pm=Z ⟨b,off,Y⟩/\b<w0.heap.size/\Row w0 b off ms):=L1;have HMZ:Hid (∀j,(ms.getD j dm).name.size<=maxLen):=L0;clear L0 L1 h hB Dl CU mA M3 hlen gG VN;have HJS:Hid (∀W va,Below w0.heap.size w0 W->Sv.Sl W va n.sv->Calls be 96 #[va,U ps sv.length cs] W λe w'=>∃a k c,e=sh (Il #[U a k c,O J (Sv.aX n.sv sv)])/\Below W.heap.size W w'/\(Sv.aX n.sv sv=0->Sv.Own W.heap.size w' (U a k c) (Sv.aZ n.sv sv))):=λW va hW Nf=>by
  have e1:Sv.aX n.sv sv=0:=by rw[cP,mB];kernel_rfl
  have e2:Sv.aZ n.sv sv=[]:=by rw[cP,mB];rfl
  rw[e1,e2];rw[cP] at Nf;obtain⟨a0,c0,rfl,_,_⟩:=Nf;refine(show Calls _ _ _ _ _ from by rw[mB];exact Sv.join_none a0 ps c0 cs W).mono ?_;rintro e w' ⟨rfl,hb⟩;exact⟨Y,0,0,rfl,hb,λ_=>Sv.bz _ _⟩
 have HJG:Hid (∀W va,Below w0.heap.size w0 W->Gw.Sl W va n.gw->Calls be 97 #[va,U pg gw.length cg] W λe w'=>∃a k c,e=sh (Il #[U a k c,O J (Gw.aX n.gw gw)])/\Below W.heap.size W w'/\(Gw.aX n.gw gw=0->Gw.Own W.heap.size w' (U a k c) (Gw.aZ n.gw gw))):=λW va hW Nf=>by
  have e1:Gw.aX n.gw gw=0:=by rw[jD,iu];kernel_rfl
  have e2:Gw.aZ n.gw gw=[]:=by rw[jD,iu];rfl
  rw[e1,e2];rw[jD] at Nf;obtain⟨a0,c0,rfl,_,_⟩:=Nf;refine(show Calls _ _ _ _ _ from by rw[iu];exact Gw.join_none a0 pg c0 cg W).mono ?_;rintro e w' ⟨rfl,hb⟩;exact⟨Y,0,0,rfl,hb,λ_=>Gw.bz _ _⟩
 have HJO:Hid (∀m∈Sv.aZ n.sv sv,m.ok):=λm hm=>by rw[cP,mB] at hm;cases hm
 have HJP:Hid (∀m∈Gw.aZ n.gw gw,m.ok):=λm hm=>by rw[jD,iu] at hm;cases hm
 have Sj:Hid (∀W nd,Wk L W b nd->nd.wh=n.wh->Below w0.heap.size w0 W->wh.length<=20->Calls be 98 #[Ig (Z ⟨b,0,Y⟩),U ph wh.length ch] W λe w'=>e=sh (Il #[])/\Sh (λk=>L<=k) W w'/\Wk L w' b { nd with wh:=lrn n.wh wh }):=λW nd hW hn hB hl=>by
  have e1:lrn n.wh wh=nd.wh:=by rw[fW,hn];rfl
  refine(show Calls _ _ _ _ _ from by rw[fW];exact B7 b ch ph W).mono ?_;rintro e w' ⟨rfl,hw⟩;have qR:=hw.symm;subst qR;exact⟨rfl,Sh.refl _ _,by rw[e1];exact hW⟩
 clear cP jD mB iu fW;generalize Pk.e ⟨fw,whole,ms,sv,gw,wh⟩=pe at *;generalize B5 n ⟨fw,whole,ms,sv,gw,wh⟩=res at *;generalize wM:ms.length=km at *;have HKM:Hid (ms.length=km):=wM;clear wM;generalize sv.length=ks at *;generalize gw.length=kg at *;generalize wh.length=kh at *;obtain⟨W0,eu,eN,r8,eo⟩:=eC w #[I fw,AT whole,U pm km cm,U ps ks cs,U pg kg cg,U ph kh ch] 57;have dB:Hid (Below w.heap.size w W0):=eN;have yO:Hid (W0.heap[w.heap.size]?=Z (AI #[I fw,AT whole,U pm km cm,U ps ks cs,U pg kg cg,U ph kh ch] 57 (0,0))):=eo;have Nl:Hid (∀W,Sh (λk=>k=b) W0 W->Below w0.heap.size w0 W/\W.heap[w.heap.size]?=Z (AI #[I fw,AT whole,U pm km cm,U ps ks cs,U pg kg cg,U ph kh ch] 57 (0,0))/\Sh (λk=>L<=k) w W/\w.heap.size<W.heap.size):=λW hW=>
  ⟨HB.out.trans ((eN.mono HB.out.size).trans (hW.below (by have:=HB.out.size;omega) (λk hk=>by omega))),(hW.block _ (by omega) (by omega)).trans eo,(Sh.of eN).trans (hW.mono (λk hk=>by omega)),by have:=hW.size;omega⟩
 clear eN eo;go_enter Tryz.func50,Tryz.ntmps50;go_wp2_with fail;rw[<- eu];refine(oO.out W0 (Nl.out W0 (Sh.refl _ _)).1).mono ?_;rintro e w1 ⟨rfl,an⟩;have EA:Hid (Sh (λk=>k=b) W0 w1):=Sh.of an;have Rl:Hid (Wk L w1 b n):=(yh.out.below dB.out).below an;clear an eu;obtain⟨_,bf,abC,Er⟩:=Nl.out w1 EA.out;have q2:w1.cell? ⟨w.heap.size,2,Y⟩=Z (U pm km cm):=af bf 2;have ag6:Hid (Sh (λk=>L<=k) w w1):=abC;clear bf abC;by_cases hpe:pe=0;rotate_left
 .have am6:(pe !=0)=true:=by simpa using hpe
  have HR:Hid (res=pe):=HE.out.trans (if_neg hpe);have Ft:Hid (pe≠0):=hpe;clear hpe;go_wp2_with fail;go_ret;exact⟨aj HR.out.symm,ag6.out,λh=>absurd (HR.out.symm.trans h) Ft.out⟩
 have iV:Hid (res=(if qD n ms=0 then(if Sv.aX n.sv sv=0 then Gw.aX n.gw gw else Sv.aX n.sv sv) else qD n ms)):=HE.out.trans (if_pos hpe);obtain⟨hme,nI,XO⟩:=HPM.out hpe;have GU:Hid (∀m∈ms,m.e=0):=hme;have HWL:Hid (kh<=20):=XO;subst hpe;clear HE HPM hme XO oO;go_wp2_with fail;go_loopw [18] (λi wr=>∃k:Nat,k<=km/\i=O J k/\Hid (Sh (λk=>k=b) W0 wr)/\Hid (qD n (ms.take k)=0)/\Hid (Wk L wr b (rT n (ms.take k)))) (λi _=>km-(intOf i).toNat)
 case atStart=>exact⟨0,Nat.zero_le _,rfl,EA,rfl,Rl⟩
 case round=>
  clear q2 Er;obtain⟨k,hk,rfl,HS,HZ,HW⟩:=hrel;obtain⟨M1,SU,abD,agC⟩:=Nl.out wr HS.out;have HBr:Hid (Below w0.heap.size w0 wr):=M1;have am7:Hid (Sh (λk=>L<=k) w wr):=abD;have HGr:Hid (wr.heap[w.heap.size]?=Z (AI #[I fw,AT whole,U pm km cm,U ps ks cs,U pg kg cg,U ph kh ch] 57 (0,0))):=SU;clear M1 abD SU;by_cases aB:k<km
  .obtain⟨b2,o2,hp,dK,hr⟩:∃b off,pm=Z ⟨b,off,Y⟩/\b<w0.heap.size/\Row w0 b off ms:=by
    rcases sE.out with h|h
    .have:=HKM.out;rw[h] at this;simp at this;omega
    .exact h
   subst hp;have Ap:k<ms.length:=by rw[HKM.out];exact aB
   obtain⟨c0,c1,c2,c3,c4⟩:=(hr k Ap).eq (λo=>HBr.out.cell (p:=⟨b2,o,Y⟩) dK);clear hr;have kQ:ms.getD k dm=ms[k]:=by simp[List.getD,List.getElem?_eq_getElem Ap]
   have hmz:=HMZ.out k;have Sw:(ms.getD k dm).e=0:=by rw[kQ];exact GU.out _ (List.getElem_mem _)
   have Wq:ms.take (k+1)=ms.take k++[ms.getD k dm]:=by rw[kQ];exact List.take_succ_eq_append_getElem Ap
   obtain⟨gi,nP⟩:=Di (ms.take k) n (ms.getD k dm);rw[<- Wq] at gi nP;have xX:Hid (rT n (ms.take (k+1))=rS (rT n (ms.take k)) (ms.getD k dm)):=gi;have PN:Hid (qD n (ms.take (k+1))=oE (rT n (ms.take k)) (ms.getD k dm)):=nP HZ.out;have HBD:Hid (oE (rT n (ms.take k)) (ms.getD k dm)≠0->res=oE (rT n (ms.take k)) (ms.getD k dm)):=λbE=>by
    have e1:qD n (ms.take (k+1))≠0:=by rw[PN.out];exact bE
    have e2:=Mt (ms.take (k+1)) (ms.drop (k+1)) n e1;rw[List.take_append_drop,PN.out] at e2;exact iV.out.trans (by rw[e2,if_neg bE])
   have WJ:Hid (Sp (rT n (ms.take k))):=SY (ms.take k) n ag2.out (λm hm=>GU.out m (List.mem_of_mem_take hm)) HZ.out;have T9:Hid (∀W,Below wr.heap.size wr W->Calls be 95 #[Ig (Z ⟨b,0,Y⟩),Ip #[I (ms.getD k dm).name,O J (ms.getD k dm).state,O J (ms.getD k dm).aP,O J (ms.getD k dm).addr,AT (ms.getD k dm).server]] W λe w'=>e=sh (O J (oE (rT n (ms.take k)) (ms.getD k dm)))/\Sh (λk=>k=b) W w'/\Hid (oE (rT n (ms.take k)) (ms.getD k dm)=0->Wk L w' b (rT n (ms.take (k+1))))):=λW hW=>by
    have h:=tO L b (rT n (ms.take k)) (ms.getD k dm) W (HW.out.below hW) hL WJ.out.ms WJ.out.rs WJ.out.name Sw hmz;rw[<- xX.out] at h;exact h
   clear Wq gi nP kQ Sw;generalize oE (rT n (ms.take k)) (ms.getD k dm)=se at *;generalize ms.getD k dm=mk at *;obtain⟨mn,st,lf,ad,SO⟩:=mk;simp only at c0 c1 c2 c3 c4 T9;go_wp2_with fail;refine(T9.out _ ((Below.refl _ _).alloc (By _) _)).mono ?_;rintro e w3 ⟨rfl,Ni,nF⟩;have Xt:Hid (Sh (λk=>k=b) W0 w3):=(HS.out.alloc _).trans Ni;have ag8:Hid (Sh (λk=>L<=k) w w3):=(Nl.out w3 Xt.out).2.2.1;clear Ni c0 c1 c2 c3 c4;by_cases hse:se=0
   .have jM:Hid (qD n (ms.take (k+1))=0):=PN.out.trans hse
    have HW3:Hid (Wk L w3 b (rT n (ms.take (k+1)))):=nF.out hse;subst hse;clear nF HBD PN;go_wp2_with fail;go_roundw
    case rel=>exact⟨k+1,by omega,by go_num,Xt,jM,HW3⟩
    case measure=>simp[intOf];omega
   .have aaN:(se !=0)=true:=by simpa using hse
    have HR:Hid (res=se):=HBD.out hse;have Ft:Hid (se≠0):=hse;clear hse nF HBD PN;go_wp2_with fail;go_ret;exact⟨aj HR.out.symm,ag8.out,λh=>absurd (HR.out.symm.trans h) Ft.out⟩
  .have Vs:km=k:=by omega
   subst Vs;have Wq:ms.take km=ms:=List.take_of_length_le (by rw[HKM.out];exact By _);rw[Wq] at HZ HW;have GX:Hid (res=(if Sv.aX n.sv sv=0 then Gw.aX n.gw gw else Sv.aX n.sv sv)):=iV.out.trans (if_pos HZ.out);clear Wq iV;have GY:Hid (Rest n (rT n ms)):=A9.out ms;generalize sW:rT n ms=nd at *;clear sW;obtain⟨as_,ka,ca,ag_,kg2,cg2,vm2,vr2,vw2,h1,h2,h3⟩:=HW.out.Mv;rw[GY.out.sv] at h2;rw[GY.out.gw] at h3;have y4:wr.cell? ⟨b,4,Y⟩=Z (U as_ ka ca):=af h1 4;have x3:wr.cell? ⟨w.heap.size,3,Y⟩=Z (U ps ks cs):=af HGr.out 3;have NZ:Hid (Calls be 96 #[U as_ ka ca,U ps ks cs] wr.drew λe w'=>∃a k c,e=sh (Il #[U a k c,O J (Sv.aX n.sv sv)])/\Below wr.heap.size wr w'/\(Sv.aX n.sv sv=0->Sv.Own wr.heap.size w' (U a k c) (Sv.aZ n.sv sv))):=(HJS.out wr.drew _ HBr.out.drew h2).mono (by rintro e w' ⟨a,k,c,rfl,hb,ho⟩;exact⟨a,k,c,rfl,(Below.refl wr.heap.size wr).drew.trans hb,ho⟩);have CV:Hid (∀W,Below wr.heap.size wr W->W.heap[b]?=Z (AI (fB nd vm2 vr2 (U as_ ka ca) (U ag_ kg2 cg2) vw2) 81 (0,0))):=λW hW=>(hW.block _ HW.out.lt).trans h1;have o6:Hid (∀w1 a k c,Below wr.heap.size wr w1->(Sv.aX n.sv sv=0->Sv.Own wr.heap.size w1 (U a k c) (Sv.aZ n.sv sv))->Sv.aX n.sv sv=0->Wk L (w1.setCell ⟨b,4,Y⟩ (U a k c)) b { nd with sv:=Sv.aZ n.sv sv }):=λw1 a k c g1 g2 g0=>HW.out.V3 (by have:=HW.out.lt;omega) g1 (g2 g0) HJO.out;generalize Sv.aX n.sv sv=je at *;generalize Gw.aX n.gw gw=ge at *;clear h1 h2 h3 HJS;go_wp2_with fail;go_region_with (first|(go_at_call 96;refine NZ.out.mono ?_;rintro e w4 ⟨a,k1,c,rfl,e9,ho4⟩;have Kw:Hid (Sh (λk=>k=b) W0 (w4.setCell ⟨b,4,Y⟩ (U a k1 c))):=(HS.out.next e9).setCell (S:=λk=>k=b) rfl _;have qY:Hid (je=0->Wk L (w4.setCell ⟨b,4,Y⟩ (U a k1 c)) b { nd with sv:=Sv.aZ n.sv sv }):=o6.out w4 a k1 c e9 ho4;have eL:=CV.out w4 e9;have z4:w4.cell? ⟨b,4,Y⟩=Z (U as_ ka ca):=af eL 4;have zf:w4.frozen? ⟨b,4,Y⟩=false:=fJ eL 4;clear e9 ho4 eL))
   all_goals
    obtain⟨W5,ud⟩:∃W5,W5=w4.setCell ⟨b,4,Y⟩ (U a k1 c):=⟨_,rfl⟩;rw[<- ud] at Kw qY;rw[<- ud];clear ud z4 zf y4 x3 CV NZ o6;obtain⟨hB5,N0,Mw,T5⟩:=Nl.out W5 Kw.out;have ia:Hid (Below w0.heap.size w0 W5):=hB5;have C9:Hid (W5.heap[w.heap.size]?=Z (AI #[I fw,AT whole,U pm km cm,U ps ks cs,U pg kg cg,U ph kh ch] 57 (0,0))):=N0;have ag9:Hid (Sh (λk=>L<=k) w W5):=Mw;clear hB5 N0 Mw;by_cases hje:je=0;rotate_left
    .have anh:(je !=0)=true:=by simpa using hje
     have HR:Hid (res=je):=GX.out.trans (if_neg hje);have Ft:Hid (je≠0):=hje;clear hje;go_wp2_with fail;go_ret;exact⟨aj HR.out.symm,ag9.out,λh=>absurd (HR.out.symm.trans h) Ft.out⟩
    .have HW5:Hid (Wk L W5 b { nd with sv:=Sv.aZ n.sv sv }):=qY.out hje
     have HE4:Hid (res=ge):=GX.out.trans (if_pos hje);subst hje;clear qY GX;obtain⟨as3,ka3,Fp,ag3,kg3,cg3,vm3,vr3,vw3,h1,_,h3⟩:=HW5.out.Mv;have h3:Gw.Sl W5 (U ag3 kg3 cg3) n.gw:=by rw[<- GY.out.gw];exact h3
     have y5:W5.cell? ⟨b,5,Y⟩=Z (U ag3 kg3 cg3):=af h1 5;have x4:W5.cell? ⟨w.heap.size,4,Y⟩=Z (U pg kg cg):=af C9.out 4;have NZ:Hid (Calls be 97 #[U ag3 kg3 cg3,U pg kg cg] W5.drew λe w'=>∃a k c,e=sh (Il #[U a k c,O J ge])/\Below W5.heap.size W5 w'/\(ge=0->Gw.Own W5.heap.size w' (U a k c) (Gw.aZ n.gw gw))):=(HJG.out W5.drew _ ia.out.drew h3).mono (by rintro e w' ⟨a,k,c,rfl,hb,ho⟩;exact⟨a,k,c,rfl,(Below.refl W5.heap.size W5).drew.trans hb,ho⟩);have CV:Hid (∀W,Below W5.heap.size W5 W->W.heap[b]?=Z (AI (fB { nd with sv:=Sv.aZ n.sv sv } vm3 vr3 (U as3 ka3 Fp) (U ag3 kg3 cg3) vw3) 81 (0,0))):=λW hW=>(hW.block _ HW5.out.lt).trans h1;have o6:Hid (∀w1 a k c,Below W5.heap.size W5 w1->(ge=0->Gw.Own W5.heap.size w1 (U a k c) (Gw.aZ n.gw gw))->ge=0->Wk L (w1.setCell ⟨b,5,Y⟩ (U a k c)) b { nd with sv:=Sv.aZ n.sv sv,gw:=Gw.aZ n.gw gw }):=λw1 a k c g1 g2 g0=>HW5.out.V4 (by have:=HW5.out.lt;omega) g1 (g2 g0) HJP.out;clear h1 h3;go_wp2_with fail;go_region_with (first|(go_at_call 97;refine NZ.out.mono ?_;rintro e w6 ⟨a6,k6,c6,rfl,gK,ho6⟩;have mN:Hid (Sh (λk=>k=b) W0 (w6.setCell ⟨b,5,Y⟩ (U a6 k6 c6))):=(Kw.out.next gK).setCell (S:=λk=>k=b) rfl _;have nG:Hid (ge=0->Wk L (w6.setCell ⟨b,5,Y⟩ (U a6 k6 c6)) b { nd with sv:=Sv.aZ n.sv sv,gw:=Gw.aZ n.gw gw }):=o6.out w6 a6 k6 c6 gK ho6;have eL:=CV.out w6 gK;have z5:w6.cell? ⟨b,5,Y⟩=Z (U ag3 kg3 cg3):=af eL 5;have zf:w6.frozen? ⟨b,5,Y⟩=false:=fJ eL 5;clear gK ho6 eL))
     all_goals
      obtain⟨W7,hW7⟩:∃W7,W7=w6.setCell ⟨b,5,Y⟩ (U a6 k6 c6):=⟨_,rfl⟩;rw[<- hW7] at mN nG;rw[<- hW7];clear hW7 z5 zf y5 x4 CV NZ o6;obtain⟨hB7,hg7,abI,ann⟩:=Nl.out W7 mN.out;have rN:Hid (Below w0.heap.size w0 W7):=hB7;have abJ:Hid (Sh (λk=>L<=k) w W7):=abI;have x5:W7.cell? ⟨w.heap.size,5,Y⟩=Z (U ph kh ch):=af hg7 5;clear hB7 hg7 abI;by_cases kZ:ge=0;rotate_left
      .have aaM:(ge !=0)=true:=by simpa using kZ
       have Ft:Hid (ge≠0):=kZ;clear kZ;go_wp2_with fail;go_ret;exact⟨aj HE4.out.symm,abJ.out,λh=>absurd (HE4.out.symm.trans h) Ft.out⟩
      .have HLC:=Sj.out W7 { nd with sv:=Sv.aZ n.sv sv,gw:=Gw.aZ n.gw gw } (nG.out kZ) GY.out.wh rN.out HWL.out
       have RV:Hid (res=0):=HE4.out.trans kZ;subst kZ;clear nG;go_wp2_with fail;refine HLC.mono ?_;rintro e w8 ⟨rfl,hs8,hk8⟩;have HS8:Hid (Sh (λk=>L<=k) w w8):=abJ.out.trans hs8;have GJ:Hid (Wk L w8 b (He n ⟨fw,whole,ms,sv,gw,wh⟩)):=by rw[tW.out];exact hk8
       clear hs8 hk8;go_wp2_with fail;go_ret;exact⟨aj RV.out.symm,HS8.out,λ_=>GJ.out⟩
theorem Wh.Gh{wh:List Wh.cd}(h:Wh.aM wh=0)(hk:∀m∈wh,m.ok):Wh.Wz wh:=⟨(Wh.aI h).2.1,(Wh.aI h).1,hk⟩
theorem B9(L b tb:Nat)(n:Nd)(fw:ByteArray)(whole:Bool)(rU:List Mem)(qF:List Sv.ba)(qG:List Gw.cW)(qH:List Wh.cd)(am aS aG aH:Option Addr)(bm bS bG bH:Nat)(w0 w:World)(h:Wk L w b n)(hL:L<=b)(he:n.e=0)(mU:ri n)(hx:sY w0 ⟨fw,whole,rU,qF,qG,qH⟩ (U am rU.length bm) (U aS qF.length bS) (U aG qG.length bG) (U aH qH.length bH))(hB:Below w0.heap.size w0 w)(hBL:w0.heap.size<=L)(hlen:whole=true\/qF.length+qG.length+qH.length<=4611686018427387904)(cP:n.sv=[])(jD:n.gw=[])(mB:qF=[])(iu:qG=[])(fW:qH=[])(hc:w.heap[tb]?=Z (AI #[I fw,AT whole,U am rU.length bm,U aS qF.length bS,U aG qG.length bG,U aH qH.length bH] 57 (0,0))) :
 Calls be 49 #[Ig (Z ⟨b,0,Y⟩),Ig (Z ⟨tb,0,Y⟩)] w λe w'=>e=sh (O J (B5 n ⟨fw,whole,rU,qF,qG,qH⟩))/\Sh (λk=>L<=k) w w'/\Hid (B5 n ⟨fw,whole,rU,qF,qG,qH⟩=0->Wk L w' b (He n ⟨fw,whole,rU,qF,qG,qH⟩)):=by
 have hp:=Nd.parts (Nd.jy he).1;have HC:Hid (Calls be 50 #[Ig (Z ⟨b,0,Y⟩),Ip #[I fw,AT whole,U am rU.length bm,U aS qF.length bS,U aG qG.length bG,U aH qH.length bH]] w λe w'=>e=sh (O J (B5 n ⟨fw,whole,rU,qF,qG,qH⟩))/\Sh (λk=>L<=k) w w'/\Hid (B5 n ⟨fw,whole,rU,qF,qG,qH⟩=0->Wk L w' b (He n ⟨fw,whole,rU,qF,qG,qH⟩))):=
  B8 L b n ⟨fw,whole,rU,qF,qG,qH⟩ _ _ _ _ w0 w h hL (Nd.sp he) hp.sv hp.gw (Wh.Gh hp.wh mU.wh) hx hB hBL hlen cP jD mB iu fW
 obtain⟨y0,y1,y2,y3,y4,y5⟩:=ko hc;clear h hp hc hx cP jD mB iu fW;generalize B5 n ⟨fw,whole,rU,qF,qG,qH⟩=we at *;generalize He n ⟨fw,whole,rU,qF,qG,qH⟩=nn at *;generalize rU.length=k1 at *;generalize qF.length=k2 at *;generalize qG.length=k3 at *;generalize qH.length=k4 at *;go_enter Tryz.func49,Tryz.ntmps49;go_wp2_with fail;refine HC.out.mono ?_;rintro e w1 ⟨rfl,hs,hk⟩;have HS:Hid (Sh (λk=>L<=k) w w1):=hs;clear hs;go_wp2_with fail;go_ret;exact⟨rfl,HS.out,hk⟩
theorem Gi(n:Nd)(p:Pk)(zm zs zg zw:Value)(vm vr vs vg vw:Value)(w:World)(h:ix w n vm vr vs vg vw)(hx:sY w p zm zs zg zw)(hlen:p.whole=true\/p.sv.length+p.gw.length+p.wh.length<=4611686018427387904)(cP:n.sv=[])(jD:n.gw=[])(mB:p.sv=[])(iu:p.gw=[])(fW:p.wh=[]) :
 Calls be 18 #[Ip (fB n vm vr vs vg vw),Ip #[I p.fw,AT p.whole,zm,zs,zg,zw]] w λe w'=>fV n.e (B5 n p) (He n p) w e w':=by
 have BI:Hid (ix w n vm vr vs vg vw):=h;have HX:Hid (sY w p zm zs zg zw):=hx;obtain⟨fw,whole,rU,qF,qG,qH⟩:=p;obtain⟨⟨am,bm,rfl,_,_⟩,⟨aS,bS,rfl,_,_⟩,⟨aG,bG,rfl,_,_⟩,⟨aH,bH,rfl,_,_⟩,_,_⟩:=hx;simp only at hlen HX ⊢;obtain⟨W0,eu⟩:∃W0,W0=w.heap.size:=⟨_,rfl⟩;clear eu W0;have Hf:Hid (∀W0,Below w.heap.size w W0->W0.heap.size=w.heap.size+3->W0.heap[w.heap.size+1]?=Z (AI #[I fw,AT whole,U am rU.length bm,U aS qF.length bS,U aG qG.length bG,U aH qH.length bH] 57 (0,0))->Calls be 45 #[Ip (fB n vm vr vs vg vw),I7 (.func 49) #[] #[Ig (Z ⟨w.heap.size+1,0,Y⟩)]] W0 λe w'=>lO n.e (B5 n ⟨fw,whole,rU,qF,qG,qH⟩) (He n ⟨fw,whole,rU,qF,qG,qH⟩) (λ_=>False) (λ_=>True) W0 e w'):=λW0 hb hs kM=>
  zu 49 #[Ig (Z ⟨w.heap.size+1,0,Y⟩)] (enters_of Tryz.func49 (by kernel_rfl) rfl) n vm vr vs vg vw W0 (h.below hb) (λ_=>False) (B5 n ⟨fw,whole,rU,qF,qG,qH⟩) (He n ⟨fw,whole,rU,qF,qG,qH⟩) (λ_=>True)
   (λhe W b hW aD hk=>by
    refine(B9 (W0.heap.size+2) b (w.heap.size+1) n fw whole rU qF qG qH am aS aG aH bm bS bG bH W0 W hk (by omega) he h.ok (HX.out.below hb) hW (by omega) hlen cP jD mB iu fW ((hW.block _ (by omega)).trans kM)).mono ?_;rintro e w' ⟨rfl,hs,hh⟩;exact⟨rfl,hs.mono (λk hk=>.inl hk),λh=>⟨hh.out h,trivial⟩⟩
   ) (λ_ _ _ _=>trivial) (λ_ hk=>hk.elim)
 obtain⟨nm,ct,ms,rs,sv,gw,⟨px,py,pz,ph,pq⟩,wh⟩:=n;obtain⟨⟨em,cm,rfl,_,_⟩,⟨zp,cr,rfl,_,_⟩,⟨es,zq,rfl,_,_⟩,⟨zr,cg,rfl,_,_⟩,⟨eh,ch,rfl,_,_⟩,_,_⟩:=h;simp only[fB] at Hf ⊢;generalize ms.length=km at *;generalize rs.length=kr at *;generalize sv.length=ks at *;generalize gw.length=kg at *;generalize wh.length=kh at *;generalize rU.length=k1 at *;generalize qF.length=k2 at *;generalize qG.length=k3 at *;generalize qH.length=k4 at *;generalize Nd.e ⟨nm,ct,ms,rs,sv,gw,⟨px,py,pz,ph,pq⟩,wh⟩=ne at *;generalize B5 ⟨nm,ct,ms,rs,sv,gw,⟨px,py,pz,ph,pq⟩,wh⟩ ⟨fw,whole,rU,qF,qG,qH⟩=er at *;generalize He ⟨nm,ct,ms,rs,sv,gw,⟨px,py,pz,ph,pq⟩,wh⟩ ⟨fw,whole,rU,qF,qG,qH⟩=n' at *;obtain⟨W0,eu⟩:∃W0,W0=(((w.alloc (AI #[I nm,I ct,U em km cm,U zp kr cr,U es ks zq,U zr kg cg,O J px,O J py,O J pz,O J ph,O J pq,U eh kh ch] 30)).alloc (AI #[I fw,AT whole,U am k1 bm,U aS k2 bS,U aG k3 bG,U aH k4 bH] 57)).alloc (AI #[I ⟨#[]⟩,I ⟨#[]⟩,U Y 0 0,U Y 0 0,U Y 0 0,U Y 0 0,O J 0,O J 0,O J 0,O J 0,O J 0,U Y 0 0] 30)):=⟨_,rfl⟩;have eN:Below w.heap.size w W0:=by rw[eu];exact(((Below.refl _ _).alloc (By _) _).alloc (by simp<;>omega) _).alloc (by simp<;>omega) _
 have r8:W0.heap.size=w.heap.size+3:=by rw[eu];simp
 have kM:W0.heap[w.heap.size+1]?=Z (AI #[I fw,AT whole,U am k1 bm,U aS k2 bS,U aG k3 bG,U aH k4 bH] 57 (0,0)):=by
  have h:=Ie (w.alloc (AI #[I nm,I ct,U em km cm,U zp kr cr,U es ks zq,U zr kg cg,O J px,O J py,O J pz,O J ph,O J pq,U eh kh ch] 30)) (AI #[I fw,AT whole,U am k1 bm,U aS k2 bS,U aG k3 bG,U aH k4 bH] 57);rw[eu,Below.heap_alloc _ _ _ (by simp<;>omega)];simpa using h
 have cE:W0.heap[w.heap.size+2]?=Z (AI #[I ⟨#[]⟩,I ⟨#[]⟩,U Y 0 0,U Y 0 0,U Y 0 0,U Y 0 0,O J 0,O J 0,O J 0,O J 0,O J 0,U Y 0 0] 30 (0,0)):=by
  have h:=Ie ((w.alloc (AI #[I nm,I ct,U em km cm,U zp kr cr,U es ks zq,U zr kg cg,O J px,O J py,O J pz,O J ph,O J pq,U eh kh ch] 30)).alloc (AI #[I fw,AT whole,U am k1 bm,U aS k2 bS,U aG k3 bG,U aH k4 bH] 57)) (AI #[I ⟨#[]⟩,I ⟨#[]⟩,U Y 0 0,U Y 0 0,U Y 0 0,U Y 0 0,O J 0,O J 0,O J 0,O J 0,O J 0,U Y 0 0] 30);rw[eu];simpa using h
 have SZ:=Hf.out W0 eN r8 kM;have dB:Hid (Below w.heap.size w W0):=eN;have C8:Hid (W0.heap[w.heap.size+2]?=Z (AI #[I ⟨#[]⟩,I ⟨#[]⟩,U Y 0 0,U Y 0 0,U Y 0 0,U Y 0 0,O J 0,O J 0,O J 0,O J 0,O J 0,U Y 0 0] 30 (0,0))):=cE;clear eN cE Hf kM;go_enter Tryz.func18,Tryz.ntmps18;go_wp2_with fail;rw[<- eu];refine SZ.mono ?_;rintro e w1 ⟨rV,xq⟩;have an:Below W0.heap.size W0 w1:=rV.below (By _) (λ_ hk=>hk.elim);have cP:w1.heap[w.heap.size+2]?=_:=(an.block _ (by omega)).trans C8.out;have aK:Hid (Below w.heap.size w w1):=dB.out.trans (an.mono (by omega));have gi:w.heap.size+2<w1.heap.size:=(Array.getElem?_eq_some_iff.1 cP).1;obtain⟨q0,q1,q2,q3,q4,q5,q6,q7,q8,q9,q10,q11⟩:=bT cP;obtain⟨GZ,FK,G9,Ha,Hb,Hc,Wl,Wm,Wn,Wo,BJ,BK⟩:=tt cP;clear rV an cP SZ eu;rcases xq with⟨bE,rfl⟩|⟨bE,zt,rfl⟩|⟨bE,zt,um,ur,us,ug,uw,rfl,hown,mU,_⟩
 .have GV:Hid (ne≠0):=bE
  clear bE;go_wp2_with fail;refine Iy (v:=Il #[Ip #[I ⟨#[]⟩,I ⟨#[]⟩,U Y 0 0,U Y 0 0,U Y 0 0,U Y 0 0,O J 0,O J 0,O J 0,O J 0,O J 0,U Y 0 0],O J ne]) ?_ rfl ?_
  .simp[results,Tryz.results18,go_sem,q0,q1,q2,q3,q4,q5,q6,q7,q8,q9,q10,q11]
  .unfold fV
   exact⟨fI aK.out (by omega) _ _ _ _ _ _ _ _ _ _ _ _,.inl ⟨GV.out,rfl⟩⟩
 .have GV:Hid (ne=0/\er≠0):=⟨bE,zt⟩
  clear bE zt;go_wp2_with fail;refine Iy (v:=Il #[Ip #[I ⟨#[]⟩,I ⟨#[]⟩,U Y 0 0,U Y 0 0,U Y 0 0,U Y 0 0,O J 0,O J 0,O J 0,O J 0,O J 0,U Y 0 0],O J er]) ?_ rfl ?_
  .simp[results,Tryz.results18,go_sem,q0,q1,q2,q3,q4,q5,q6,q7,q8,q9,q10,q11]
  .unfold fV
   exact⟨fI aK.out (by omega) _ _ _ _ _ _ _ _ _ _ _ _,.inr (.inl ⟨GV.out.1,GV.out.2,rfl⟩)⟩
 .have GV:Hid (ne=0/\er=0):=⟨bE,zt⟩
  have tD:Hid (gT W0.heap.size w1 n' um ur us ug uw):=hown;have yk:Hid (ri n'):=mU;obtain⟨im2,jm2,rq,_⟩:=ax hown.ms;obtain⟨ir2,jr2,xi,_⟩:=ax hown.rs;obtain⟨is2,js2,BL,_⟩:=ax hown.sv;obtain⟨ig2,jg2,BM,_⟩:=ax hown.gw;obtain⟨ih2,jh2,BN,_⟩:=ax hown.wh;subst rq xi BL BM BN;clear hown mU bE zt;obtain⟨n2,c2,ms2,rs2,SO,gw2,⟨qx,qy,qz,qh,qq⟩,wh2⟩:=n';go_wp2_with fail;refine Iy (v:=Il #[Ip #[I n2,I c2,U im2 ms2.length jm2,U ir2 rs2.length jr2,U is2 SO.length js2,U ig2 gw2.length jg2,O J qx,O J qy,O J qz,O J qh,O J qq,U ih2 wh2.length jh2],O J 0]) ?_ rfl ?_
  .simp[results,Tryz.results18,go_sem,q0,q1,q2,q3,q4,q5,q6,q7,q8,q9,q10,q11]
  .unfold fV
   refine⟨fI aK.out (by omega) _ _ _ _ _ _ _ _ _ _ _ _,.inr (.inr ⟨GV.out.1,GV.out.2,_,_,_,_,_,rfl,⟨?_,?_,?_,?_,?_⟩,yk.out⟩)⟩
   .exact Own.mono (bK (tD.out.ms) (by omega) _ _ _ _ _ _ _ _ _ _ _ _) (by omega)
   .exact bX.base (bK (tD.out.rs) (by omega) _ _ _ _ _ _ _ _ _ _ _ _) (by omega)
   .exact Sv.Own.mono (bK (tD.out.sv) (by omega) _ _ _ _ _ _ _ _ _ _ _ _) (by omega)
   .exact Gw.Own.mono (bK (tD.out.gw) (by omega) _ _ _ _ _ _ _ _ _ _ _ _) (by omega)
   .exact Wh.Own.mono (bK (tD.out.wh) (by omega) _ _ _ _ _ _ _ _ _ _ _ _) (by omega)
end Go.Proofs.YtfidjlcdlakceaaGreatDoor
