import Derived.Test.YtfidjlcdlakceaaGreatDoortf38
set_option maxHeartbeats 51200000
set_option maxRecDepth 100000
open Go.Value renaming slice→U,func→IZ,int→O,tuple→Il,pointer→If,agg→Im,string→I,bool→AI
open Option renaming none→Y,some→Z
open Go.Ending renaming returned→sh
open Go.Proofs.Tryz renaming prog→be
open Go.IntKind renaming i64→J
open Go renaming heap_alloc_new→Ie,bodyPost_ret→Ix
open Go.RowKit.Below renaming refl→Ib
open Nat renaming le_refl→By
open Go.Obj renaming cells→AT
namespace Go.Proofs.YtfidjlcdlakceaaGreatDoor
namespace Sv
open Go.RowKit
theorem oJ(pa pv:Option Addr)(ca cb pb cap:Nat)(w:World)(hc0:w.cell? ⟨pb,0,Y⟩=Z (U pa 0 ca))(hc1:w.cell? ⟨pb,1,Y⟩=Z (U pv 0 cb)) :
 Calls be 206 #[IZ (.func 182) #[] #[],IZ (.func 207) #[] #[],U (Z ⟨pb,0,Y⟩) 2 cap] w λe w'=>e=sh (U Y 0 0)/\w'=w:=by
 go_enter Tryz.func206,Tryz.ntmps206;go_wp2_with fail;go_loopw [7,16] (λkn i w'=>∃k:Nat,k<=2/\i=O J k/\kn=U Y 0 0/\w'=w) (λ_ i _=>2-(intOf i).toNat)
 case atStart=>exact⟨0,by omega,rfl,rfl,rfl⟩
 case round=>
  obtain⟨k,hk,rfl,rfl,rfl⟩:=hrel;by_cases aL:k<2
  .have hc:∃(p:Option Addr) (c:Nat),wr.cell? ⟨pb,k,Y⟩=Z (U p 0 c):=by
    rcases Nat.lt_or_ge k 1 with h|h
    .have:k=0:=by omega
     subst this;exact⟨_,_,hc0⟩
    .have:k=1:=by omega
     subst this;exact⟨_,_,hc1⟩
   obtain⟨p,c,hc⟩:=hc;have sg:(k:Int)<2:=by omega
   clear hc0 hc1;go_wp2_with fail;go_loopw [7,22] (λkn j w'=>kn=U Y 0 0/\j=O J 0/\w'=wr) (λ_ _ _=>0)
   case atStart=>exact⟨rfl,rfl,rfl⟩
   case round=>
    obtain⟨rfl,rfl,rfl⟩:=hrel;go_wp2_with fail;first
    |exact⟨⟨k+1,by omega,by go_num,by simp,by simp⟩,by simp[intOf];omega⟩
    |(go_roundw
      case rel=>exact⟨k+1,by omega,by go_num,by simp,by simp⟩
      case measure=>simp[intOf];omega)
  .have hd:decide ((k:Int)<2)=false:=by simp;omega
   go_wp2_with fail;go_ret;exact⟨rfl,rfl⟩
theorem join_none(pa pv:Option Addr)(ca cb:Nat)(w:World) :
 Calls be 96 #[U pa 0 ca,U pv 0 cb] w λe w'=>e=sh (Il #[U Y 0 0,O J 0])/\Below w.heap.size w w':=by
 have HJ:Hid (∀(W:World) (pb cap:Nat),pb<W.heap.size->W.cell? ⟨pb,0,Y⟩=Z (U pa 0 ca)->W.cell? ⟨pb,1,Y⟩=Z (U pv 0 cb)->Calls be 147 #[U (Z ⟨pb,0,Y⟩) 2 cap] W λe w'=>e=sh (Il #[U Y 0 0,O J 0])/\Below W.heap.size W w'):=λW pb cap hpb h0 h1=>by
  have hn:∀(p:Option Addr) (c:Nat),Sl W (U p 0 c) []:=λp c=>⟨p,c,rfl,cB (by simp),.inl rfl⟩;have HC:Hid (Calls be 205 #[U (Z ⟨pb,0,Y⟩) 2 cap] W λe w'=>e=sh (O J 0)/\Below W.heap.size W w'):=cQ [] [] _ _ pb cap W (hn pa ca) (hn pv cb) hpb h0 h1;have HR:Hid (∀w1,Below W.heap.size W w1->Calls be 206 #[IZ (.func 182) #[] #[],IZ (.func 207) #[] #[],U (Z ⟨pb,0,Y⟩) 2 cap] w1 λe w'=>e=sh (U Y 0 0)/\w'=w1):=λw1 al=>oJ pa pv ca cb pb cap w1 ((cH al).1 pb 0 hpb |>.trans h0) ((cH al).1 pb 1 hpb |>.trans h1);clear hn;go_enter Tryz.func147,Tryz.ntmps147;go_wp2_with fail;refine HC.out.mono ?_;rintro e w1 ⟨rfl,al⟩;have aR:Hid (Below W.heap.size W w1):=al;have kD:=HR.out w1 al;clear al HR HC;go_wp2_with fail;refine kD.mono ?_;rintro e w2 ⟨rfl,rH⟩;have zN:=rH.symm;subst zN;go_wp2_with fail;go_ret2;exact⟨rfl,aR.out⟩
 go_enter Tryz.func96,Tryz.ntmps96;go_wp2_with fail;refine(HJ.out _ w.heap.size 2 (by simp) (af (Ie w _) 0) (af (Ie w _) 1)).mono ?_;rintro e w2 ⟨rfl,hb⟩;have HB:Hid (Below w.heap.size w w2):=((Ib _ _).alloc (By _) _).trans (hb.mono (by simp));clear hb;go_wp2_with fail;go_ret2;exact⟨rfl,HB.out⟩
end Sv
namespace Gw
open Go.RowKit
theorem oJ(pa pv:Option Addr)(ca cb pb cap:Nat)(w:World)(hc0:w.cell? ⟨pb,0,Y⟩=Z (U pa 0 ca))(hc1:w.cell? ⟨pb,1,Y⟩=Z (U pv 0 cb)) :
 Calls be 209 #[IZ (.func 185) #[] #[],IZ (.func 210) #[] #[],U (Z ⟨pb,0,Y⟩) 2 cap] w λe w'=>e=sh (U Y 0 0)/\w'=w:=by
 go_enter Tryz.func209,Tryz.ntmps209;go_wp2_with fail;go_loopw [7,16] (λkn i w'=>∃k:Nat,k<=2/\i=O J k/\kn=U Y 0 0/\w'=w) (λ_ i _=>2-(intOf i).toNat)
 case atStart=>exact⟨0,by omega,rfl,rfl,rfl⟩
 case round=>
  obtain⟨k,hk,rfl,rfl,rfl⟩:=hrel;by_cases aL:k<2
  .have hc:∃(p:Option Addr) (c:Nat),wr.cell? ⟨pb,k,Y⟩=Z (U p 0 c):=by
    rcases Nat.lt_or_ge k 1 with h|h
    .have:k=0:=by omega
     subst this;exact⟨_,_,hc0⟩
    .have:k=1:=by omega
     subst this;exact⟨_,_,hc1⟩
   obtain⟨p,c,hc⟩:=hc;have sg:(k:Int)<2:=by omega
   clear hc0 hc1;go_wp2_with fail;go_loopw [7,22] (λkn j w'=>kn=U Y 0 0/\j=O J 0/\w'=wr) (λ_ _ _=>0)
   case atStart=>exact⟨rfl,rfl,rfl⟩
   case round=>
    obtain⟨rfl,rfl,rfl⟩:=hrel;go_wp2_with fail;first
    |exact⟨⟨k+1,by omega,by go_num,by simp,by simp⟩,by simp[intOf];omega⟩
    |(go_roundw
      case rel=>exact⟨k+1,by omega,by go_num,by simp,by simp⟩
      case measure=>simp[intOf];omega)
  .have hd:decide ((k:Int)<2)=false:=by simp;omega
   go_wp2_with fail;go_ret;exact⟨rfl,rfl⟩
theorem join_none(pa pv:Option Addr)(ca cb:Nat)(w:World) :
 Calls be 97 #[U pa 0 ca,U pv 0 cb] w λe w'=>e=sh (Il #[U Y 0 0,O J 0])/\Below w.heap.size w w':=by
 have HJ:Hid (∀(W:World) (pb cap:Nat),pb<W.heap.size->W.cell? ⟨pb,0,Y⟩=Z (U pa 0 ca)->W.cell? ⟨pb,1,Y⟩=Z (U pv 0 cb)->Calls be 148 #[U (Z ⟨pb,0,Y⟩) 2 cap] W λe w'=>e=sh (Il #[U Y 0 0,O J 0])/\Below W.heap.size W w'):=λW pb cap hpb h0 h1=>by
  have hn:∀(p:Option Addr) (c:Nat),Sl W (U p 0 c) []:=λp c=>⟨p,c,rfl,cB (by simp),.inl rfl⟩;have HC:Hid (Calls be 208 #[U (Z ⟨pb,0,Y⟩) 2 cap] W λe w'=>e=sh (O J 0)/\Below W.heap.size W w'):=cQ [] [] _ _ pb cap W (hn pa ca) (hn pv cb) hpb h0 h1;have HR:Hid (∀w1,Below W.heap.size W w1->Calls be 209 #[IZ (.func 185) #[] #[],IZ (.func 210) #[] #[],U (Z ⟨pb,0,Y⟩) 2 cap] w1 λe w'=>e=sh (U Y 0 0)/\w'=w1):=λw1 al=>oJ pa pv ca cb pb cap w1 ((cH al).1 pb 0 hpb |>.trans h0) ((cH al).1 pb 1 hpb |>.trans h1);clear hn;go_enter Tryz.func148,Tryz.ntmps148;go_wp2_with fail;refine HC.out.mono ?_;rintro e w1 ⟨rfl,al⟩;have aR:Hid (Below W.heap.size W w1):=al;have kD:=HR.out w1 al;clear al HR HC;go_wp2_with fail;refine kD.mono ?_;rintro e w2 ⟨rfl,rH⟩;have zN:=rH.symm;subst zN;go_wp2_with fail;go_ret2;exact⟨rfl,aR.out⟩
 go_enter Tryz.func97,Tryz.ntmps97;go_wp2_with fail;refine(HJ.out _ w.heap.size 2 (by simp) (af (Ie w _) 0) (af (Ie w _) 1)).mono ?_;rintro e w2 ⟨rfl,hb⟩;have HB:Hid (Below w.heap.size w w2):=((Ib _ _).alloc (By _) _).trans (hb.mono (by simp));clear hb;go_wp2_with fail;go_ret2;exact⟨rfl,HB.out⟩
end Gw
end Go.Proofs.YtfidjlcdlakceaaGreatDoor
namespace Go.Proofs.YtfidjlcdlakceaaGreatDoor
open Go.RowKit
theorem Es(b ch:Nat)(ph:Option Addr)(w:World) :
 Calls be 98 #[If (Z ⟨b,0,Y⟩),U ph 0 ch] w λe w'=>e=sh (Il #[])/\w'=w:=by
 go_enter Tryz.func98,Tryz.ntmps98;go_wp2_with fail;go_loopw [10] (λi w'=>i=O J 0/\w'=w) (λ_ _=>0)
 case atStart=>exact⟨rfl,rfl⟩
 case round=>
  obtain⟨rfl,rfl⟩:=hrel;go_wp2_with fail;simp[bodyPost,results,Tryz.results98,go_sem]
theorem Et(L b:Nat)(n:Nd)(p:Pk)(vm vs vg vw:Value)(w0 w:World)(h:Wk L w b n)(hL:L<=b)(BA:Sp n)(Cy:Sv.ba n.sv=0)(nN:Gw.ba n.gw=0)(GW:Wh.uJ n.wh)(hx:pJ w0 p vm vs vg vw)(hB:Below w0.heap.size w0 w)(hBL:w0.heap.size<=L)(hlen:p.whole=true\/p.sv.length+p.gw.length+p.wh.length<=4611686018427387904)(cS:n.sv=[])(iX:n.gw=[])(lN:p.sv=[])(iQ:p.gw=[])(gG:p.wh=[]) :
 Calls be 50 #[If (Z ⟨b,0,Y⟩),Im #[I p.dN,AI p.whole,vm,vs,vg,vw]] w λe w'=>e=sh (O J (oG n p))/\Sh (λk=>L<=k) w w'/\Hid (oG n p=0->Wk L w' b (s9 n p)):=by
 have sA:Hid (Wk L w b n):=h;have aU:=h.lt;have HB:Hid (Below w0.heap.size w0 w):=hB;have abc:Hid (Sp n):=BA;have HE:Hid (oG n p=if p.e=0 then(if nW n p.ms=0 then(if Sv.aA n.sv p.sv=0 then Gw.aA n.gw p.gw else Sv.aA n.sv p.sv) else nW n p.ms) else p.e):=rfl;have sq:Hid (s9 n p={ lX n p.ms with sv:=Sv.ay n.sv p.sv,gw:=Gw.ay n.gw p.gw,wh:=Bx n.wh p.wh }):=rfl;have rL:Hid (∀W,Below w0.heap.size w0 W->Calls be 94 #[Im #[I p.dN,AI p.whole,vm,vs,vg,vw]] W λe w'=>e=sh (O J p.e)/\Below W.heap.size W w'):=λW hW=>oC p vm vs vg vw W (hx.below hW) hlen;have HPM:Hid (p.e=0->(∀m∈p.ms,m.e=0)/\p.ms.length<=20/\p.wh.length<=20):=λh=>⟨(xL h).1,(xL h).2.1,(Wh.aF (xL h).2.2.1).1⟩;have HXI:Hid (pJ w0 p vm vs vg vw):=hx;have Fu:Hid (∀l,Rest n (lX n l)):=λl=>zq l n;have WV:Hid (Sv.ba n.sv=0):=Cy;have HGW:Hid (Gw.ba n.gw=0):=nN;have HWF:Hid (Wh.uJ n.wh):=GW;obtain⟨dN,whole,ms,sv,gw,wh⟩:=p;obtain⟨j5,P3,P4,P5,Vi,cV⟩:=hx;simp only at j5 P3 P4 P5 hlen HE sq rL HPM lN iQ gG;obtain⟨pm,cm,rfl,Bl,Bm⟩:=j5;obtain⟨ps,cs,rfl,_,_⟩:=P3;obtain⟨pg,cg,rfl,_,_⟩:=P4;obtain⟨ph,ch,rfl,_,_⟩:=P5;have qD:Hid (ms=[]\/∃b off,pm=Z ⟨b,off,Y⟩/\b<w0.heap.size/\Row w0 b off ms):=Bm;have HMZ:Hid (∀j,(ms.getD j dm).name.size<=maxLen):=Bl;clear Bl Bm h hB BA Cy nN GW hlen cV Vi;have HJS:Hid (∀W va,Below w0.heap.size w0 W->Sv.Sl W va n.sv->Calls be 96 #[va,U ps sv.length cs] W λe w'=>∃a k c,e=sh (Il #[U a k c,O J (Sv.aA n.sv sv)])/\Below W.heap.size W w'/\(Sv.aA n.sv sv=0->Sv.Own W.heap.size w' (U a k c) (Sv.ay n.sv sv))):=λW va hW Ff=>by
  have e1:Sv.aA n.sv sv=0:=by rw[cS,lN];kernel_rfl
  have e2:Sv.ay n.sv sv=[]:=by rw[cS,lN];rfl
  rw[e1,e2];rw[cS] at Ff;obtain⟨a0,c0,rfl,_,_⟩:=Ff;refine(show Calls _ _ _ _ _ from by rw[lN];exact Sv.join_none a0 ps c0 cs W).mono ?_;rintro e w' ⟨rfl,hb⟩;exact⟨Y,0,0,rfl,hb,λ_=>Sv.bj _ _⟩
 have HJG:Hid (∀W va,Below w0.heap.size w0 W->Gw.Sl W va n.gw->Calls be 97 #[va,U pg gw.length cg] W λe w'=>∃a k c,e=sh (Il #[U a k c,O J (Gw.aA n.gw gw)])/\Below W.heap.size W w'/\(Gw.aA n.gw gw=0->Gw.Own W.heap.size w' (U a k c) (Gw.ay n.gw gw))):=λW va hW Ff=>by
  have e1:Gw.aA n.gw gw=0:=by rw[iX,iQ];kernel_rfl
  have e2:Gw.ay n.gw gw=[]:=by rw[iX,iQ];rfl
  rw[e1,e2];rw[iX] at Ff;obtain⟨a0,c0,rfl,_,_⟩:=Ff;refine(show Calls _ _ _ _ _ from by rw[iQ];exact Gw.join_none a0 pg c0 cg W).mono ?_;rintro e w' ⟨rfl,hb⟩;exact⟨Y,0,0,rfl,hb,λ_=>Gw.bj _ _⟩
 have HJO:Hid (∀m∈Sv.ay n.sv sv,m.ok):=λm hm=>by rw[cS,lN] at hm;cases hm
 have HJP:Hid (∀m∈Gw.ay n.gw gw,m.ok):=λm hm=>by rw[iX,iQ] at hm;cases hm
 have Sy:Hid (∀W nd,Wk L W b nd->nd.wh=n.wh->Below w0.heap.size w0 W->wh.length<=20->Calls be 98 #[If (Z ⟨b,0,Y⟩),U ph wh.length ch] W λe w'=>e=sh (Il #[])/\Sh (λk=>L<=k) W w'/\Wk L w' b { nd with wh:=Bx n.wh wh }):=λW nd hW hn hB hl=>by
  have e1:Bx n.wh wh=nd.wh:=by rw[gG,hn];rfl
  refine(show Calls _ _ _ _ _ from by rw[gG];exact Es b ch ph W).mono ?_;rintro e w' ⟨rfl,hw⟩;have rH:=hw.symm;subst rH;exact⟨rfl,Sh.refl _ _,by rw[e1];exact hW⟩
 clear cS iX lN iQ gG;generalize Pk.e ⟨dN,whole,ms,sv,gw,wh⟩=pe at *;generalize oG n ⟨dN,whole,ms,sv,gw,wh⟩=res at *;generalize vu:ms.length=km at *;have HKM:Hid (ms.length=km):=vu;clear vu;generalize sv.length=ks at *;generalize gw.length=kg at *;generalize wh.length=kh at *;obtain⟨W0,dK,df,nP,dt⟩:=cR w #[I dN,AI whole,U pm km cm,U ps ks cs,U pg kg cg,U ph kh ch] 57;have dy:Hid (Below w.heap.size w W0):=df;have wB:Hid (W0.heap[w.heap.size]?=Z (AT #[I dN,AI whole,U pm km cm,U ps ks cs,U pg kg cg,U ph kh ch] 57 (0,0))):=dt;have BB:Hid (∀W,Sh (λk=>k=b) W0 W->Below w0.heap.size w0 W/\W.heap[w.heap.size]?=Z (AT #[I dN,AI whole,U pm km cm,U ps ks cs,U pg kg cg,U ph kh ch] 57 (0,0))/\Sh (λk=>L<=k) w W/\w.heap.size<W.heap.size):=λW hW=>
  ⟨HB.out.trans ((df.mono HB.out.size).trans (hW.below (by have:=HB.out.size;omega) (λk hk=>by omega))),(hW.block _ (by omega) (by omega)).trans dt,(Sh.of df).trans (hW.mono (λk hk=>by omega)),by have:=hW.size;omega⟩
 clear df dt;go_enter Tryz.func50,Tryz.ntmps50;go_wp2_with fail;rw[<- dK];refine(rL.out W0 (BB.out W0 (Sh.refl _ _)).1).mono ?_;rintro e w1 ⟨rfl,al⟩;have CB:Hid (Sh (λk=>k=b) W0 w1):=Sh.of al;have Kx:Hid (Wk L w1 b n):=(sA.out.below dy.out).below al;clear al dK;obtain⟨_,bb,P6,Ak⟩:=BB.out w1 CB.out;have q2:w1.cell? ⟨w.heap.size,2,Y⟩=Z (U pm km cm):=af bb 2;have abf:Hid (Sh (λk=>L<=k) w w1):=P6;clear bb P6;by_cases hpe:pe=0;rotate_left
 .have aip:(pe !=0)=true:=by simpa using hpe
  have HR:Hid (res=pe):=HE.out.trans (if_neg hpe);have wO:Hid (pe≠0):=hpe;clear hpe;go_wp2_with fail;go_ret;exact⟨aj HR.out.symm,abf.out,λh=>absurd (HR.out.symm.trans h) wO.out⟩
 have iN:Hid (res=(if nW n ms=0 then(if Sv.aA n.sv sv=0 then Gw.aA n.gw gw else Sv.aA n.sv sv) else nW n ms)):=HE.out.trans (if_pos hpe);obtain⟨hme,oA,WJ⟩:=HPM.out hpe;have Pm:Hid (∀m∈ms,m.e=0):=hme;have HWL:Hid (kh<=20):=WJ;subst hpe;clear HE HPM hme WJ rL;go_wp2_with fail;go_loopw [18] (λi wr=>∃k:Nat,k<=km/\i=O J k/\Hid (Sh (λk=>k=b) W0 wr)/\Hid (nW n (ms.take k)=0)/\Hid (Wk L wr b (lX n (ms.take k)))) (λi _=>km-(intOf i).toNat)
 case atStart=>exact⟨0,Nat.zero_le _,rfl,CB,rfl,Kx⟩
 case round=>
  clear q2 Ak;obtain⟨k,hk,rfl,HS,HZ,HW⟩:=hrel;obtain⟨GY,Mj,P7,aiq⟩:=BB.out wr HS.out;have HBr:Hid (Below w0.heap.size w0 wr):=GY;have air:Hid (Sh (λk=>L<=k) w wr):=P7;have HGr:Hid (wr.heap[w.heap.size]?=Z (AT #[I dN,AI whole,U pm km cm,U ps ks cs,U pg kg cg,U ph kh ch] 57 (0,0))):=Mj;clear GY P7 Mj;by_cases aL:k<km
  .obtain⟨b2,o2,hp,fG,hr⟩:∃b off,pm=Z ⟨b,off,Y⟩/\b<w0.heap.size/\Row w0 b off ms:=by
    rcases qD.out with h|h
    .have:=HKM.out;rw[h] at this;simp at this;omega
    .exact h
   subst hp;have sO:k<ms.length:=by rw[HKM.out];exact aL
   obtain⟨c0,c1,c2,c3,c4⟩:=(hr k sO).eq (λo=>HBr.out.cell (p:=⟨b2,o,Y⟩) fG);clear hr;have kO:ms.getD k dm=ms[k]:=by simp[List.getD,List.getElem?_eq_getElem sO]
   have hmz:=HMZ.out k;have M9:(ms.getD k dm).e=0:=by rw[kO];exact Pm.out _ (List.getElem_mem _)
   have Ks:ms.take (k+1)=ms.take k++[ms.getD k dm]:=by rw[kO];exact List.take_succ_eq_append_getElem sO
   obtain⟨gI,iZ⟩:=zp (ms.take k) n (ms.getD k dm);rw[<- Ks] at gI iZ;have yI:Hid (lX n (ms.take (k+1))=sZ (lX n (ms.take k)) (ms.getD k dm)):=gI;have DM:Hid (nW n (ms.take (k+1))=nE (lX n (ms.take k)) (ms.getD k dm)):=iZ HZ.out;have HBD:Hid (nE (lX n (ms.take k)) (ms.getD k dm)≠0->res=nE (lX n (ms.take k)) (ms.getD k dm)):=λbu=>by
    have e1:nW n (ms.take (k+1))≠0:=by rw[DM.out];exact bu
    have e2:=D0 (ms.take (k+1)) (ms.drop (k+1)) n e1;rw[List.take_append_drop,DM.out] at e2;exact iN.out.trans (by rw[e2,if_neg bu])
   have Ea:Hid (Sp (lX n (ms.take k))):=P2 (ms.take k) n abc.out (λm hm=>Pm.out m (List.mem_of_mem_take hm)) HZ.out;have Sx:Hid (∀W,Below wr.heap.size wr W->Calls be 95 #[If (Z ⟨b,0,Y⟩),Im #[I (ms.getD k dm).name,O J (ms.getD k dm).state,O J (ms.getD k dm).aX,O J (ms.getD k dm).addr,AI (ms.getD k dm).server]] W λe w'=>e=sh (O J (nE (lX n (ms.take k)) (ms.getD k dm)))/\Sh (λk=>k=b) W w'/\Hid (nE (lX n (ms.take k)) (ms.getD k dm)=0->Wk L w' b (lX n (ms.take (k+1))))):=λW hW=>by
    have h:=oF L b (lX n (ms.take k)) (ms.getD k dm) W (HW.out.below hW) hL Ea.out.ms Ea.out.rs Ea.out.name M9 hmz;rw[<- yI.out] at h;exact h
   clear Ks gI iZ kO M9;generalize nE (lX n (ms.take k)) (ms.getD k dm)=se at *;generalize ms.getD k dm=mk at *;obtain⟨mn,st,lf,ad,WZ⟩:=mk;simp only at c0 c1 c2 c3 c4 Sx;go_wp2_with fail;refine(Sx.out _ ((Ib _ _).alloc (By _) _)).mono ?_;rintro e w3 ⟨rfl,Np,nq⟩;have Vy:Hid (Sh (λk=>k=b) W0 w3):=(HS.out.alloc _).trans Np;have abh:Hid (Sh (λk=>L<=k) w w3):=(BB.out w3 Vy.out).2.2.1;clear Np c0 c1 c2 c3 c4;by_cases hse:se=0
   .have mr:Hid (nW n (ms.take (k+1))=0):=DM.out.trans hse
    have HW3:Hid (Wk L w3 b (lX n (ms.take (k+1)))):=nq.out hse;subst hse;clear nq HBD DM;go_wp2_with fail;go_roundw
    case rel=>exact⟨k+1,by omega,by go_num,Vy,mr,HW3⟩
    case measure=>simp[intOf];omega
   .have aaZ:(se !=0)=true:=by simpa using hse
    have HR:Hid (res=se):=HBD.out hse;have wO:Hid (se≠0):=hse;clear hse nq HBD DM;go_wp2_with fail;go_ret;exact⟨aj HR.out.symm,abh.out,λh=>absurd (HR.out.symm.trans h) wO.out⟩
  .have Az:km=k:=by omega
   subst Az;have Ks:ms.take km=ms:=List.take_of_length_le (by rw[HKM.out];exact By _);rw[Ks] at HZ HW;have CC:Hid (res=(if Sv.aA n.sv sv=0 then Gw.aA n.gw gw else Sv.aA n.sv sv)):=iN.out.trans (if_pos HZ.out);clear Ks iN;have PB:Hid (Rest n (lX n ms)):=Fu.out ms;generalize so:lX n ms=nd at *;clear so;obtain⟨Mk,ka,ca,ag_,kg2,cg2,vm2,vr2,vw2,h1,h2,h3⟩:=HW.out.zr;rw[PB.out.sv] at h2;rw[PB.out.gw] at h3;have y4:wr.cell? ⟨b,4,Y⟩=Z (U Mk ka ca):=af h1 4;have x3:wr.cell? ⟨w.heap.size,3,Y⟩=Z (U ps ks cs):=af HGr.out 3;have Dt:Hid (Calls be 96 #[U Mk ka ca,U ps ks cs] wr.drew λe w'=>∃a k c,e=sh (Il #[U a k c,O J (Sv.aA n.sv sv)])/\Below wr.heap.size wr w'/\(Sv.aA n.sv sv=0->Sv.Own wr.heap.size w' (U a k c) (Sv.ay n.sv sv))):=(HJS.out wr.drew _ HBr.out.drew h2).mono (by rintro e w' ⟨a,k,c,rfl,hb,ho⟩;exact⟨a,k,c,rfl,(Ib wr.heap.size wr).drew.trans hb,ho⟩);have sC:Hid (∀W,Below wr.heap.size wr W->W.heap[b]?=Z (AT (fD nd vm2 vr2 (U Mk ka ca) (U ag_ kg2 cg2) vw2) 81 (0,0))):=λW hW=>(hW.block _ HW.out.lt).trans h1;have lG:Hid (∀w1 a k c,Below wr.heap.size wr w1->(Sv.aA n.sv sv=0->Sv.Own wr.heap.size w1 (U a k c) (Sv.ay n.sv sv))->Sv.aA n.sv sv=0->Wk L (w1.setCell ⟨b,4,Y⟩ (U a k c)) b { nd with sv:=Sv.ay n.sv sv }):=λw1 a k c g1 g2 g0=>HW.out.DQ (by have:=HW.out.lt;omega) g1 (g2 g0) HJO.out;generalize Sv.aA n.sv sv=je at *;generalize Gw.aA n.gw gw=ge at *;clear h1 h2 h3 HJS;go_wp2_with fail;go_region_with (first|(go_at_call 96;refine Dt.out.mono ?_;rintro e w4 ⟨a,k1,c,rfl,fa,Xb⟩;have DW:Hid (Sh (λk=>k=b) W0 (w4.setCell ⟨b,4,Y⟩ (U a k1 c))):=(HS.out.next fa).setCell (S:=λk=>k=b) rfl _;have o7:Hid (je=0->Wk L (w4.setCell ⟨b,4,Y⟩ (U a k1 c)) b { nd with sv:=Sv.ay n.sv sv }):=lG.out w4 a k1 c fa Xb;have eu:=sC.out w4 fa;have z4:w4.cell? ⟨b,4,Y⟩=Z (U Mk ka ca):=af eu 4;have zf:w4.frozen? ⟨b,4,Y⟩=false:=dZ eu 4;clear fa Xb eu))
   all_goals
    obtain⟨W5,pL⟩:∃W5,W5=w4.setCell ⟨b,4,Y⟩ (U a k1 c):=⟨_,rfl⟩;rw[<- pL] at DW o7;rw[<- pL];clear pL z4 zf y4 x3 sC Dt lG;obtain⟨hB5,Df,BC,TS⟩:=BB.out W5 DW.out;have jE:Hid (Below w0.heap.size w0 W5):=hB5;have CA:Hid (W5.heap[w.heap.size]?=Z (AT #[I dN,AI whole,U pm km cm,U ps ks cs,U pg kg cg,U ph kh ch] 57 (0,0))):=Df;have abj:Hid (Sh (λk=>L<=k) w W5):=BC;clear hB5 Df BC;by_cases hje:je=0;rotate_left
    .have aiA:(je !=0)=true:=by simpa using hje
     have HR:Hid (res=je):=CC.out.trans (if_neg hje);have wO:Hid (je≠0):=hje;clear hje;go_wp2_with fail;go_ret;exact⟨aj HR.out.symm,abj.out,λh=>absurd (HR.out.symm.trans h) wO.out⟩
    .have Vz:Hid (Wk L W5 b { nd with sv:=Sv.ay n.sv sv }):=o7.out hje
     have HE4:Hid (res=ge):=CC.out.trans (if_pos hje);subst hje;clear o7 CC;obtain⟨as3,ka3,CZ,SP,SQ,SR,vm3,vr3,vw3,h1,_,h3⟩:=Vz.out.zr;have h3:Gw.Sl W5 (U SP SQ SR) n.gw:=by rw[<- PB.out.gw];exact h3
     have y5:W5.cell? ⟨b,5,Y⟩=Z (U SP SQ SR):=af h1 5;have x4:W5.cell? ⟨w.heap.size,4,Y⟩=Z (U pg kg cg):=af CA.out 4;have Dt:Hid (Calls be 97 #[U SP SQ SR,U pg kg cg] W5.drew λe w'=>∃a k c,e=sh (Il #[U a k c,O J ge])/\Below W5.heap.size W5 w'/\(ge=0->Gw.Own W5.heap.size w' (U a k c) (Gw.ay n.gw gw))):=(HJG.out W5.drew _ jE.out.drew h3).mono (by rintro e w' ⟨a,k,c,rfl,hb,ho⟩;exact⟨a,k,c,rfl,(Ib W5.heap.size W5).drew.trans hb,ho⟩);have sC:Hid (∀W,Below W5.heap.size W5 W->W.heap[b]?=Z (AT (fD { nd with sv:=Sv.ay n.sv sv } vm3 vr3 (U as3 ka3 CZ) (U SP SQ SR) vw3) 81 (0,0))):=λW hW=>(hW.block _ Vz.out.lt).trans h1;have lG:Hid (∀w1 a k c,Below W5.heap.size W5 w1->(ge=0->Gw.Own W5.heap.size w1 (U a k c) (Gw.ay n.gw gw))->ge=0->Wk L (w1.setCell ⟨b,5,Y⟩ (U a k c)) b { nd with sv:=Sv.ay n.sv sv,gw:=Gw.ay n.gw gw }):=λw1 a k c g1 g2 g0=>Vz.out.PR (by have:=Vz.out.lt;omega) g1 (g2 g0) HJP.out;clear h1 h3;go_wp2_with fail;go_region_with (first|(go_at_call 97;refine Dt.out.mono ?_;rintro e w6 ⟨a6,k6,c6,rfl,ix,Xc⟩;have mF:Hid (Sh (λk=>k=b) W0 (w6.setCell ⟨b,5,Y⟩ (U a6 k6 c6))):=(DW.out.next ix).setCell (S:=λk=>k=b) rfl _;have ny:Hid (ge=0->Wk L (w6.setCell ⟨b,5,Y⟩ (U a6 k6 c6)) b { nd with sv:=Sv.ay n.sv sv,gw:=Gw.ay n.gw gw }):=lG.out w6 a6 k6 c6 ix Xc;have eu:=sC.out w6 ix;have z5:w6.cell? ⟨b,5,Y⟩=Z (U SP SQ SR):=af eu 5;have zf:w6.frozen? ⟨b,5,Y⟩=false:=dZ eu 5;clear ix Xc eu))
     all_goals
      obtain⟨W7,CD⟩:∃W7,W7=w6.setCell ⟨b,5,Y⟩ (U a6 k6 c6):=⟨_,rfl⟩;rw[<- CD] at mF ny;rw[<- CD];clear CD z5 zf y5 x4 sC Dt lG;obtain⟨hB7,hg7,P8,aiG⟩:=BB.out W7 mF.out;have zS:Hid (Below w0.heap.size w0 W7):=hB7;have P9:Hid (Sh (λk=>L<=k) w W7):=P8;have x5:W7.cell? ⟨w.heap.size,5,Y⟩=Z (U ph kh ch):=af hg7 5;clear hB7 hg7 P8;by_cases j6:ge=0;rotate_left
      .have aaY:(ge !=0)=true:=by simpa using j6
       have wO:Hid (ge≠0):=j6;clear j6;go_wp2_with fail;go_ret;exact⟨aj HE4.out.symm,P9.out,λh=>absurd (HE4.out.symm.trans h) wO.out⟩
      .have HLC:=Sy.out W7 { nd with sv:=Sv.ay n.sv sv,gw:=Gw.ay n.gw gw } (ny.out j6) PB.out.wh zS.out HWL.out
       have yj:Hid (res=0):=HE4.out.trans j6;subst j6;clear ny;go_wp2_with fail;refine HLC.mono ?_;rintro e w8 ⟨rfl,SS,VA⟩;have HS8:Hid (Sh (λk=>L<=k) w w8):=P9.out.trans SS;have Fh:Hid (Wk L w8 b (s9 n ⟨dN,whole,ms,sv,gw,wh⟩)):=by rw[sq.out];exact VA
       clear SS VA;go_wp2_with fail;go_ret;exact⟨aj yj.out.symm,HS8.out,λ_=>Fh.out⟩
theorem Wh.K4{wh:List Wh.bC}(h:Wh.ba wh=0)(hk:∀m∈wh,m.ok):Wh.uJ wh:=⟨(Wh.aF h).2.1,(Wh.aF h).1,hk⟩
theorem Eu(L b tb:Nat)(n:Nd)(dN:ByteArray)(whole:Bool)(iR:List Mem)(iz:List Sv.aI)(iA:List Gw.cD)(iB:List Wh.bC)(am aS aG aH:Option Addr)(bm bS bG bH:Nat)(w0 w:World)(h:Wk L w b n)(hL:L<=b)(he:n.e=0)(kM:oE n)(hx:pJ w0 ⟨dN,whole,iR,iz,iA,iB⟩ (U am iR.length bm) (U aS iz.length bS) (U aG iA.length bG) (U aH iB.length bH))(hB:Below w0.heap.size w0 w)(hBL:w0.heap.size<=L)(hlen:whole=true\/iz.length+iA.length+iB.length<=4611686018427387904)(cS:n.sv=[])(iX:n.gw=[])(lN:iz=[])(iQ:iA=[])(gG:iB=[])(hc:w.heap[tb]?=Z (AT #[I dN,AI whole,U am iR.length bm,U aS iz.length bS,U aG iA.length bG,U aH iB.length bH] 57 (0,0))) :
 Calls be 49 #[If (Z ⟨b,0,Y⟩),If (Z ⟨tb,0,Y⟩)] w λe w'=>e=sh (O J (oG n ⟨dN,whole,iR,iz,iA,iB⟩))/\Sh (λk=>L<=k) w w'/\Hid (oG n ⟨dN,whole,iR,iz,iA,iB⟩=0->Wk L w' b (s9 n ⟨dN,whole,iR,iz,iA,iB⟩)):=by
 have hp:=Nd.parts (Nd.gx he).1;have HC:Hid (Calls be 50 #[If (Z ⟨b,0,Y⟩),Im #[I dN,AI whole,U am iR.length bm,U aS iz.length bS,U aG iA.length bG,U aH iB.length bH]] w λe w'=>e=sh (O J (oG n ⟨dN,whole,iR,iz,iA,iB⟩))/\Sh (λk=>L<=k) w w'/\Hid (oG n ⟨dN,whole,iR,iz,iA,iB⟩=0->Wk L w' b (s9 n ⟨dN,whole,iR,iz,iA,iB⟩))):=
  Et L b n ⟨dN,whole,iR,iz,iA,iB⟩ _ _ _ _ w0 w h hL (Nd.sp he) hp.sv hp.gw (Wh.K4 hp.wh kM.wh) hx hB hBL hlen cS iX lN iQ gG
 obtain⟨y0,y1,y2,y3,y4,y5⟩:=gV hc;clear h hp hc hx cS iX lN iQ gG;generalize oG n ⟨dN,whole,iR,iz,iA,iB⟩=we at *;generalize s9 n ⟨dN,whole,iR,iz,iA,iB⟩=nn at *;generalize iR.length=k1 at *;generalize iz.length=k2 at *;generalize iA.length=k3 at *;generalize iB.length=k4 at *;go_enter Tryz.func49,Tryz.ntmps49;go_wp2_with fail;refine HC.out.mono ?_;rintro e w1 ⟨rfl,hs,hk⟩;have HS:Hid (Sh (λk=>L<=k) w w1):=hs;clear hs;go_wp2_with fail;go_ret;exact⟨rfl,HS.out,hk⟩
theorem K5(n:Nd)(p:Pk)(zm zs zg zw:Value)(vm vr vs vg vw:Value)(w:World)(h:jL w n vm vr vs vg vw)(hx:pJ w p zm zs zg zw)(hlen:p.whole=true\/p.sv.length+p.gw.length+p.wh.length<=4611686018427387904)(cS:n.sv=[])(iX:n.gw=[])(lN:p.sv=[])(iQ:p.gw=[])(gG:p.wh=[]) :
 Calls be 18 #[Im (fD n vm vr vs vg vw),Im #[I p.dN,AI p.whole,zm,zs,zg,zw]] w λe w'=>eT n.e (oG n p) (s9 n p) w e w':=by
 have ze:Hid (jL w n vm vr vs vg vw):=h;have HX:Hid (pJ w p zm zs zg zw):=hx;obtain⟨dN,whole,iR,iz,iA,iB⟩:=p;obtain⟨⟨am,bm,rfl,_,_⟩,⟨aS,bS,rfl,_,_⟩,⟨aG,bG,rfl,_,_⟩,⟨aH,bH,rfl,_,_⟩,_,_⟩:=hx;simp only at hlen HX ⊢;obtain⟨W0,dK⟩:∃W0,W0=w.heap.size:=⟨_,rfl⟩;clear dK W0;have xO:Hid (∀W0,Below w.heap.size w W0->W0.heap.size=w.heap.size+3->W0.heap[w.heap.size+1]?=Z (AT #[I dN,AI whole,U am iR.length bm,U aS iz.length bS,U aG iA.length bG,U aH iB.length bH] 57 (0,0))->Calls be 45 #[Im (fD n vm vr vs vg vw),IZ (.func 49) #[] #[If (Z ⟨w.heap.size+1,0,Y⟩)]] W0 λe w'=>jD n.e (oG n ⟨dN,whole,iR,iz,iA,iB⟩) (s9 n ⟨dN,whole,iR,iz,iA,iB⟩) (λ_=>False) (λ_=>True) W0 e w'):=λW0 hb hs hc1=>
  pN 49 #[If (Z ⟨w.heap.size+1,0,Y⟩)] (enters_of Tryz.func49 (by kernel_rfl) rfl) n vm vr vs vg vw W0 (h.below hb) (λ_=>False) (oG n ⟨dN,whole,iR,iz,iA,iB⟩) (s9 n ⟨dN,whole,iR,iz,iA,iB⟩) (λ_=>True)
   (λhe W b hW aC hk=>by
    refine(Eu (W0.heap.size+2) b (w.heap.size+1) n dN whole iR iz iA iB am aS aG aH bm bS bG bH W0 W hk (by omega) he h.ok (HX.out.below hb) hW (by omega) hlen cS iX lN iQ gG ((hW.block _ (by omega)).trans hc1)).mono ?_;rintro e w' ⟨rfl,hs,hh⟩;exact⟨rfl,hs.mono (λk hk=>.inl hk),λh=>⟨hh.out h,trivial⟩⟩
   ) (λ_ _ _ _=>trivial) (λ_ hk=>hk.elim)
 obtain⟨nm,ct,ms,rs,sv,gw,⟨px,py,pz,ph,pq⟩,wh⟩:=n;obtain⟨⟨em,cm,rfl,_,_⟩,⟨wR,cr,rfl,_,_⟩,⟨es,wS,rfl,_,_⟩,⟨wT,cg,rfl,_,_⟩,⟨eh,ch,rfl,_,_⟩,_,_⟩:=h;simp only[fD] at xO ⊢;generalize ms.length=km at *;generalize rs.length=kr at *;generalize sv.length=ks at *;generalize gw.length=kg at *;generalize wh.length=kh at *;generalize iR.length=k1 at *;generalize iz.length=k2 at *;generalize iA.length=k3 at *;generalize iB.length=k4 at *;generalize Nd.e ⟨nm,ct,ms,rs,sv,gw,⟨px,py,pz,ph,pq⟩,wh⟩=ne at *;generalize oG ⟨nm,ct,ms,rs,sv,gw,⟨px,py,pz,ph,pq⟩,wh⟩ ⟨dN,whole,iR,iz,iA,iB⟩=er at *;generalize s9 ⟨nm,ct,ms,rs,sv,gw,⟨px,py,pz,ph,pq⟩,wh⟩ ⟨dN,whole,iR,iz,iA,iB⟩=n' at *;obtain⟨W0,dK⟩:∃W0,W0=(((w.alloc (AT #[I nm,I ct,U em km cm,U wR kr cr,U es ks wS,U wT kg cg,O J px,O J py,O J pz,O J ph,O J pq,U eh kh ch] 30)).alloc (AT #[I dN,AI whole,U am k1 bm,U aS k2 bS,U aG k3 bG,U aH k4 bH] 57)).alloc (AT #[I ⟨#[]⟩,I ⟨#[]⟩,U Y 0 0,U Y 0 0,U Y 0 0,U Y 0 0,O J 0,O J 0,O J 0,O J 0,O J 0,U Y 0 0] 30)):=⟨_,rfl⟩;have df:Below w.heap.size w W0:=by rw[dK];exact(((Ib _ _).alloc (By _) _).alloc (by simp<;>omega) _).alloc (by simp<;>omega) _
 have nP:W0.heap.size=w.heap.size+3:=by rw[dK];simp
 have hc1:W0.heap[w.heap.size+1]?=Z (AT #[I dN,AI whole,U am k1 bm,U aS k2 bS,U aG k3 bG,U aH k4 bH] 57 (0,0)):=by
  have h:=Ie (w.alloc (AT #[I nm,I ct,U em km cm,U wR kr cr,U es ks wS,U wT kg cg,O J px,O J py,O J pz,O J ph,O J pq,U eh kh ch] 30)) (AT #[I dN,AI whole,U am k1 bm,U aS k2 bS,U aG k3 bG,U aH k4 bH] 57);rw[dK,Below.heap_alloc _ _ _ (by simp<;>omega)];simpa using h
 have bW:W0.heap[w.heap.size+2]?=Z (AT #[I ⟨#[]⟩,I ⟨#[]⟩,U Y 0 0,U Y 0 0,U Y 0 0,U Y 0 0,O J 0,O J 0,O J 0,O J 0,O J 0,U Y 0 0] 30 (0,0)):=by
  have h:=Ie ((w.alloc (AT #[I nm,I ct,U em km cm,U wR kr cr,U es ks wS,U wT kg cg,O J px,O J py,O J pz,O J ph,O J pq,U eh kh ch] 30)).alloc (AT #[I dN,AI whole,U am k1 bm,U aS k2 bS,U aG k3 bG,U aH k4 bH] 57)) (AT #[I ⟨#[]⟩,I ⟨#[]⟩,U Y 0 0,U Y 0 0,U Y 0 0,U Y 0 0,O J 0,O J 0,O J 0,O J 0,O J 0,U Y 0 0] 30);rw[dK];simpa using h
 have FH:=xO.out W0 df nP hc1;have dy:Hid (Below w.heap.size w W0):=df;have xJ:Hid (W0.heap[w.heap.size+2]?=Z (AT #[I ⟨#[]⟩,I ⟨#[]⟩,U Y 0 0,U Y 0 0,U Y 0 0,U Y 0 0,O J 0,O J 0,O J 0,O J 0,O J 0,U Y 0 0] 30 (0,0))):=bW;clear df bW xO hc1;go_enter Tryz.func18,Tryz.ntmps18;go_wp2_with fail;rw[<- dK];refine FH.mono ?_;rintro e w1 ⟨tm,zL⟩;have al:Below W0.heap.size W0 w1:=tm.below (By _) (λ_ hk=>hk.elim);have cS:w1.heap[w.heap.size+2]?=_:=(al.block _ (by omega)).trans xJ.out;have aR:Hid (Below w.heap.size w w1):=dy.out.trans (al.mono (by omega));have gI:w.heap.size+2<w1.heap.size:=(Array.getElem?_eq_some_iff.1 cS).1;obtain⟨q0,q1,q2,q3,q4,q5,q6,q7,q8,q9,q10,q11⟩:=bM cS;obtain⟨FB,Eb,FC,FD,FE,FF,VB,VC,VD,VE,zt,zu⟩:=mK cS;clear tm al cS FH dK;rcases zL with⟨bu,rfl⟩|⟨bu,BF,rfl⟩|⟨bu,BF,um,ur,us,ug,uw,rfl,hown,kM,_⟩
 .have Mg:Hid (ne≠0):=bu
  clear bu;go_wp2_with fail;refine Ix (v:=Il #[Im #[I ⟨#[]⟩,I ⟨#[]⟩,U Y 0 0,U Y 0 0,U Y 0 0,U Y 0 0,O J 0,O J 0,O J 0,O J 0,O J 0,U Y 0 0],O J ne]) ?_ rfl ?_
  .simp[results,Tryz.results18,go_sem,q0,q1,q2,q3,q4,q5,q6,q7,q8,q9,q10,q11]
  .unfold eT
   exact⟨gj aR.out (by omega) _ _ _ _ _ _ _ _ _ _ _ _,.inl ⟨Mg.out,rfl⟩⟩
 .have Mg:Hid (ne=0/\er≠0):=⟨bu,BF⟩
  clear bu BF;go_wp2_with fail;refine Ix (v:=Il #[Im #[I ⟨#[]⟩,I ⟨#[]⟩,U Y 0 0,U Y 0 0,U Y 0 0,U Y 0 0,O J 0,O J 0,O J 0,O J 0,O J 0,U Y 0 0],O J er]) ?_ rfl ?_
  .simp[results,Tryz.results18,go_sem,q0,q1,q2,q3,q4,q5,q6,q7,q8,q9,q10,q11]
  .unfold eT
   exact⟨gj aR.out (by omega) _ _ _ _ _ _ _ _ _ _ _ _,.inr (.inl ⟨Mg.out.1,Mg.out.2,rfl⟩)⟩
 .have Mg:Hid (ne=0/\er=0):=⟨bu,BF⟩
  have uM:Hid (gK W0.heap.size w1 n' um ur us ug uw):=hown;have AW:Hid (oE n'):=kM;obtain⟨im2,jm2,sG,_⟩:=az hown.ms;obtain⟨ir2,jr2,zh,_⟩:=az hown.rs;obtain⟨is2,js2,BE,_⟩:=az hown.sv;obtain⟨ig2,jg2,Ec,_⟩:=az hown.gw;obtain⟨ih2,jh2,Ed,_⟩:=az hown.wh;subst sG zh BE Ec Ed;clear hown kM bu BF;obtain⟨n2,c2,ms2,rs2,WZ,gw2,⟨qx,qy,qz,qh,qq⟩,wh2⟩:=n';go_wp2_with fail;refine Ix (v:=Il #[Im #[I n2,I c2,U im2 ms2.length jm2,U ir2 rs2.length jr2,U is2 WZ.length js2,U ig2 gw2.length jg2,O J qx,O J qy,O J qz,O J qh,O J qq,U ih2 wh2.length jh2],O J 0]) ?_ rfl ?_
  .simp[results,Tryz.results18,go_sem,q0,q1,q2,q3,q4,q5,q6,q7,q8,q9,q10,q11]
  .unfold eT
   refine⟨gj aR.out (by omega) _ _ _ _ _ _ _ _ _ _ _ _,.inr (.inr ⟨Mg.out.1,Mg.out.2,_,_,_,_,_,rfl,⟨?_,?_,?_,?_,?_⟩,AW.out⟩)⟩
   .exact Own.mono (bN (uM.out.ms) (by omega) _ _ _ _ _ _ _ _ _ _ _ _) (by omega)
   .exact cd.base (bN (uM.out.rs) (by omega) _ _ _ _ _ _ _ _ _ _ _ _) (by omega)
   .exact Sv.Own.mono (bN (uM.out.sv) (by omega) _ _ _ _ _ _ _ _ _ _ _ _) (by omega)
   .exact Gw.Own.mono (bN (uM.out.gw) (by omega) _ _ _ _ _ _ _ _ _ _ _ _) (by omega)
   .exact Wh.Own.mono (bN (uM.out.wh) (by omega) _ _ _ _ _ _ _ _ _ _ _ _) (by omega)
end Go.Proofs.YtfidjlcdlakceaaGreatDoor
