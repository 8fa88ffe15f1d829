import Derived.Test.YtipbebleapjcjaaGreatDoornc16
set_option maxHeartbeats 51200000
set_option maxRecDepth 100000
open Go renaming heap_alloc_new->Ii
open Go.Ending renaming returned->Ia
open Go.IntKind renaming i64->J
open Go.Proofs.Tryz renaming prog->AT
open Go.Value renaming bool->Ic,func->JD,int->O,pointer->Ik,slice->sh,string->I,tuple->Ir
open Nat renaming le_refl->By,lt_or_ge->Q7
open Option renaming none->U,some->AI
open Go.Proofs.Tryz
namespace Go.Proofs.YtipbebleapjcjaaGreatDoor
namespace Sv
open Go.RowKit
theorem A7(pa pv:Option Addr)(ca cb pb cap:Nat)(w:World)(Aj:w.cell? ⟨pb,0,U⟩=AI (sh pa 0 ca))(zq:w.cell? ⟨pb,1,U⟩=AI (sh pv 0 cb)) :
 Calls AT 198 #[JD (.func 112) #[] #[],JD (.func 199) #[] #[],sh (AI ⟨pb,0,U⟩) 2 cap] w λe w'=>e=Ia (sh U 0 0)/\w'=w:=by
 go_enter func198,ntmps198;go_wp2_with fail;go_loopw [7,16] (λkn i w'=>∃k:Nat,k<=2/\i=O J k/\kn=sh U 0 0/\w'=w) (λ_ i _=>2-(intOf i).toNat)
 case atStart=>exact⟨0,by omega,rfl,rfl,rfl⟩
 case round=>
  obtain⟨k,hk,rfl,rfl,rfl⟩:=hrel;by_cases mS:k<2
  .have hc:∃(p:Option Addr) (c:Nat),wr.cell? ⟨pb,k,U⟩=AI (sh p 0 c):=by
    rcases Q7 k 1 with h|h
    .have:k=0:=by omega
     subst this;exact⟨_,_,Aj⟩
    .have:k=1:=by omega
     subst this;exact⟨_,_,zq⟩
   obtain⟨p,c,hc⟩:=hc;have DT:(k:Int)<2:=by omega
   clear Aj zq;go_wp2_with fail;go_loopw [7,22] (λkn j w'=>kn=sh U 0 0/\j=O J 0/\w'=wr) (λ_ _ _=>0)
   case atStart=>exact⟨rfl,rfl,rfl⟩
   case round=>
    obtain⟨rfl,rfl,rfl⟩:=hrel;go_wp2_with fail;first
    |exact⟨⟨k+1,by omega,by go_num,by simp,by simp⟩,by simp[intOf];omega⟩
    |(go_roundw
      case rel=>exact⟨k+1,by omega,by go_num,by simp,by simp⟩
      case measure=>simp[intOf];omega)
  .have hd:decide ((k:Int)<2)=false:=by simp;omega
   go_wp2_with fail;go_ret;exact⟨rfl,rfl⟩
theorem join_none(pa pv:Option Addr)(ca cb:Nat)(w:World) :
 Calls AT 96 #[sh pa 0 ca,sh pv 0 cb] w λe w'=>e=Ia (Ir #[sh U 0 0,O J 0])/\Below w.heap.size w w':=by
 have HJ:Hid (∀(W:World) (pb cap:Nat),pb<W.heap.size->W.cell? ⟨pb,0,U⟩=AI (sh pa 0 ca)->W.cell? ⟨pb,1,U⟩=AI (sh pv 0 cb)->Calls AT 153 #[sh (AI ⟨pb,0,U⟩) 2 cap] W λe w'=>e=Ia (Ir #[sh U 0 0,O J 0])/\Below W.heap.size W w'):=λW pb cap K5 h0 h1=>by
  have hn:∀(p:Option Addr) (c:Nat),Sl W (sh p 0 c) []:=λp c=>⟨p,c,rfl,oz (by simp),.inl rfl⟩;have HC:Hid (Calls AT 197 #[sh (AI ⟨pb,0,U⟩) 2 cap] W λe w'=>e=Ia (O J 0)/\Below W.heap.size W w'):=qY [] [] _ _ pb cap W (hn pa ca) (hn pv cb) K5 h0 h1;have HR:Hid (∀w1,Below W.heap.size W w1->Calls AT 198 #[JD (.func 112) #[] #[],JD (.func 199) #[] #[],sh (AI ⟨pb,0,U⟩) 2 cap] w1 λe w'=>e=Ia (sh U 0 0)/\w'=w1):=λw1 mO=>A7 pa pv ca cb pb cap w1 ((pd mO).1 pb 0 K5 |>.trans h0) ((pd mO).1 pb 1 K5 |>.trans h1);clear hn;go_enter func153,ntmps153;go_wp2_with fail;refine HC.out.mono ?_;rintro e w1 ⟨rfl,mO⟩;have mY:Hid (Below W.heap.size W w1):=mO;have sr:=HR.out w1 mO;clear mO HR HC;go_wp2_with fail;refine sr.mono ?_;rintro e w2 ⟨rfl,xN⟩;have Rq:=xN.symm;subst Rq;go_wp2_with fail;go_ret2;exact⟨rfl,mY.out⟩
 go_enter func96,ntmps96;go_wp2_with fail;refine(HJ.out _ w.heap.size 2 (by simp) (fi (Ii w _) 0) (fi (Ii w _) 1)).mono ?_;rintro e w2 ⟨rfl,hb⟩;have HB:Hid (Below w.heap.size w w2):=((Below.refl _ _).alloc (By _) _).trans (hb.mono (by simp));clear hb;go_wp2_with fail;go_ret2;exact⟨rfl,HB.out⟩
end Sv
namespace Gw
open Go.RowKit
theorem A7(pa pv:Option Addr)(ca cb pb cap:Nat)(w:World)(Aj:w.cell? ⟨pb,0,U⟩=AI (sh pa 0 ca))(zq:w.cell? ⟨pb,1,U⟩=AI (sh pv 0 cb)) :
 Calls AT 201 #[JD (.func 115) #[] #[],JD (.func 202) #[] #[],sh (AI ⟨pb,0,U⟩) 2 cap] w λe w'=>e=Ia (sh U 0 0)/\w'=w:=by
 go_enter func201,ntmps201;go_wp2_with fail;go_loopw [7,16] (λkn i w'=>∃k:Nat,k<=2/\i=O J k/\kn=sh U 0 0/\w'=w) (λ_ i _=>2-(intOf i).toNat)
 case atStart=>exact⟨0,by omega,rfl,rfl,rfl⟩
 case round=>
  obtain⟨k,hk,rfl,rfl,rfl⟩:=hrel;by_cases mS:k<2
  .have hc:∃(p:Option Addr) (c:Nat),wr.cell? ⟨pb,k,U⟩=AI (sh p 0 c):=by
    rcases Q7 k 1 with h|h
    .have:k=0:=by omega
     subst this;exact⟨_,_,Aj⟩
    .have:k=1:=by omega
     subst this;exact⟨_,_,zq⟩
   obtain⟨p,c,hc⟩:=hc;have DT:(k:Int)<2:=by omega
   clear Aj zq;go_wp2_with fail;go_loopw [7,22] (λkn j w'=>kn=sh U 0 0/\j=O J 0/\w'=wr) (λ_ _ _=>0)
   case atStart=>exact⟨rfl,rfl,rfl⟩
   case round=>
    obtain⟨rfl,rfl,rfl⟩:=hrel;go_wp2_with fail;first
    |exact⟨⟨k+1,by omega,by go_num,by simp,by simp⟩,by simp[intOf];omega⟩
    |(go_roundw
      case rel=>exact⟨k+1,by omega,by go_num,by simp,by simp⟩
      case measure=>simp[intOf];omega)
  .have hd:decide ((k:Int)<2)=false:=by simp;omega
   go_wp2_with fail;go_ret;exact⟨rfl,rfl⟩
theorem join_none(pa pv:Option Addr)(ca cb:Nat)(w:World) :
 Calls AT 97 #[sh pa 0 ca,sh pv 0 cb] w λe w'=>e=Ia (Ir #[sh U 0 0,O J 0])/\Below w.heap.size w w':=by
 have HJ:Hid (∀(W:World) (pb cap:Nat),pb<W.heap.size->W.cell? ⟨pb,0,U⟩=AI (sh pa 0 ca)->W.cell? ⟨pb,1,U⟩=AI (sh pv 0 cb)->Calls AT 154 #[sh (AI ⟨pb,0,U⟩) 2 cap] W λe w'=>e=Ia (Ir #[sh U 0 0,O J 0])/\Below W.heap.size W w'):=λW pb cap K5 h0 h1=>by
  have hn:∀(p:Option Addr) (c:Nat),Sl W (sh p 0 c) []:=λp c=>⟨p,c,rfl,oz (by simp),.inl rfl⟩;have HC:Hid (Calls AT 200 #[sh (AI ⟨pb,0,U⟩) 2 cap] W λe w'=>e=Ia (O J 0)/\Below W.heap.size W w'):=qY [] [] _ _ pb cap W (hn pa ca) (hn pv cb) K5 h0 h1;have HR:Hid (∀w1,Below W.heap.size W w1->Calls AT 201 #[JD (.func 115) #[] #[],JD (.func 202) #[] #[],sh (AI ⟨pb,0,U⟩) 2 cap] w1 λe w'=>e=Ia (sh U 0 0)/\w'=w1):=λw1 mO=>A7 pa pv ca cb pb cap w1 ((pd mO).1 pb 0 K5 |>.trans h0) ((pd mO).1 pb 1 K5 |>.trans h1);clear hn;go_enter func154,ntmps154;go_wp2_with fail;refine HC.out.mono ?_;rintro e w1 ⟨rfl,mO⟩;have mY:Hid (Below W.heap.size W w1):=mO;have sr:=HR.out w1 mO;clear mO HR HC;go_wp2_with fail;refine sr.mono ?_;rintro e w2 ⟨rfl,xN⟩;have Rq:=xN.symm;subst Rq;go_wp2_with fail;go_ret2;exact⟨rfl,mY.out⟩
 go_enter func97,ntmps97;go_wp2_with fail;refine(HJ.out _ w.heap.size 2 (by simp) (fi (Ii w _) 0) (fi (Ii w _) 1)).mono ?_;rintro e w2 ⟨rfl,hb⟩;have HB:Hid (Below w.heap.size w w2):=((Below.refl _ _).alloc (By _) _).trans (hb.mono (by simp));clear hb;go_wp2_with fail;go_ret2;exact⟨rfl,HB.out⟩
end Gw
end Go.Proofs.YtipbebleapjcjaaGreatDoor
namespace Go.Proofs.YtipbebleapjcjaaGreatDoor
open Go.RowKit
theorem TA(b ch:Nat)(ph:Option Addr)(w:World) :
 Calls AT 98 #[Ik (AI ⟨b,0,U⟩),sh ph 0 ch] w λe w'=>e=Ia (Ir #[])/\w'=w:=by
 go_enter func98,ntmps98;go_wp2_with fail;go_loopw [10] (λi w'=>i=O J 0/\w'=w) (λ_ _=>0)
 case atStart=>exact⟨rfl,rfl⟩
 case round=>
  obtain⟨rfl,rfl⟩:=hrel;go_wp2_with fail;simp[bodyPost,results,results98,go_sem]
theorem TB(L b:Nat)(n:Nd)(p:Pk)(vm vs vg vw:Value)(w0 w:World)(h:Wk L w b n)(hL:L<=b)(Wr:Sp n)(_:Sv.nu n.sv=0)(Bo:Gw.nu n.gw=0)(_:Wh.apf n.wh)(hx:GQ w0 p vm vs vg vw)(hB:Below w0.heap.size w0 w)(hBL:w0.heap.size<=L)(hlen:p.whole=true\/p.sv.length+p.gw.length+p.wh.length<=4611686018427387904)(pC:n.sv=[])(xC:n.gw=[])(zV:p.sv=[])(uZ:p.gw=[])(uJ:p.wh=[]) :
 Calls AT 55 #[Ik (AI ⟨b,0,U⟩),.agg #[I p.tG,Ic p.whole,vm,vs,vg,vw]] w λe w'=>e=Ia (O J (Ty n p))/\Sh (λk=>L<=k) w w'/\Hid (Ty n p=0->Wk L w' b (hrN n p)):=by
 have NV:Hid (Wk L w b n):=h;have nE:=h.lt;have HB:Hid _:=hB;have avo:Hid _:=Wr;have HE:Hid (Ty n p=if p.e=0 then(if GG n p.ms=0 then(if Sv.nP n.sv p.sv=0 then Gw.nP n.gw p.gw else Sv.nP n.sv p.sv) else GG n p.ms) else p.e):=rfl;have vj:Hid (hrN n p={ Mv n p.ms with sv:=Sv.nO n.sv p.sv,gw:=Gw.nO n.gw p.gw,wh:=lrn n.wh p.wh }):=rfl;have yt:Hid (∀W,Below w0.heap.size w0 W->Calls _ _ _ _ _):=λW hW=>Fu p vm vs vg vw W (hx.below hW) hlen;have HPM:Hid (p.e=0->(∀m∈p.ms,m.e=0)/\p.ms.length<=20/\p.wh.length<=20):=λh=>⟨(adZ h).1,(adZ h).2.1,(Wh.mU (adZ h).2.2.1).1⟩;have NQ:Hid (∀l,Rest n (Mv n l)):=λl=>Wp l n;have HGW:Hid _:=Bo;obtain⟨tG,whole,ms,sv,gw,wh⟩:=p;obtain⟨vP,apj,apk,apl,hfr,uv⟩:=hx;simp only at vP apj apk apl hlen HE vj yt HPM zV uZ uJ;obtain⟨pm,cm,rfl,adM,adN⟩:=vP;obtain⟨ps,cs,rfl,_,_⟩:=apj;obtain⟨pg,cg,rfl,_,_⟩:=apk;obtain⟨ph,ch,rfl,_,_⟩:=apl;have Ed:Hid _:=adN;have HMZ:Hid _:=adM;clear adM adN h hB Wr Bo hlen uv hfr;have HJS:Hid (∀W va,Below w0.heap.size w0 W->Sv.Sl W va n.sv->Calls AT 96 #[va,sh ps sv.length cs] W λe w'=>∃a k c,e=Ia (Ir #[sh a k c,O J (Sv.nP n.sv sv)])/\Below W.heap.size W w'/\(Sv.nP n.sv sv=0->Sv.Own W.heap.size w' (sh a k c) (Sv.nO n.sv sv))):=λW va hW hva=>by
  have e1:Sv.nP n.sv sv=0:=by rw[pC,zV];kernel_rfl
  have e2:Sv.nO n.sv sv=[]:=by rw[pC,zV];rfl
  rw[e1,e2];rw[pC] at hva;obtain⟨a0,c0,rfl,_,_⟩:=hva;refine(show Calls _ _ _ _ _ from by rw[zV];exact Sv.join_none a0 ps c0 cs W).mono ?_;rintro e w' ⟨rfl,hb⟩;exact⟨U,0,0,rfl,hb,λ_=>Sv.nh _ _⟩
 have HJG:Hid (∀W va,Below w0.heap.size w0 W->Gw.Sl W va n.gw->Calls AT 97 #[va,sh pg gw.length cg] W λe w'=>∃a k c,e=Ia (Ir #[sh a k c,O J (Gw.nP n.gw gw)])/\Below W.heap.size W w'/\(Gw.nP n.gw gw=0->Gw.Own W.heap.size w' (sh a k c) (Gw.nO n.gw gw))):=λW va hW hva=>by
  have e1:Gw.nP n.gw gw=0:=by rw[xC,uZ];kernel_rfl
  have e2:Gw.nO n.gw gw=[]:=by rw[xC,uZ];rfl
  rw[e1,e2];rw[xC] at hva;obtain⟨a0,c0,rfl,_,_⟩:=hva;refine(show Calls _ _ _ _ _ from by rw[uZ];exact Gw.join_none a0 pg c0 cg W).mono ?_;rintro e w' ⟨rfl,hb⟩;exact⟨U,0,0,rfl,hb,λ_=>Gw.nh _ _⟩
 have HJO:Hid (∀m∈Sv.nO n.sv sv,m.ok):=λm hm=>by rw[pC,zV] at hm;cases hm
 have HJP:Hid (∀m∈Gw.nO n.gw gw,m.ok):=λm hm=>by rw[xC,uZ] at hm;cases hm
 have HLN:Hid (∀W nd,Wk L W b nd->nd.wh=n.wh->Below w0.heap.size w0 W->wh.length<=20->Calls AT 98 #[Ik (AI ⟨b,0,U⟩),sh ph wh.length ch] W λe w'=>e=Ia (Ir #[])/\Sh (λk=>L<=k) W w'/\Wk L w' b { nd with wh:=lrn n.wh wh }):=λW nd hW hn hB hl=>by
  have e1:lrn n.wh wh=nd.wh:=by rw[uJ,hn];rfl
  refine(show Calls _ _ _ _ _ from by rw[uJ];exact TA b ch ph W).mono ?_;rintro e w' ⟨rfl,hw⟩;have xN:=hw.symm;subst xN;exact⟨rfl,Sh.refl _ _,by rw[e1];exact hW⟩
 clear pC xC zV uZ uJ;generalize Pk.e ⟨tG,whole,ms,sv,gw,wh⟩=pe at *;generalize Ty n ⟨tG,whole,ms,sv,gw,wh⟩=res at *;generalize K8:ms.length=km at *;have HKM:Hid _:=K8;clear K8;generalize sv.length=ks at *;generalize gw.length=kg at *;generalize wh.length=kh at *;obtain⟨W0,rm,rG,Ct,pS⟩:=pL w #[I tG,Ic whole,sh pm km cm,sh ps ks cs,sh pg kg cg,sh ph kh ch] 76;have pN:Hid _:=rG;have HBB:Hid (∀W,Sh (λk=>k=b) W0 W->Below w0.heap.size w0 W/\W.heap[w.heap.size]?=AI (.cells #[I tG,Ic whole,sh pm km cm,sh ps ks cs,sh pg kg cg,sh ph kh ch] 76 (0,0))/\Sh (λk=>L<=k) w W/\w.heap.size<W.heap.size):=λW hW=>
  ⟨HB.out.trans ((rG.mono HB.out.size).trans (hW.below (by have:=HB.out.size;omega) (λk hk=>by omega))),(hW.block _ (by omega) (by omega)).trans pS,(Sh.of rG).trans (hW.mono (λk hk=>by omega)),by have:=hW.size;omega⟩
 clear rG pS;go_enter func55,ntmps55;go_wp2_with fail;rw[<- rm];refine(yt.out W0 (HBB.out W0 (Sh.refl _ _)).1).mono ?_;rintro e w1 ⟨rfl,mO⟩;have VR:Hid (Sh (λk=>k=b) W0 w1):=Sh.of mO;have ahy:Hid (Wk L w1 b n):=(NV.out.below pN.out).below mO;clear mO rm;obtain⟨_,ou,apm,XE⟩:=HBB.out w1 VR.out;have q2:=fi ou 2;have avr:Hid _:=apm;clear ou apm;by_cases Ew:pe=0;rotate_left
 .have aC1:(pe !=0)=true:=by simpa using Ew
  have HR:Hid _:=HE.out.trans (if_neg Ew);have HPN:Hid _:=Ew;clear Ew;go_wp2_with fail;go_ret;exact⟨mN HR.out.symm,avr.out,λh=>absurd (HR.out.symm.trans h) HPN.out⟩
 have wm:Hid _:=HE.out.trans (if_pos Ew);obtain⟨hme,zK,hwl⟩:=HPM.out Ew;have HME:Hid _:=hme;have HWL:Hid _:=hwl;subst Ew;clear HE HPM hme hwl yt;go_wp2_with fail;go_loopw [18] (λi wr=>∃k:Nat,k<=km/\i=O J k/\Hid (Sh (λk=>k=b) W0 wr)/\Hid (GG n (ms.take k)=0)/\Hid (Wk L wr b (Mv n (ms.take k)))) (λi _=>km-(intOf i).toNat)
 case atStart=>exact⟨0,Nat.zero_le _,rfl,VR,rfl,ahy⟩
 case round=>
  clear q2 XE;obtain⟨k,hk,rfl,HS,HZ,HW⟩:=hrel;obtain⟨hBr,hgr,apn,ahq⟩:=HBB.out wr HS.out;have HBr:Hid _:=hBr;have HGr:Hid _:=hgr;clear hBr apn hgr;by_cases mS:k<km
  .obtain⟨b2,o2,hp,oR,hr⟩:∃b off,pm=AI ⟨b,off,U⟩/\b<w0.heap.size/\Row w0 b off ms:=by
    rcases Ed.out with h|h
    .have:=HKM.out;rw[h] at this;simp at this;omega
    .exact h
   subst hp;have EU:k<ms.length:=by rw[HKM.out];exact mS
   obtain⟨c0,c1,c2,c3,c4⟩:=(hr k EU).eq (λo=>HBr.out.cell (p:=⟨b2,o,U⟩) oR);clear hr;have Ey:ms.getD k dm=ms[k]:=by simp[List.getD,List.getElem?_eq_getElem EU]
   have hmz:=HMZ.out k;have hmk:(ms.getD k dm).e=0:=by rw[Ey];exact HME.out _ (List.getElem_mem _)
   have htk:ms.take (k+1)=ms.take k++[ms.getD k dm]:=by rw[Ey];exact List.take_succ_eq_append_getElem EU
   obtain⟨sj,AP⟩:=Wo (ms.take k) n (ms.getD k dm);rw[<- htk] at sj AP;have BU:Hid _:=sj;have HE1:Hid _:=AP HZ.out;have HBD:Hid (Cp (Mv n (ms.take k)) (ms.getD k dm)≠0->res=Cp (Mv n (ms.take k)) (ms.getD k dm)):=λnK=>by
    have e1:GG n (ms.take (k+1))≠0:=by rw[HE1.out];exact nK
    have e2:=adY (ms.take (k+1)) (ms.drop (k+1)) n e1;rw[List.take_append_drop,HE1.out] at e2;exact wm.out.trans (by rw[e2,if_neg nK])
   have alD:Hid _:=ajg (ms.take k) n avo.out (λm hm=>HME.out m (List.mem_of_mem_take hm)) HZ.out;have HSC:Hid (∀W,Below wr.heap.size wr W->Calls AT 95 #[Ik (AI ⟨b,0,U⟩),.agg #[I (ms.getD k dm).name,O J (ms.getD k dm).state,O J (ms.getD k dm).nJ,O J (ms.getD k dm).addr,Ic (ms.getD k dm).server]] W λe w'=>e=Ia (O J (Cp (Mv n (ms.take k)) (ms.getD k dm)))/\Sh (λk=>k=b) W w'/\Hid (Cp (Mv n (ms.take k)) (ms.getD k dm)=0->Wk L w' b (Mv n (ms.take (k+1))))):=λW hW=>by
    have h:=FO L b (Mv n (ms.take k)) (ms.getD k dm) W (HW.out.below hW) hL alD.out.ms alD.out.rs alD.out.name hmk hmz;rw[<- BU.out] at h;exact h
   clear htk sj AP Ey hmk;generalize Cp (Mv n (ms.take k)) (ms.getD k dm)=se at *;generalize ms.getD k dm=mk at *;obtain⟨mn,st,lf,ad,sv2⟩:=mk;simp only at c0 c1 c2 c3 c4 HSC;go_wp2_with fail;refine(HSC.out _ ((Below.refl _ _).alloc (By _) _)).mono ?_;rintro e w3 ⟨rfl,V0,Ac⟩;have HS3:Hid _:=(HS.out.alloc _).trans V0;have avu:Hid _:=(HBB.out w3 HS3.out).2.2.1;clear V0 c0 c1 c2 c3 c4;by_cases An:se=0
   .have tu:Hid _:=HE1.out.trans An
    have HW3:Hid (Wk _ _ _ _):=Ac.out An;subst An;clear Ac HBD HE1;go_wp2_with fail;go_roundw
    case rel=>exact⟨k+1,by omega,by go_num,HS3,tu,HW3⟩
    case measure=>simp[intOf];omega
   .have auB:(se !=0)=true:=by simpa using An
    have HR:Hid _:=HBD.out An;have HPN:Hid _:=An;clear An Ac HBD HE1;go_wp2_with fail;go_ret;exact⟨mN HR.out.symm,avu.out,λh=>absurd (HR.out.symm.trans h) HPN.out⟩
  .have hkk:km=k:=by omega
   subst hkk;have htk:=List.take_of_length_le (by rw[HKM.out];exact By _);rw[htk] at HZ HW;have HE3:Hid _:=wm.out.trans (if_pos HZ.out);clear htk wm;have HRT:Hid _:=NQ.out ms;generalize DZ:Mv n ms=nd at *;clear DZ;obtain⟨as_,ka,ca,ag_,kg2,cg2,vm2,vr2,vw2,h1,h2,h3⟩:=HW.out.ad0;rw[HRT.out.sv] at h2;rw[HRT.out.gw] at h3;have y4:=fi h1 4;have x3:=fi HGr.out 3;have HJC:Hid (Calls AT 96 #[sh as_ ka ca,sh ps ks cs] wr.drew λe w'=>∃a k c,e=Ia (Ir #[sh a k c,O J (Sv.nP n.sv sv)])/\Below wr.heap.size wr w'/\(Sv.nP n.sv sv=0->Sv.Own wr.heap.size w' (sh a k c) (Sv.nO n.sv sv))):=(HJS.out wr.drew _ HBr.out.drew h2).mono (by rintro e w' ⟨a,k,c,rfl,hb,ho⟩;exact⟨a,k,c,rfl,(Below.refl wr.heap.size wr).drew.trans hb,ho⟩);have Dw:Hid (∀W,Below wr.heap.size wr W->W.heap[b]?=AI (.cells (sR nd vm2 vr2 (sh as_ ka ca) (sh ag_ kg2 cg2) vw2) 41 (0,0))):=λW hW=>(hW.block _ HW.out.lt).trans h1;have yB:Hid (∀w1 a k c,Below wr.heap.size wr w1->(Sv.nP n.sv sv=0->Sv.Own wr.heap.size w1 (sh a k c) (Sv.nO n.sv sv))->Sv.nP n.sv sv=0->Wk L (w1.setCell ⟨b,4,U⟩ (sh a k c)) b { nd with sv:=Sv.nO n.sv sv }):=λw1 a k c g1 g2 g0=>HW.out.alk (by have:=HW.out.lt;omega) g1 (g2 g0) HJO.out;generalize Sv.nP n.sv sv=je at *;generalize Gw.nP n.gw gw=ge at *;clear h1 h2 h3 HJS;go_wp2_with fail;go_region_with (first|(go_at_call 96;refine HJC.out.mono ?_;rintro e w4 ⟨a,k1,c,rfl,qA,ho4⟩;have HS4:Hid (Sh (λk=>k=b) W0 (w4.setCell ⟨b,4,U⟩ (sh a k1 c))):=(HS.out.next qA).setCell (S:=λk=>k=b) rfl _;have Cm:Hid (je=0->Wk L (w4.setCell ⟨b,4,U⟩ (sh a k1 c)) b { nd with sv:=Sv.nO n.sv sv }):=yB.out w4 a k1 c qA ho4;have rX:=Dw.out w4 qA;have z4:w4.cell? ⟨b,4,U⟩=AI (sh as_ ka ca):=fi rX 4;have zf:w4.frozen? ⟨b,4,U⟩=false:=tj rX 4;clear qA ho4 rX))
   all_goals
    obtain⟨W5,GF⟩:∃W5,W5=w4.setCell ⟨b,4,U⟩ (sh a k1 c):=⟨_,rfl⟩;rw[<- GF] at HS4 Cm;rw[<- GF];clear GF z4 zf y4 x3 Dw HJC yB;obtain⟨hB5,TC,ad3,alE⟩:=HBB.out W5 HS4.out;have qB:Hid _:=hB5;have Ro:Hid _:=TC;have avw:Hid _:=ad3;clear hB5 TC ad3;by_cases hje:je=0;rotate_left
    .have aDa:(je !=0)=true:=by simpa using hje
     have HR:Hid _:=HE3.out.trans (if_neg hje);have HPN:Hid _:=hje;clear hje;go_wp2_with fail;go_ret;exact⟨mN HR.out.symm,avw.out,λh=>absurd (HR.out.symm.trans h) HPN.out⟩
    .have HW5:Hid (Wk _ _ _ _):=Cm.out hje
     have HE4:Hid _:=HE3.out.trans (if_pos hje);subst hje;clear Cm HE3;obtain⟨as3,ka3,XX,ag3,kg3,cg3,vm3,vr3,vw3,h1,_,h3⟩:=HW5.out.ad0;have h3:Gw.Sl W5 (sh ag3 kg3 cg3) n.gw:=by rw[<- HRT.out.gw];exact h3
     have y5:=fi h1 5;have x4:=fi Ro.out 4;have HJC:Hid (Calls AT 97 #[sh ag3 kg3 cg3,sh pg kg cg] W5.drew λe w'=>∃a k c,e=Ia (Ir #[sh a k c,O J ge])/\Below W5.heap.size W5 w'/\(ge=0->Gw.Own W5.heap.size w' (sh a k c) (Gw.nO n.gw gw))):=(HJG.out W5.drew _ qB.out.drew h3).mono (by rintro e w' ⟨a,k,c,rfl,hb,ho⟩;exact⟨a,k,c,rfl,(Below.refl W5.heap.size W5).drew.trans hb,ho⟩);have Dw:Hid (∀W,Below W5.heap.size W5 W->W.heap[b]?=AI (.cells (sR { nd with sv:=Sv.nO n.sv sv } vm3 vr3 (sh as3 ka3 XX) (sh ag3 kg3 cg3) vw3) 41 (0,0))):=λW hW=>(hW.block _ HW5.out.lt).trans h1;have yB:Hid (∀w1 a k c,Below W5.heap.size W5 w1->(ge=0->Gw.Own W5.heap.size w1 (sh a k c) (Gw.nO n.gw gw))->ge=0->Wk L (w1.setCell ⟨b,5,U⟩ (sh a k c)) b { nd with sv:=Sv.nO n.sv sv,gw:=Gw.nO n.gw gw }):=λw1 a k c g1 g2 g0=>HW5.out.alm (by have:=HW5.out.lt;omega) g1 (g2 g0) HJP.out;clear h1 h3;go_wp2_with fail;go_region_with (first|(go_at_call 97;refine HJC.out.mono ?_;rintro e w6 ⟨a6,k6,c6,rfl,sZ,ho6⟩;have HS6:Hid (Sh (λk=>k=b) W0 (w6.setCell ⟨b,5,U⟩ (sh a6 k6 c6))):=(HS4.out.next sZ).setCell (S:=λk=>k=b) rfl _;have Bl:Hid (ge=0->Wk L (w6.setCell ⟨b,5,U⟩ (sh a6 k6 c6)) b { nd with sv:=Sv.nO n.sv sv,gw:=Gw.nO n.gw gw }):=yB.out w6 a6 k6 c6 sZ ho6;have rX:=Dw.out w6 sZ;have z5:w6.cell? ⟨b,5,U⟩=AI (sh ag3 kg3 cg3):=fi rX 5;have zf:w6.frozen? ⟨b,5,U⟩=false:=tj rX 5;clear sZ ho6 rX))
     all_goals
      obtain⟨W7,hW7⟩:∃W7,W7=w6.setCell ⟨b,5,U⟩ (sh a6 k6 c6):=⟨_,rfl⟩;rw[<- hW7] at HS6 Bl;rw[<- hW7];clear hW7 z5 zf y5 x4 Dw HJC yB;obtain⟨hB7,hg7,apq,aDg⟩:=HBB.out W7 HS6.out;have SO:Hid _:=hB7;have apr:Hid _:=apq;have x5:=fi hg7 5;clear hB7 hg7 apq;by_cases Ep:ge=0;rotate_left
      .have auA:(ge !=0)=true:=by simpa using Ep
       have HPN:Hid _:=Ep;clear Ep;go_wp2_with fail;go_ret;exact⟨mN HE4.out.symm,apr.out,λh=>absurd (HE4.out.symm.trans h) HPN.out⟩
      .have HLC:=HLN.out W7 { nd with sv:=Sv.nO n.sv sv,gw:=Gw.nO n.gw gw } (Bl.out Ep) HRT.out.wh SO.out HWL.out
       have HR0:Hid _:=HE4.out.trans Ep;subst Ep;clear Bl;go_wp2_with fail;refine HLC.mono ?_;rintro e w8 ⟨rfl,hs8,hk8⟩;have HS8:Hid _:=apr.out.trans hs8;have HK8:Hid (Wk L w8 b (hrN n ⟨tG,whole,ms,sv,gw,wh⟩)):=by rw[vj.out];exact hk8
       clear hs8 hk8;go_wp2_with fail;go_ret;exact⟨mN HR0.out.symm,HS8.out,λ_=>HK8.out⟩
end Go.Proofs.YtipbebleapjcjaaGreatDoor
