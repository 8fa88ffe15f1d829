import Derived.Test.YtfidjlcdlakceaaGreatDoortf8
import Derived.Test.YtfidjlcdlakceaaGreatDoortf13
import Derived.Test.YtfidjlcdlakceaaGreatDoortf26
import Derived.Test.YtfidjlcdlakceaaGreatDoortf28
set_option maxHeartbeats 6400000
set_option maxRecDepth 100000
open ByteArray renaming empty→Ih
open List renaming getD→Io,getElem?_eq_getElem→Ic
open Go.Maps renaming has→ON,size→Oc
open Go.IntKind renaming i64→J
open Go.Proofs.Tryz renaming prog→be,underlying223→JH,underlying3→IG
open Go renaming plainElem→Jo,maxLen→Ij,heap_alloc_new→Ie,bodyPost_ret→Ix
open Go.Value renaming slice→U,int→O,string→I,agg→Im,bool→AI,pointer→If,func→IZ,tuple→Il
open Go.Ending renaming returned→sh
open Go.RowKit.Below renaming refl→Ib
open Nat renaming zero_le→II,le_refl→By
open Option renaming some→Z,none→Y
open Go.World renaming block_lt_of_cell?→IH,frozen?→Ig
open Array renaming getElem?_eq_some_iff→Ia
namespace Go.Proofs.YtfidjlcdlakceaaGreatDoor
open Go.RowKit Go.WideMaps Go.Maps
def lh(ms:List Mem):List ByteArray:=ms.map (·.name)
theorem gU(ms:List Mem)(k:Nat):(lh ms).getD k Ih=(ms.getD k dm).name:=by
 by_cases h:k<ms.length
 .simp[lh,Io,Ic h]
 .simp[lh,Io,List.getElem?_eq_none (by omega:ms.length<=k),dm]
structure Vh(D:DataW Unit)(ns:List ByteArray)(k:Nat):Prop where
 tidy:Tidy D
 has:∀s,ON D (kS s)=ON (Dm ns k) (kS s)
 size:Oc D=Oc (Dm ns k)
 val:∀s,∃c:Int,D.atKey (kS s) (.lit (.int J 0))=.lit (.int J c)/\0<=c/\c<=k
theorem PD(ns:List ByteArray):Vh (.map []) ns 0:=⟨tidy_empty,λ_=>rfl,rfl,λ_=>⟨0,rfl,Int.le_refl _,Int.le_refl _⟩⟩
theorem PF{D:DataW Unit}{ns:List ByteArray}{k:Nat}(h:Vh D ns k){c:Int}(hc:D.atKey (kS (ns.getD k Ih)) (.lit (.int J 0))=.lit (.int J c)) :
 0<=c/\c<=k/\Vh (D.put (kS (ns.getD k Ih)) (.lit (.int J (c+1)))) ns (k+1):=by
 obtain⟨c',hc',h0,h1⟩:=h.val (ns.getD k Ih);rw[hc] at hc';have e:c=c':=by injection hc' with h;injection h
 subst e;refine⟨h0,h1,h.tidy.put (mg _) _,λs=>?_,?_,λs=>?_⟩
 .by_cases e:ns.getD k Ih=s
  .subst e;rw[has_put_same h.tidy.isMap (mg _),Dm,has_put_same (oT ns k).isMap (mg _)]
  .rw[has_put_other (wZ (Ne.symm e)),Dm,has_put_other (wZ (Ne.symm e))];exact h.has s
 .rw[size_put h.tidy,sN,h.has,h.size]
 .by_cases e:ns.getD k Ih=s
  .subst e;exact⟨c+1,by rw[atKey_put_same h.tidy.isMap (mg _)],by omega,by omega⟩
  .rw[atKey_put_other (wZ (Ne.symm e))]
   obtain⟨d,hd,d0,d1⟩:=h.val s;exact⟨d,hd,d0,by omega⟩
theorem aaV{D:DataW Unit}{ms:List Mem}(h:Vh D (lh ms) ms.length)(hd:¬ nS ms):Oc D<ms.length:=by
 rw[h.size];apply og;apply Classical.byContradiction;intro hx;apply hd;intro i j lO hj e;exact hx ⟨i,j,lO,hj,by rw[gU,gU];exact e⟩
theorem aaW{D:DataW Unit}{ms:List Mem}(h:Vh D (lh ms) ms.length)(hd:nS ms):Oc D=ms.length:=by
 rw[h.size];exact oe _ _ (λi j lO hj=>by rw[gU,gU];exact hd i j lO hj)
theorem DK{w w':World}{b n:Nat}{D:DataW Unit}(h:w.ownsMap be 9 (Jo (H:=Unit) be 3) b n D)(hb:Below w.heap.size w w'):w'.ownsMap be 9 (Jo (H:=Unit) be 3) b n D:=by
 have hl:=h.lt;obtain⟨es,clock,h1,h2⟩:=h;exact⟨es,clock,(hb.block b hl).trans h1,h2⟩
theorem row_one{w:World}{b off:Nat}{ms:List Mem}(hr:Row w b off ms){k:Nat}(hk:k<ms.length):Row w b (off+k*5) [ms.getD k dm]:=λj hj=>by
 have:j=0:=by simpa using hj
 subst this;simpa using hr k hk
def Roomy(v:Value):Prop:=match v with
 | U _ n c=>n<=c
 |_=>True
theorem wP(ms:List Mem)(v:Value)(w:World)(hv:Sl w v ms)(cV:Roomy v) :
 Calls be 142 #[v] w λe w'=>e=sh (O J (lH ms))/\Below w.heap.size w w':=by
 obtain⟨pa,ca,rfl,bA,ha⟩:=hv;have NH:ms.length<=ca:=cV;clear cV;by_cases hmany:5<ms.length
 .have HE:Hid (lH ms=2):=Gy hmany
  go_enter Tryz.func142,Tryz.ntmps142;go_wp2_with fail;go_ret;exact⟨aj HE.out.symm,Ib _ _⟩
 have HA:Hid _:=ha;have HS:Hid (∀j,(ms.getD j dm).name.size<=Ij):=bA;clear ha bA;generalize hN:ms.length=n at *;have HN:Hid (ms.length=n):=hN;clear hN;have hn5:n<=5:=by omega
 have zJ:=lz;go_enter Tryz.func142,Tryz.ntmps142;go_wp2;go_loopw [15] (λi wr=>∃k:Nat,k<=n/\i=O J k/\Hid (∀j,j<k->(ms.getD j dm).e=0)/\Hid (∃D,wr.ownsMap be 9 (Jo (H:=Unit) be 3) w.heap.size k D/\Vh D (lh ms) k)/\Hid (Below w.heap.size w wr)) (λi _=>n-(intOf i).toNat)
 case atStart=>exact⟨0,II _,rfl,λj hj=>by omega,⟨_,World.ownsMap_made _ _ _ _,PD _⟩,(Ib _ _).alloc (By _) _⟩
 case round=>
  obtain⟨k,hk,rfl,HZ,HD,HB⟩:=hrel;obtain⟨D,HO,HC⟩:=HD.out;have HO:Hid (wr.ownsMap be 9 (Jo (H:=Unit) be 3) w.heap.size k D):=HO;have HC:Hid (Vh D (lh ms) k):=HC;clear HD;by_cases aL:k<n
  .obtain⟨b,off,hp,hl,hr⟩:∃b off,pa=Z ⟨b,off,Y⟩/\b<w.heap.size/\Row w b off ms:=by
    rcases HA.out with h|h
    .have:=HN.out;rw[h] at this;simp at this;omega
    .exact h
   subst hp;have EV:=hr.later HB.out hl;obtain⟨c0,c1,c2,c3,c4⟩:=EV k (by rw[HN.out];exact aL);have ft:=HS.out k;have HX:Hid ((ms.getD k dm).e≠0->lH ms=(ms.getD k dm).e):=λh=>XQ (by rw[HN.out];exact hn5) (by rw[HN.out];exact aL) HZ.out h;have iS:Hid ((ms.getD k dm).e=0->∀j,j<k+1->(ms.getD j dm).e=0):=λh j hj=>by
    by_cases e:j=k
    .subst e;exact h
    .exact HZ.out j (by omega)
   have kD:Hid (Row wr b (off+k*5) [ms.getD k dm]):=row_one EV (by rw[HN.out];exact aL);have HG:Hid (∀(c:Int),D.atKey (kS (ms.getD k dm).name) (.lit (.int J 0))=.lit (.int J c)->0<=c/\c<=k/\Vh (D.put (kS (ms.getD k dm).name) (.lit (.int J (c+1)))) (lh ms) (k+1)):=λc hc=>by
    have h:=PF HC.out (c:=c) (by rw[gU];exact hc);rw[gU] at h;exact h
   have bA:=HB.out.size;generalize(ms.getD k dm)=mk at *;have rL:Hid (∀W,Below wr.heap.size wr W->∀cc,Calls be 127 #[U (Z ⟨b,off+k*5,Y⟩) 1 cc] W λe w'=>e=sh (O J mk.e)/\Below W.heap.size W w'):=λW hW cc=>by
    have h:=aW [mk] (U (Z ⟨b,off+k*5,Y⟩) 1 cc) W ⟨_,cc,rfl,cB (λx hx=>by simp at hx;subst hx;exact ft),.inr ⟨b,_,rfl,by have:=hW.size;omega,kD.out.later hW (by omega)⟩⟩;rw[jf] at h;exact h
   obtain⟨nm,st,lf,ad,sv⟩:=mk;simp only at c0 c1 c2 c3 c4 ft HX iS HG rL;have CL:keyOf be 9 (I nm)=Z (kS nm):=keyOf_string_mk Tryz.underlying9 ft;clear hr EV HZ kD;have fM:(k:Int)<n:=by omega
   have hkc:(k:Int)+1<=(ca:Int):=by omega
   go_wp2_with fail;refine(rL.out _ ((Ib _ _).alloc (By _) _) _).mono ?_;rintro e w1 ⟨rfl,al⟩;have j7:Hid (w1.ownsMap _ _ _ _ _ _):=DK (HO.out.alloc _) al;have aR:Hid _:=(HB.out.alloc HB.out.size _).trans (al.mono (by simp;omega));have hm0:w1.cell? ⟨wr.heap.size,0,Y⟩=Z (I nm):=(al.cell (p:=⟨wr.heap.size,0,Y⟩) (by simp)).trans (by simp);clear al c0 c1 c2 c3 c4 HB HO rL;by_cases he:(Mem.mk nm st lf ad sv).e=0
   .have ki:((Mem.mk nm st lf ad sv).e !=0)=false:=by simpa using he
    have mr:Hid _:=iS.out he;clear HX iS he;generalize(Mem.mk nm st lf ad sv).e=me at *;obtain⟨c,ia,cA,_⟩:=j7.out.lookup_int Tg JH IG (MN _) CL;obtain⟨g0,g1,g2⟩:=HG.out c cA;have oq:Hid _:=g2;clear g2 cA HG;go_wp2_with (first
     |(at_mapUpdate;refine wpList_mapUpdate_own _ rfl _ _ _ 223 rfl 9 3 Tg JH _ w.heap.size k _ rfl j7.out (by unfold Ij;omega) _ _ _ rfl rfl CL _ [] (plainElem_int IG (WalkArith.wf_i64 (by omega))) ?_)
     |fail)
    intro w2 WY PG;have R1:Hid (∃D,w2.ownsMap be 9 (Jo (H:=Unit) be 3) w.heap.size (k+1) D/\Vh D (lh ms) (k+1)):=⟨_,WY,oq.out⟩;have R2:Hid _:=aR.out.grown PG aR.out.size (λj hj=>by cases hj;exact By _);clear WY PG j7 aR;go_wp2_with fail;go_roundw
    case rel=>exact⟨k+1,by omega,by go_num,mr,R1,R2⟩
    case measure=>simp[intOf];omega
   .have ki:((Mem.mk nm st lf ad sv).e !=0)=true:=by simpa using he
    have HR:Hid _:=HX.out he;generalize(Mem.mk nm st lf ad sv).e=me at *;clear he HX iS;go_wp2_with fail;go_ret;exact⟨aj HR.out.symm,aR.out⟩
  .have fM:k=n:=by omega
   subst fM;have nV:Hid (Oc D<k↔¬ nS ms):=by
    have h1:=HC.out;rw[<- HN.out] at h1 ⊢;exact⟨λh hd=>by rw[aaW h1 hd] at h;omega,λhd=>aaV h1 hd⟩
   have DM:Hid (¬ nS ms->lH ms=6):=λhd=>CY (by rw[HN.out];exact hn5) (λj hj=>HZ.out j (by rw[<- HN.out];exact hj)) hd;have iN:Hid (nS ms->lH ms=0):=λhd=>Tq (by rw[HN.out];exact hn5) (λj hj=>HZ.out j (by rw[<- HN.out];exact hj)) hd;by_cases hd:nS ms
   .have HE:Hid _:=iN.out hd
    have hs:¬ ((Oc D:Int)<(k:Int)):=by have:=nV.out;intro h;exact(this.1 (by omega)) hd
    clear DM iN hd nV HZ;go_wp2_with (at_len;refine wpList_len_own _ rfl _ 223 rfl 9 3 JH _ _ _ _ rfl HO.out ?_);go_ret;exact⟨aj HE.out.symm,HB.out⟩
   .have HE:Hid _:=DM.out hd
    have hs:((Oc D:Int)<(k:Int)):=by have:=nV.out.2 hd;omega
    clear DM iN hd nV HZ;go_wp2_with (at_len;refine wpList_len_own _ rfl _ 223 rfl 9 3 JH _ _ _ _ rfl HO.out ?_);go_ret;exact⟨aj HE.out.symm,HB.out⟩
structure pJ(w:World)(p:Pk)(vm vs vg vw:Value):Prop where
 ms:Sl w vm p.ms
 sv:Sv.Sl w vs p.sv
 gw:Gw.Sl w vg p.gw
 wh:Wh.Sl w vw p.wh
 dN:p.dN.size<=Ij
 room:Roomy vm
theorem pJ.below{w w':World}{p:Pk}{vm vs vg vw:Value}(h:pJ w p vm vs vg vw)(hb:Below w.heap.size w w'):pJ w' p vm vs vg vw:=⟨h.ms.below hb,h.sv.below hb,h.gw.below hb,h.wh.below hb,h.dN,h.room⟩
theorem mJ{α:Type}(l:List α):l.isEmpty=decide (l.length=0):=by cases l<;>simp
theorem oC(p:Pk)(vm vs vg vw:Value)(w:World)(h:pJ w p vm vs vg vw)(hlen:p.whole=true\/p.sv.length+p.gw.length+p.wh.length<=4611686018427387904) :
 Calls be 94 #[Im #[I p.dN,AI p.whole,vm,vs,vg,vw]] w λe w'=>e=sh (O J p.e)/\Below w.heap.size w w':=by
 obtain⟨dN,whole,ms,sv,gw,wh⟩:=p;obtain⟨j5,Cy,nN,Ma,Vi,cV⟩:=h;simp only at j5 Cy nN Ma Vi hlen ⊢;have WD:Hid (∀W,Below w.heap.size w W->Calls _ _ _ _ _):=λW hW=>aW ms vm W (j5.below hW);have HM2:Hid (∀W,Below w.heap.size w W->Calls _ _ _ _ _):=λW hW=>wP ms vm W (j5.below hW) cV;have HS:Hid (∀W,Below w.heap.size w W->Calls _ _ _ _ _):=λW hW=>Sv.aW sv vs W (Cy.below hW);have HG:Hid (∀W,Below w.heap.size w W->Calls _ _ _ _ _):=λW hW=>Gw.aW gw vg W (nN.below hW);have HW:Hid (∀W,Below w.heap.size w W->Calls _ _ _ _ _):=λW hW=>Wh.aW wh vw W (Ma.below hW);have HE:Hid (Pk.e ⟨dN,whole,ms,sv,gw,wh⟩=if(aN dN&&(whole||(decide (sv.length=0)&&(decide (gw.length=0)&&decide (wh.length=0)))))=true then
  (if(if whole=true then ba ms else lH ms)=0 then(if Sv.ba sv=0 then(if Gw.ba gw=0 then Wh.ba wh else Gw.ba gw) else Sv.ba sv) else(if whole=true then ba ms else lH ms)) else 1):=by
  show Pk.e _=_;rw[<- mJ,<- mJ,<- mJ];rfl
 generalize Pk.e ⟨dN,whole,ms,sv,gw,wh⟩=res at *;obtain⟨a2,c2,rfl,_,_⟩:=Cy;obtain⟨a3,c3,rfl,_,_⟩:=nN;obtain⟨a4,c4,rfl,_,_⟩:=Ma;clear j5 cV;generalize Sv.ba sv=se at *;generalize Gw.ba gw=ge at *;generalize Wh.ba wh=we at *;generalize ba ms=m1 at *;generalize lH ms=m2 at *;generalize sv.length=n2 at *;generalize gw.length=n3 at *;generalize wh.length=n4 at *;obtain⟨W0,dK,df,-,dt⟩:=cR w #[I dN,AI whole,vm,U a2 n2 c2,U a3 n3 c3,U a4 n4 c4] 57;have nP:w.heap.size<W0.heap.size:=by rw[dK];simp
 have dy:Hid _:=df;have wB:Hid _:=dt;have HX:Hid (∀W,Below W0.heap.size W0 W->(W.cell? ⟨w.heap.size,2,Y⟩=Z vm/\W.cell? ⟨w.heap.size,3,Y⟩=Z (U a2 n2 c2)/\W.cell? ⟨w.heap.size,4,Y⟩=Z (U a3 n3 c3)/\W.cell? ⟨w.heap.size,5,Y⟩=Z (U a4 n4 c4))/\Below w.heap.size w W):=λW hW=>
  have hg:=(hW.block _ nP).trans dt
  ⟨⟨af hg 2,af hg 3,af hg 4,af hg 5⟩,df.trans (hW.mono (by omega))⟩
 have sC:Hid (∀W W',Below W0.heap.size W0 W->Below W.heap.size W W'->Below W0.heap.size W0 W'):=λW W' h1 h2=>h1.trans (h2.mono h1.size);go_enter Tryz.func94,Tryz.ntmps94;rcases lj:aN dN with _|_
 .have HR:Hid (res=1):=HE.out.trans (by rw[lj];rfl)
  go_wp2_with (go_at_call 65;refine(bc _ _ Vi).mono ?_;rintro e w' ⟨rfl,rfl⟩;rw[lj]);go_ret;exact⟨aj HR.out.symm,(Ib _ _).alloc (By _) _⟩
 .cases whole
  .by_cases hal:n2=0/\n3=0/\n4=0
   .obtain⟨rfl,rfl,rfl⟩:=hal
    have iN:Hid (res=if m2=0 then(if se=0 then(if ge=0 then we else ge) else se) else m2):=HE.out.trans (by rw[lj];rfl);clear HE WD;go_wp2_with (first|(go_at_call 65;refine(bc _ _ Vi).mono ?_;rintro e w' ⟨rfl,rfl⟩;rw[lj])|fail);rw[<- dK];refine(HM2.out _ dy.out).mono ?_;rintro e w1 ⟨rfl,al⟩;obtain⟨⟨x2,x3,x4,x5⟩,PH⟩:=HX.out w1 al;have aR:Hid _:=al;have pK:Hid _:=PH;clear al PH;by_cases hm:m2=0
    .subst hm
     go_wp2_with fail;refine(HS.out _ pK.out).mono ?_;rintro e w2 ⟨rfl,aC⟩;have bw:Hid _:=sC.out _ _ aR.out aC;clear x2 x3 x4 x5 aC;obtain⟨⟨x2,x3,x4,x5⟩,PI⟩:=HX.out w2 bw.out;have DN:Hid _:=PI;clear PI;by_cases hse:se=0
     .subst hse
      go_wp2_with fail;refine(HG.out _ DN.out).mono ?_;rintro e w3 ⟨rfl,bf⟩;have da:Hid _:=sC.out _ _ bw.out bf;clear x2 x3 x4 x5 bf;obtain⟨⟨x2,x3,x4,x5⟩,PJ⟩:=HX.out w3 da.out;have yY:Hid _:=PJ;clear PJ;by_cases j6:ge=0
      .subst j6
       go_wp2_with fail;refine(HW.out _ yY.out).mono ?_;rintro e w4 ⟨rfl,fa⟩;have aaX:Hid _:=yY.out.trans (fa.mono yY.out.size);clear fa;go_wp2_with fail;go_ret;exact⟨aj iN.out.symm,aaX.out⟩
      .have aaY:(ge !=0)=true:=by simpa using j6
       have HR:Hid (res=ge):=iN.out.trans (by simp[j6]);clear j6;go_wp2_with fail;go_ret;exact⟨aj HR.out.symm,yY.out⟩
     .have aaZ:(se !=0)=true:=by simpa using hse
      have HR:Hid (res=se):=iN.out.trans (by simp[hse]);clear hse;go_wp2_with fail;go_ret;exact⟨aj HR.out.symm,DN.out⟩
    .have hm':(m2 !=0)=true:=by simpa using hm
     have HR:Hid _:=iN.out.trans (if_neg hm);clear hm;go_wp2_with fail;go_ret;exact⟨aj HR.out.symm,pK.out⟩
   .have HR:Hid (res=1):=HE.out.trans (by
     rw[lj,if_neg];simp only[Bool.true_and,Bool.false_or,Bool.and_eq_true,decide_eq_true_eq];exact hal)
    have hlen:n2+n3+n4<=4611686018427387904:=by
     rcases hlen with h|h
     .cases h
     .exact h
    have anz:(0:Int)<(n2:Int)+(n3:Int)+(n4:Int):=by omega
    go_wp2_with (go_at_call 65;refine(bc _ _ Vi).mono ?_;rintro e w' ⟨rfl,rfl⟩;rw[lj]);go_ret;exact⟨aj HR.out.symm,(Ib _ _).alloc (By _) _⟩
  .have iN:Hid (res=if m1=0 then(if se=0 then(if ge=0 then we else ge) else se) else m1):=HE.out.trans (by rw[lj];rfl)
   clear HE HM2;go_wp2_with (first|(go_at_call 65;refine(bc _ _ Vi).mono ?_;rintro e w' ⟨rfl,rfl⟩;rw[lj])|fail);rw[<- dK];refine(WD.out _ dy.out).mono ?_;rintro e w1 ⟨rfl,al⟩;obtain⟨⟨x2,x3,x4,x5⟩,PH⟩:=HX.out w1 al;have aR:Hid _:=al;have pK:Hid _:=PH;clear al PH;by_cases hm:m1=0
   .subst hm
    go_wp2_with fail;refine(HS.out _ pK.out).mono ?_;rintro e w2 ⟨rfl,aC⟩;have bw:Hid _:=sC.out _ _ aR.out aC;clear x2 x3 x4 x5 aC;obtain⟨⟨x2,x3,x4,x5⟩,PI⟩:=HX.out w2 bw.out;have DN:Hid _:=PI;clear PI;by_cases hse:se=0
    .subst hse
     go_wp2_with fail;refine(HG.out _ DN.out).mono ?_;rintro e w3 ⟨rfl,bf⟩;have da:Hid _:=sC.out _ _ bw.out bf;clear x2 x3 x4 x5 bf;obtain⟨⟨x2,x3,x4,x5⟩,PJ⟩:=HX.out w3 da.out;have yY:Hid _:=PJ;clear PJ;by_cases j6:ge=0
     .subst j6
      go_wp2_with fail;refine(HW.out _ yY.out).mono ?_;rintro e w4 ⟨rfl,fa⟩;have aaX:Hid _:=yY.out.trans (fa.mono yY.out.size);clear fa;go_wp2_with fail;go_ret;exact⟨aj iN.out.symm,aaX.out⟩
     .have aaY:(ge !=0)=true:=by simpa using j6
      have HR:Hid (res=ge):=iN.out.trans (by simp[j6]);clear j6;go_wp2_with fail;go_ret;exact⟨aj HR.out.symm,yY.out⟩
    .have aaZ:(se !=0)=true:=by simpa using hse
     have HR:Hid (res=se):=iN.out.trans (by simp[hse]);clear hse;go_wp2_with fail;go_ret;exact⟨aj HR.out.symm,DN.out⟩
   .have hm':(m1 !=0)=true:=by simpa using hm
    have HR:Hid _:=iN.out.trans (if_neg hm);clear hm;go_wp2_with fail;go_ret;exact⟨aj HR.out.symm,pK.out⟩
theorem kF(a b:ByteArray):(a.toList==b.toList)=decide (a=b):=by
 by_cases h:a=b
 .subst h;simp
 .have h2:¬ a.toList=b.toList:=λe=>h (jX (by rw[Lib.toList_data,Lib.toList_data] at e;exact e))
  simp[h,h2]
end Go.Proofs.YtfidjlcdlakceaaGreatDoor
namespace Go.Proofs.YtfidjlcdlakceaaGreatDoor
open Go.RowKit
theorem Kf(m:Mem)(nb:Nat)(nm:ByteArray)(w:World)(h:w.cell? ⟨nb,0,Y⟩=Z (I nm)) :
 Calls be 157 #[Im #[I m.name,O J m.state,O J m.aX,O J m.addr,AI m.server],If (Z ⟨nb,0,Y⟩)] w λe w'=>e=sh (AI (decide (m.name=nm)))/\w'=w.alloc (.cells #[I m.name,O J m.state,O J m.aX,O J m.addr,AI m.server] 70):=by
 have hb:=IH w _ h;have h2:∀ob,(w.alloc ob).cell? ⟨nb,0,Y⟩=Z (I nm):=λob=>by
  rw[((Ib w.heap.size w).alloc (By _) ob).cell (p:=⟨nb,0,Y⟩) hb];exact h
 obtain⟨mn,st,lf,ad,sv⟩:=m;go_enter Tryz.func157,Tryz.ntmps157;go_wp2_with fail;go_ret;exact⟨aD (kF _ _),rfl⟩
theorem DO(ms:List Mem)(pa:Option Addr)(n c nb:Nat)(nm:ByteArray)(w:World)(hv:Sl w (U pa n c) ms)(CK:n<=1000)(ht:w.cell? ⟨nb,0,Y⟩=Z (I nm)) :
 Calls be 158 #[U pa n c,IZ (.func 157) #[] #[If (Z ⟨nb,0,Y⟩)]] w λe w'=>
  ((e=sh (O J (-1))/\Hid (du ms nm=Y))\/(∃i:Nat,i<n/\e=sh (O J i)/\Hid (du ms nm=Z (ms.getD i dm))))/\Below w.heap.size w w':=by
 obtain⟨pa',ca,he,_,ha⟩:=hv;simp only[Value.slice.injEq] at he;obtain⟨rfl,hN,rfl⟩:=he;have HA:Hid _:=ha;have HN:Hid _:=hN.symm;have HT:Hid _:=ht;have Tu:=IH w _ ht;clear ha hN ht;go_enter Tryz.func158,Tryz.ntmps158;go_wp2_with fail;go_loopw [8] (λi wr=>∃k:Nat,k<=n/\i=O J k/\Hid (∀j,j<k->(ms.getD j dm).name≠nm)/\Hid (Below w.heap.size w wr)) (λi _=>n-(intOf i).toNat)
 case atStart=>exact⟨0,II _,rfl,λj hj=>by omega,Ib _ _⟩
 case round=>
  obtain⟨k,hk,rfl,HZ,HB⟩:=hrel;by_cases aL:k<n
  .obtain⟨b,off,lP,eY,hr⟩:∃b off,pa=Z ⟨b,off,Y⟩/\b<w.heap.size/\Row w b off ms:=by
    rcases HA.out with h|h
    .have:=HN.out;rw[h] at this;simp at this;omega
    .exact h
   subst lP;obtain⟨c0,c1,c2,c3,c4⟩:=hr.later HB.out eY k (by rw[HN.out];exact aL);clear hr;have Fa:wr.cell? ⟨nb,0,Y⟩=Z (I nm):=by rw[HB.out.cell (p:=⟨nb,0,Y⟩) Tu];exact HT.out
   have HY:Hid ((ms.getD k dm).name=nm->du ms nm=Z (ms.getD k dm)):=λh=>qv (by rw[HN.out];exact aL) HZ.out h;have iS:Hid ((ms.getD k dm).name≠nm->∀j,j<k+1->(ms.getD j dm).name≠nm):=λh j hj=>by
    by_cases e:j=k
    .subst e;exact h
    .exact HZ.out j (by omega)
   have hF:=λw h=>Kf (ms.getD k dm) nb nm w h;by_cases kN:(ms.getD k dm).name=nm
   .have HF:Hid _:=HY.out kN
    rw[decide_eq_true kN] at hF;clear kN iS HY;generalize M9:ms.getD k dm=mk at *;have HMK:Hid _:=M9;clear M9;obtain⟨mn,st,lf,ad,sv⟩:=mk;simp only at c0 c1 c2 c3 c4 hF;go_wp2_with fail;refine(hF _ Fa).mono ?_;rintro e w1 ⟨rfl,rfl⟩;go_wp2_with fail;go_ret;exact⟨.inr ⟨k,aL,rfl,by rw[HMK.out];exact HF⟩,HB.out.alloc HB.out.size _⟩
   .have mr:Hid _:=iS.out kN
    rw[decide_eq_false kN] at hF;clear kN iS HY HZ;generalize ms.getD k dm=mk at *;obtain⟨mn,st,lf,ad,sv⟩:=mk;simp only at c0 c1 c2 c3 c4 hF;go_wp2_with fail;refine(hF _ Fa).mono ?_;rintro e w1 ⟨rfl,rfl⟩;go_wp2_with fail;go_roundw
    case rel=>exact⟨k+1,by omega,by go_num,mr,HB.out.alloc HB.out.size _⟩
    case measure=>simp[intOf];omega
  .have mr:Hid _:=qu λj hj=>HZ.out j (by have:=HN.out;omega)
   clear HZ;go_wp2_with fail;go_ret;exact⟨.inl ⟨rfl,mr⟩,HB.out⟩
theorem kG{ms:List Mem}{t:ByteArray}{m:Mem}(h:du ms t=Z m):eD ms t=m:=by unfold eD;rw[h];rfl
theorem uA{ms:List Mem}{t:ByteArray}(h:du ms t=Y):eD ms t=dm:=by unfold eD;rw[h];rfl
theorem jW(b:Nat)(pm:Option Addr)(nm cm:Nat)(ms:List Mem)(t:ByteArray)(w:World)(hc:w.cell? ⟨b,2,Y⟩=Z (U pm nm cm))(hm:Sl w (U pm nm cm) ms)(hn:nm<=1000) :
 Calls be 104 #[If (Z ⟨b,0,Y⟩),I t] w λe w'=>e=sh (Il #[Im #[I (eD ms t).name,O J (eD ms t).state,O J (eD ms t).aX,O J (eD ms t).addr,AI (eD ms t).server],AI (du ms t).isSome])/\Below w.heap.size w w':=by
 have HM:Hid (Sl _ _ _):=hm;have hb:=IH w _ hc;have HC:Hid _:=hc;clear hm;obtain⟨W,hW⟩:∃W,W=(w.alloc (.cells #[I t] 9)).alloc (.cells #[I ⟨#[]⟩,O J 0,O J 0,O J 0,AI false] 70):=⟨_,rfl⟩;have ez:Below w.heap.size w W:=by rw[hW];exact((Ib _ _).alloc (By _) _).alloc (by simp) _
 have bb:W.heap[w.heap.size]?=Z (.cells #[I t] 9 (0,0)):=by
  rw[hW,Below.heap_alloc _ _ _ (by simp)];exact Ie w _
 have iL:W.heap[w.heap.size+1]?=Z (.cells #[I ⟨#[]⟩,O J 0,O J 0,O J 0,AI false] 70 (0,0)):=by
  have h:=Ie (w.alloc (.cells #[I t] 9)) (.cells #[I ⟨#[]⟩,O J 0,O J 0,O J 0,AI false] 70);rw[hW];simpa using h
 have oX:W.heap.size=w.heap.size+2:=by rw[hW];simp
 go_enter Tryz.func104,Tryz.ntmps104;go_wp2_with fail;rw[<- hW];clear hW;refine(DO ms pm nm cm _ t W (HM.out.below ez) hn (af bb 0)).mono ?_;rintro e w1 ⟨zL,al⟩;have h2:=(al.block _ (by omega)).trans iL;have HB:Hid _:=ez.trans (al.mono (by omega));have WD:Hid (Sl _ _ _):=HM.out.below HB.out;have d2:w1.cell? ⟨b,2,Y⟩=Z (U pm nm cm):=by rw[HB.out.cell (p:=⟨b,2,Y⟩) hb];exact HC.out
 have r0:=af h2 0;have r1:=af h2 1;have r2:=af h2 2;have r3:=af h2 3;have r4:=af h2 4;have z0:w1.frozen? ⟨w.heap.size+1,0,Y⟩=false:=by simp[Ig,h2]
 have z1:w1.frozen? ⟨w.heap.size+1,1,Y⟩=false:=by simp[Ig,h2]
 have z2:w1.frozen? ⟨w.heap.size+1,2,Y⟩=false:=by simp[Ig,h2]
 have z3:w1.frozen? ⟨w.heap.size+1,3,Y⟩=false:=by simp[Ig,h2]
 have z4:w1.frozen? ⟨w.heap.size+1,4,Y⟩=false:=by simp[Ig,h2]
 have iX:=(Ia.1 h2).1;clear ez bb iL al h2 oX hc;rcases zL with⟨rfl,HF⟩|⟨i,hi,rfl,HF⟩
 .have HO:Hid (eD ms t=dm/\(du ms t).isSome=false):=⟨uA HF.out,by rw[HF.out];rfl⟩
  go_wp2_with fail;refine Ix (v:=Il #[Im #[I ⟨#[]⟩,O J 0,O J 0,O J 0,AI false],AI false]) ?_ rfl ⟨by rw[HO.out.1,HO.out.2];rfl,?_⟩
  .simp[results,Tryz.results104,go_sem,r0,r1,r2,r3,r4]
  exact((((HB.out.setCell (p:=⟨w.heap.size+1,0,Y⟩) (by simp) _).setCell (p:=⟨w.heap.size+1,1,Y⟩) (by simp) _).setCell (p:=⟨w.heap.size+1,2,Y⟩) (by simp) _).setCell (p:=⟨w.heap.size+1,3,Y⟩) (by simp) _).setCell (p:=⟨w.heap.size+1,4,Y⟩) (by simp) _
 .have HO:Hid (eD ms t=ms.getD i dm/\(du ms t).isSome=true):=⟨kG HF.out,by rw[HF.out];rfl⟩
  obtain⟨pa',ca,he,_,ha⟩:=WD.out;simp only[Value.slice.injEq] at he;obtain⟨rfl,hN,rfl⟩:=he;obtain⟨b2,off,lP,eY,hr⟩:∃b off,pm=Z ⟨b,off,Y⟩/\b<w1.heap.size/\Row w1 b off ms:=by
   rcases ha with h|h
   .rw[h] at hN;simp at hN;omega
   .exact h
  subst lP;obtain⟨c0,c1,c2,c3,c4⟩:=hr i (by omega);clear hr hN ha HF;generalize ms.getD i dm=mk at *;obtain⟨mn,st,lf,ad,sv⟩:=mk;simp only at c0 c1 c2 c3 c4;go_wp2_with fail;refine Ix (v:=Il #[Im #[I mn,O J st,O J lf,O J ad,AI sv],AI true]) ?_ rfl ⟨by rw[HO.out.1,HO.out.2],?_⟩
  .simp[results,Tryz.results104,go_sem,r0,r1,r2,r3,r4]
  exact((((HB.out.setCell (p:=⟨w.heap.size+1,0,Y⟩) (by simp) _).setCell (p:=⟨w.heap.size+1,1,Y⟩) (by simp) _).setCell (p:=⟨w.heap.size+1,2,Y⟩) (by simp) _).setCell (p:=⟨w.heap.size+1,3,Y⟩) (by simp) _).setCell (p:=⟨w.heap.size+1,4,Y⟩) (by simp) _
def dz(ms:List Mem)(r:bE):Bool:=match du ms r.m.name with
 |none=>true
 |some k=>cP r.m k==0&&jG r.m k
theorem Bj(b:Nat)(pm:Option Addr)(nm cm:Nat)(ms:List Mem)(r:bE)(w:World)(hc:w.cell? ⟨b,2,Y⟩=Z (U pm nm cm))(hm:Sl w (U pm nm cm) ms)(hn:nm<=1000)(hr:r.m.name.size<=Ij) :
 Calls be 133 #[If (Z ⟨b,0,Y⟩),Im #[I r.m.name,O J r.m.state,O J r.m.aX,O J r.m.addr,AI r.m.server,O J r.told]] w λe w'=>e=sh (AI (dz ms r))/\Below w.heap.size w w':=by
 have hb:=IH w _ hc;have HS:Hid (∀m,du ms r.m.name=Z m->m.name.size<=Ij):=λm h=>by
  obtain⟨a,c,he,hs,_⟩:=hm;exact cZ hs m (o5 h).1
 have HD:Hid (dz ms r=match du ms r.m.name with
  |none=>true
  |some k=>cP r.m k==0&&jG r.m k):=rfl
 generalize dz ms r=res at *;obtain⟨W,hW,ez,-,hg⟩:=cR w #[I r.m.name,O J r.m.state,O J r.m.aX,O J r.m.addr,AI r.m.server,O J r.told] 95;have HCW:Hid (Calls be 104 #[If (Z ⟨b,0,Y⟩),I r.m.name] W λe w'=>e=sh (Il #[Im #[I (eD ms r.m.name).name,O J (eD ms r.m.name).state,O J (eD ms r.m.name).aX,O J (eD ms r.m.name).addr,AI (eD ms r.m.name).server],AI (du ms r.m.name).isSome])/\Below W.heap.size W w'):=
  jW b pm nm cm ms r.m.name W (by rw[ez.cell (p:=⟨b,2,Y⟩) hb];exact hc) (hm.below ez) hn
 have x0:=af hg 0;have oX:W.heap.size=w.heap.size+1:=by rw[hW];simp
 clear hc hm;go_enter Tryz.func133,Tryz.ntmps133;go_wp2_with fail;rw[<- hW];clear hW;refine HCW.out.mono ?_;rintro e w1 ⟨rfl,al⟩;have bb:=(al.block _ (by omega)).trans hg;have y0:=af bb 0;have y1:=af bb 1;have y2:=af bb 2;have y3:=af bb 3;have y4:=af bb 4;have gI:=(Ia.1 bb).1;have aR:Hid _:=ez.trans (al.mono (by omega));clear al bb hg ez HCW x0;rcases hf:du ms r.m.name with _|k
 .have HR:Hid _:=HD.out.trans (by rw[hf])
  have Gh:=uA hf;rw[Gh];clear hf Gh;go_wp2_with fail;go_ret;exact⟨aD HR.out.symm,aR.out.alloc aR.out.size _⟩
 .have HR:Hid (res=(cP r.m k==0&&jG r.m k)):=HD.out.trans (by rw[hf])
  have hk:=HS.out k hf;have Gh:eD ms r.m.name=k:=kG hf;rw[Gh];clear hf Gh;have HN:Hid (∀W,Calls be 188 #[Im #[I r.m.name,O J r.m.state,O J r.m.aX,O J r.m.addr,AI r.m.server],Im #[I k.name,O J k.state,O J k.aX,O J k.addr,AI k.server]] W λe w'=>e=sh (Il #[AI (cP r.m k==0&&jG r.m k),O J (cP r.m k)])/\Below W.heap.size W w'):=λW=>oB r.m k W hr hk;generalize(cP r.m k==0&&jG r.m k)=q at *;go_wp2_with fail;refine(HN.out _).mono ?_;rintro e w2 ⟨rfl,aC⟩;have bw:Hid (Below w.heap.size w w2):=(aR.out.alloc aR.out.size _).trans (aC.mono (by have:=aR.out.size;simp;omega));clear aC;go_wp2_with fail;go_ret;exact⟨aD HR.out.symm,bw.out⟩
theorem DP(b:Nat)(pm:Option Addr)(nm cm:Nat)(ms:List Mem)(rs:List bE)(v:Value)(w:World)(hv:mj w v rs)(hc:w.cell? ⟨b,2,Y⟩=Z (U pm nm cm))(hm:Sl w (U pm nm cm) ms)(hn:nm<=1000)(CK:rs.length<=1000) :
 Calls be 187 #[v,IZ (.func 133) #[If (Z ⟨b,0,Y⟩)] #[]] w λe w'=>
  ((e=sh (O J (-1))/\Hid (rs.any (dz ms)=false))\/(∃i:Nat,i<rs.length/\e=sh (O J i)/\Hid (rs.any (dz ms)=true)))/\Below w.heap.size w w':=by
 obtain⟨pa,ca,rfl,hs,ha⟩:=hv;have hb:=IH w _ hc;have HA:Hid _:=ha;have HS:Hid _:=hs;have HI:Hid (∀W,Below w.heap.size w W->∀r:bE,r.m.name.size<=Ij->Calls be 133 #[If (Z ⟨b,0,Y⟩),Im #[I r.m.name,O J r.m.state,O J r.m.aX,O J r.m.addr,AI r.m.server,O J r.told]] W λe w'=>e=sh (AI (dz ms r))/\Below W.heap.size W w'):=λW hW r hr=>
  Bj b pm nm cm ms r W (by rw[hW.cell (p:=⟨b,2,Y⟩) hb];exact hc) (hm.below hW) hn hr
 clear ha hs hc hm;generalize hN:rs.length=n at *;have HN:Hid _:=hN;clear hN;go_enter Tryz.func187,Tryz.ntmps187;go_wp2_with fail;go_loopw [8] (λi wr=>∃k:Nat,k<=n/\i=O J k/\Hid (∀j,j<k->dz ms (rs.getD j dr)=false)/\Hid (Below w.heap.size w wr)) (λi _=>n-(intOf i).toNat)
 case atStart=>exact⟨0,II _,rfl,λj hj=>by omega,Ib _ _⟩
 case round=>
  obtain⟨k,hk,rfl,HZ,HB⟩:=hrel;by_cases aL:k<n
  .obtain⟨b2,off,lP,eY,hr⟩:∃b off,pa=Z ⟨b,off,Y⟩/\b<w.heap.size/\mi w b off rs:=by
    rcases HA.out with h|h
    .have:=HN.out;rw[h] at this;simp at this;omega
    .exact h
   subst lP;obtain⟨c0,c1,c2,c3,c4,c5⟩:=hr.below HB.out eY k (by rw[HN.out];exact aL);clear hr;have ft:=HS.out k;have HY:Hid (dz ms (rs.getD k dr)=true->rs.any (dz ms)=true):=λh=>by
    rw[show rs.getD k dr=rs[k]'(by rw[HN.out];exact aL) by simp[Io,Ic (show k<rs.length by rw[HN.out];exact aL)]] at h;exact List.any_eq_true.2 ⟨_,List.getElem_mem _,h⟩
   have iS:Hid (dz ms (rs.getD k dr)=false->∀j,j<k+1->dz ms (rs.getD j dr)=false):=λh j hj=>by
    by_cases e:j=k
    .subst e;exact h
    .exact HZ.out j (by omega)
   have HF:Hid (∀W,Below w.heap.size w W->Calls _ _ _ _ _):=λW hW=>HI.out W hW _ ft;generalize hah:dz ms (rs.getD k dr)=ah at *;clear hah;generalize rs.getD k dr=rk at *;obtain⟨⟨mn,st,lf,ad,sv⟩,td⟩:=rk;simp only at c0 c1 c2 c3 c4 c5 HF;clear HZ;have bA:=HB.out.size;cases ah
   .have mr:Hid _:=iS.out rfl
    clear HY iS;go_wp2_with fail;refine(HF.out _ HB.out).mono ?_;rintro e w1 ⟨rfl,al⟩;have aR:Hid _:=HB.out.trans (al.mono bA);clear al;go_wp2_with fail;go_roundw
    case rel=>exact⟨k+1,by omega,by go_num,mr,aR⟩
    case measure=>simp[intOf];omega
   .have HR:Hid _:=HY.out rfl
    clear HY iS;go_wp2_with fail;refine(HF.out _ HB.out).mono ?_;rintro e w1 ⟨rfl,al⟩;have aR:Hid _:=HB.out.trans (al.mono bA);clear al;go_wp2_with fail;go_ret;exact⟨.inr ⟨k,aL,rfl,HR⟩,aR.out⟩
  .have mr:Hid (rs.any (dz ms)=false):=by
    rcases h:rs.any (dz ms) with _|_
    .rfl
    .obtain⟨r,hr,h2⟩:=List.any_eq_true.1 h
     obtain⟨j,hj,rfl⟩:=List.getElem_of_mem hr;have h3:=HZ.out j (by have:=HN.out;omega);rw[show rs.getD j dr=rs[j] by simp[Io,Ic hj],h2] at h3;cases h3
   clear HZ;go_wp2_with fail;go_ret;exact⟨.inl ⟨rfl,mr⟩,HB.out⟩
theorem yZ(b:Nat)(pm:Option Addr)(nm cm:Nat)(ms:List Mem)(rs:List bE)(v:Value)(w:World)(hv:mj w v rs)(hc:w.cell? ⟨b,2,Y⟩=Z (U pm nm cm))(hm:Sl w (U pm nm cm) ms)(hn:nm<=1000)(CK:rs.length<=1000) :
 Calls be 132 #[v,IZ (.func 133) #[If (Z ⟨b,0,Y⟩)] #[]] w λe w'=>e=sh (AI (rs.any (dz ms)))/\Below w.heap.size w w':=by
 have HI:Hid (Calls be 187 #[v,IZ (.func 133) #[If (Z ⟨b,0,Y⟩)] #[]] w λe w'=>
  ((e=sh (O J (-1))/\Hid (rs.any (dz ms)=false))\/(∃i:Nat,i<rs.length/\e=sh (O J i)/\Hid (rs.any (dz ms)=true)))/\Below w.heap.size w w'):=DP b pm nm cm ms rs v w hv hc hm hn CK
 clear hv hc hm;generalize rs.any (dz ms)=q at *;go_enter Tryz.func132,Tryz.ntmps132;go_wp2_with fail;refine HI.out.mono ?_;rintro e w1 ⟨zL,al⟩;have HB:Hid _:=al;clear al;rcases zL with⟨rfl,HF⟩|⟨i,hi,rfl,HF⟩
 .go_wp2_with fail
  go_ret;exact⟨aD HF.out.symm,HB.out⟩
 .go_wp2_with fail
  go_ret;exact⟨aD HF.out.symm,HB.out⟩
end Go.Proofs.YtfidjlcdlakceaaGreatDoor
