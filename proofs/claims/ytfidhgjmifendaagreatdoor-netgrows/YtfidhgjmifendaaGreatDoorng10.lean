import Derived.Test.YtfidhgjmifendaaGreatDoorng7
import Derived.Test.YtfidhgjmifendaaGreatDoorng9
set_option maxHeartbeats 6400000
set_option maxRecDepth 100000
open ByteArray renaming empty→Iw
open Go.Maps renaming has→QK,size→JA
open Go.IntKind renaming i64→O
open Go.Proofs.Tryz renaming prog→AS,underlying125→Jy,underlying3→IF
open Go renaming plainElem→O3
open Go.Value renaming slice→J,int→U,string→Y
open Nat renaming le_refl→Ic
namespace Go.Proofs.YtfidhgjmifendaaGreatDoor
open Go.RowKit Go.WideMaps Go.Maps
def lr(ms:List Mem):List ByteArray:=ms.map (·.name)
theorem ie(ms:List Mem)(k:Nat):(lr ms).getD k Iw=(ms.getD k dm).name:=by
 by_cases h:k<ms.length
 .simp[lr,List.getD,List.getElem?_eq_getElem h]
 .simp[lr,List.getD,List.getElem?_eq_none (by omega:ms.length<=k),dm]
structure CB(D:DataW Unit)(ns:List ByteArray)(k:Nat):Prop where
 tidy:Tidy D
 has:∀s,QK D (kS s)=QK (Dm ns k) (kS s)
 size:JA D=JA (Dm ns k)
 val:∀s,∃c:Int,D.atKey (kS s) (.lit (.int O 0))=.lit (.int O c)/\0<=c/\c<=k
theorem yt(ns:List ByteArray):CB (.map []) ns 0:=⟨tidy_empty,λ_=>rfl,rfl,λ_=>⟨0,rfl,Int.le_refl _,Int.le_refl _⟩⟩
theorem yu{D:DataW Unit}{ns:List ByteArray}{k:Nat}(h:CB D ns k){c:Int}(hc:D.atKey (kS (ns.getD k Iw)) (.lit (.int O 0))=.lit (.int O c)) :
 0<=c/\c<=k/\CB (D.put (kS (ns.getD k Iw)) (.lit (.int O (c+1)))) ns (k+1):=by
 obtain⟨c',hc',h0,h1⟩:=h.val (ns.getD k Iw);rw[hc] at hc';have e:c=c':=by injection hc' with h;injection h
 subst e;refine⟨h0,h1,h.tidy.put (nS _) _,λs=>?_,?_,λs=>?_⟩
 .by_cases e:ns.getD k Iw=s
  .subst e;rw[has_put_same h.tidy.isMap (nS _),Dm,has_put_same (oR ns k).isMap (nS _)]
  .rw[has_put_other (yx (Ne.symm e)),Dm,has_put_other (yx (Ne.symm e))];exact h.has s
 .rw[size_put h.tidy,rV,h.has,h.size]
 .by_cases e:ns.getD k Iw=s
  .subst e;exact⟨c+1,by rw[atKey_put_same h.tidy.isMap (nS _)],by omega,by omega⟩
  .rw[atKey_put_other (yx (Ne.symm e))]
   obtain⟨d,hd,d0,d1⟩:=h.val s;exact⟨d,hd,d0,by omega⟩
theorem RI{D:DataW Unit}{ms:List Mem}(h:CB D (lr ms) ms.length)(hd:¬ mq ms):JA D<ms.length:=by
 rw[h.size];apply lu;apply Classical.byContradiction;intro hx;apply hd;intro i j jG hj e;exact hx ⟨i,j,jG,hj,by rw[ie,ie];exact e⟩
theorem RJ{D:DataW Unit}{ms:List Mem}(h:CB D (lr ms) ms.length)(hd:mq ms):JA D=ms.length:=by
 rw[h.size];exact lv _ _ (λi j jG hj=>by rw[ie,ie];exact hd i j jG hj)
theorem sC{w w':World}{b n:Nat}{D:DataW Unit}(h:w.ownsMap AS 9 (O3 (H:=Unit) AS 3) b n D)(hb:Below w.heap.size w w'):w'.ownsMap AS 9 (O3 (H:=Unit) AS 3) b n D:=by
 have hl:=h.lt;obtain⟨es,clock,h1,h2⟩:=h;exact⟨es,clock,(hb.block b hl).trans h1,h2⟩
theorem row_one{w:World}{b off:Nat}{ms:List Mem}(hr:Row w b off ms){k:Nat}(hk:k<ms.length):Row w b (off+k*5) [ms.getD k dm]:=λj hj=>by
 have:j=0:=by simpa using hj
 subst this;simpa using hr k hk
def Roomy(v:Value):Prop:=match v with
 | J _ n c=>n<=c
 |_=>True
theorem uF(ms:List Mem)(v:Value)(w:World)(hv:Sl w v ms)(du:Roomy v) :
 Calls AS 104 #[v] w λe w'=>e=.returned (U O (lx ms))/\Below w.heap.size w w':=by
 obtain⟨pa,ca,rfl,cC,ha⟩:=hv;have ajJ:ms.length<=ca:=du;clear du;by_cases hmany:5<ms.length
 .have HE:Hid (lx ms=2):=DL hmany
  go_enter Tryz.func104,Tryz.ntmps104;go_wp2_with fail;go_ret;exact⟨ai HE.out.symm,Below.refl _ _⟩
 have HA:Hid _:=ha;have HS:Hid (∀j,(ms.getD j dm).name.size<=maxLen):=cC;clear ha cC;generalize hN:ms.length=n at *;have HN:Hid (ms.length=n):=hN;clear hN;have hn5:n<=5:=by omega
 have Ml:=iW;go_enter Tryz.func104,Tryz.ntmps104;go_wp2;go_loopw [15] (λi wr=>∃k:Nat,k<=n/\i=U O k/\Hid (∀j,j<k->(ms.getD j dm).e=0)/\Hid (∃D,wr.ownsMap AS 9 (O3 (H:=Unit) AS 3) w.heap.size k D/\CB D (lr ms) k)/\Hid (Below w.heap.size w wr)) (λi _=>n-(intOf i).toNat)
 case atStart=>exact⟨0,Nat.zero_le _,rfl,λj hj=>by omega,⟨_,World.ownsMap_made _ _ _ _,yt _⟩,(Below.refl _ _).alloc (Ic _) _⟩
 case round=>
  obtain⟨k,hk,rfl,HZ,HD,HB⟩:=hrel;obtain⟨D,HO,HC⟩:=HD.out;have HO:Hid (wr.ownsMap AS 9 (O3 (H:=Unit) AS 3) w.heap.size k D):=HO;have HC:Hid (CB D (lr ms) k):=HC;clear HD;by_cases aR:k<n
  .obtain⟨b,off,hp,hl,hr⟩:∃b off,pa=some ⟨b,off,none⟩/\b<w.heap.size/\Row w b off ms:=by
    rcases HA.out with h|h
    .have:=HN.out;rw[h] at this;simp at this;omega
    .exact h
   subst hp;have qU:=hr.later HB.out hl;obtain⟨c0,c1,c2,c3,c4⟩:=qU k (by rw[HN.out];exact aR);have dy:=HS.out k;have HX:Hid ((ms.getD k dm).e≠0->lx ms=(ms.getD k dm).e):=λh=>RM (by rw[HN.out];exact hn5) (by rw[HN.out];exact aR) HZ.out h;have ly:Hid ((ms.getD k dm).e=0->∀j,j<k+1->(ms.getD j dm).e=0):=λh j hj=>by
    by_cases e:j=k
    .subst e;exact h
    .exact HZ.out j (by omega)
   have yy:Hid (Row wr b (off+k*5) [ms.getD k dm]):=row_one qU (by rw[HN.out];exact aR);have HG:Hid (∀(c:Int),D.atKey (kS (ms.getD k dm).name) (.lit (.int O 0))=.lit (.int O c)->0<=c/\c<=k/\CB (D.put (kS (ms.getD k dm).name) (.lit (.int O (c+1)))) (lr ms) (k+1)):=λc hc=>by
    have h:=yu HC.out (c:=c) (by rw[ie];exact hc);rw[ie] at h;exact h
   have cC:=HB.out.size;generalize(ms.getD k dm)=mk at *;have mr:Hid (∀W,Below wr.heap.size wr W->∀cc,Calls AS 70 #[J (some ⟨b,off+k*5,none⟩) 1 cc] W λe w'=>e=.returned (U O mk.e)/\Below W.heap.size W w'):=λW hW cc=>by
    have h:=bo [mk] (J (some ⟨b,off+k*5,none⟩) 1 cc) W ⟨_,cc,rfl,cy (λx hx=>by simp at hx;subst hx;exact dy),.inr ⟨b,_,rfl,by have:=hW.size;omega,yy.out.later hW (by omega)⟩⟩;rw[jJ] at h;exact h
   obtain⟨nm,st,lf,ad,sv⟩:=mk;simp only at c0 c1 c2 c3 c4 dy HX ly HG mr;have yz:keyOf AS 9 (Y nm)=some (kS nm):=keyOf_string_mk Tryz.underlying9 dy;clear hr qU HZ yy;have gK:(k:Int)<n:=by omega
   have hkc:(k:Int)+1<=(ca:Int):=by omega
   go_wp2_with fail;refine(mr.out _ ((Below.refl _ _).alloc (Ic _) _) _).mono ?_;rintro e w1 ⟨rfl,aB⟩;have lz:Hid (w1.ownsMap _ _ _ _ _ _):=sC (HO.out.alloc _) aB;have aY:Hid _:=(HB.out.alloc HB.out.size _).trans (aB.mono (by simp;omega));have hm0:w1.cell? ⟨wr.heap.size,0,none⟩=some (Y nm):=(aB.cell (p:=⟨wr.heap.size,0,none⟩) (by simp)).trans (by simp);clear aB c0 c1 c2 c3 c4 HB HO mr;by_cases he:(Mem.mk nm st lf ad sv).e=0
   .have kG:((Mem.mk nm st lf ad sv).e !=0)=false:=by simpa using he
    have pZ:Hid _:=ly.out he;clear HX ly he;generalize(Mem.mk nm st lf ad sv).e=me at *;obtain⟨c,jK,cH,_⟩:=lz.out.lookup_int DM Jy IF (AK _) yz;obtain⟨g0,g1,g2⟩:=HG.out c cH;have wC:Hid _:=g2;clear g2 cH HG;go_wp2_with (first
     |(at_mapUpdate;refine wpList_mapUpdate_own _ rfl _ _ _ 125 rfl 9 3 DM Jy _ w.heap.size k _ rfl lz.out (by unfold maxLen;omega) _ _ _ rfl rfl yz _ [] (plainElem_int IF (WalkArith.wf_i64 (by omega))) ?_)
     |fail)
    intro w2 yA sD;have R1:Hid (∃D,w2.ownsMap AS 9 (O3 (H:=Unit) AS 3) w.heap.size (k+1) D/\CB D (lr ms) (k+1)):=⟨_,yA,wC.out⟩;have R2:Hid _:=aY.out.grown sD aY.out.size (λj hj=>by cases hj;exact Ic _);clear yA sD lz aY;go_wp2_with fail;go_roundw
    case rel=>exact⟨k+1,by omega,by go_num,pZ,R1,R2⟩
    case measure=>simp[intOf];omega
   .have kG:((Mem.mk nm st lf ad sv).e !=0)=true:=by simpa using he
    have HR:Hid _:=HX.out he;generalize(Mem.mk nm st lf ad sv).e=me at *;clear he HX ly;go_wp2_with fail;go_ret;exact⟨ai HR.out.symm,aY.out⟩
  .have gK:k=n:=by omega
   subst gK;have iL:Hid (JA D<k↔¬ mq ms):=by
    have h1:=HC.out;rw[<- HN.out] at h1 ⊢;exact⟨λh hd=>by rw[RJ h1 hd] at h;omega,λhd=>RI h1 hd⟩
   have wD:Hid (¬ mq ms->lx ms=6):=λhd=>AL (by rw[HN.out];exact hn5) (λj hj=>HZ.out j (by rw[<- HN.out];exact hj)) hd;have kx:Hid (mq ms->lx ms=0):=λhd=>CC (by rw[HN.out];exact hn5) (λj hj=>HZ.out j (by rw[<- HN.out];exact hj)) hd;by_cases hd:mq ms
   .have HE:Hid _:=kx.out hd
    have hs:¬ ((JA D:Int)<(k:Int)):=by have:=iL.out;intro h;exact(this.1 (by omega)) hd
    clear wD kx hd iL HZ;go_wp2_with (at_len;refine wpList_len_own _ rfl _ 125 rfl 9 3 Jy _ _ _ _ rfl HO.out ?_);go_ret;exact⟨ai HE.out.symm,HB.out⟩
   .have HE:Hid _:=wD.out hd
    have hs:((JA D:Int)<(k:Int)):=by have:=iL.out.2 hd;omega
    clear wD kx hd iL HZ;go_wp2_with (at_len;refine wpList_len_own _ rfl _ 125 rfl 9 3 Jy _ _ _ _ rfl HO.out ?_);go_ret;exact⟨ai HE.out.symm,HB.out⟩
structure jY(w:World)(p:Pk)(vm vs vg vw:Value):Prop where
 ms:Sl w vm p.ms
 sv:Sv.Sl w vs p.sv
 gw:Gw.Sl w vg p.gw
 wh:Wh.Sl w vw p.wh
 cT:p.cT.size<=maxLen
 room:Roomy vm
theorem jY.below{w w':World}{p:Pk}{vm vs vg vw:Value}(h:jY w p vm vs vg vw)(hb:Below w.heap.size w w'):jY w' p vm vs vg vw:=⟨h.ms.below hb,h.sv.below hb,h.gw.below hb,h.wh.below hb,h.cT,h.room⟩
theorem mu{α:Type}(l:List α):l.isEmpty=decide (l.length=0):=by cases l<;>simp
theorem lA(p:Pk)(vm vs vg vw:Value)(w:World)(h:jY w p vm vs vg vw)(hlen:p.whole=true\/p.sv.length+p.gw.length+p.wh.length<=4611686018427387904) :
 Calls AS 62 #[.agg #[Y p.cT,.bool p.whole,vm,vs,vg,vw]] w λe w'=>e=.returned (U O p.e)/\Below w.heap.size w w':=by
 obtain⟨cT,whole,ms,sv,gw,wh⟩:=p;obtain⟨hU,LL,wF,Mm,LM,du⟩:=h;simp only at hU LL wF Mm LM hlen ⊢;have HM1:Hid (∀W,Below w.heap.size w W->Calls _ _ _ _ _):=λW hW=>bo ms vm W (hU.below hW);have HM2:Hid (∀W,Below w.heap.size w W->Calls _ _ _ _ _):=λW hW=>uF ms vm W (hU.below hW) du;have HS:Hid (∀W,Below w.heap.size w W->Calls _ _ _ _ _):=λW hW=>Sv.bo sv vs W (LL.below hW);have HG:Hid (∀W,Below w.heap.size w W->Calls _ _ _ _ _):=λW hW=>Gw.bo gw vg W (wF.below hW);have HW:Hid (∀W,Below w.heap.size w W->Calls _ _ _ _ _):=λW hW=>Wh.bo wh vw W (Mm.below hW);have HE:Hid (Pk.e ⟨cT,whole,ms,sv,gw,wh⟩=if(ba cT&&(whole||(decide (sv.length=0)&&(decide (gw.length=0)&&decide (wh.length=0)))))=true then
  (if(if whole=true then bj ms else lx ms)=0 then(if Sv.bj sv=0 then(if Gw.bj gw=0 then Wh.bj wh else Gw.bj gw) else Sv.bj sv) else(if whole=true then bj ms else lx ms)) else 1):=by
  show Pk.e _=_;rw[<- mu,<- mu,<- mu];rfl
 generalize Pk.e ⟨cT,whole,ms,sv,gw,wh⟩=res at *;obtain⟨a2,c2,rfl,_,_⟩:=LL;obtain⟨a3,c3,rfl,_,_⟩:=wF;obtain⟨a4,c4,rfl,_,_⟩:=Mm;clear hU du;generalize Sv.bj sv=se at *;generalize Gw.bj gw=ge at *;generalize Wh.bj wh=we at *;generalize bj ms=m1 at *;generalize lx ms=m2 at *;generalize sv.length=n2 at *;generalize gw.length=n3 at *;generalize wh.length=n4 at *;obtain⟨W0,bA,bM,-,dF⟩:=bV w #[Y cT,.bool whole,vm,J a2 n2 c2,J a3 n3 c3,J a4 n4 c4] 53;have eE:w.heap.size<W0.heap.size:=by rw[bA];simp
 have cY:Hid _:=bM;have AM:Hid _:=dF;have HX:Hid (∀W,Below W0.heap.size W0 W->(W.cell? ⟨w.heap.size,2,none⟩=some vm/\W.cell? ⟨w.heap.size,3,none⟩=some (J a2 n2 c2)/\W.cell? ⟨w.heap.size,4,none⟩=some (J a3 n3 c3)/\W.cell? ⟨w.heap.size,5,none⟩=some (J a4 n4 c4))/\Below w.heap.size w W):=λW hW=>
  have hg:=(hW.block _ eE).trans dF
  ⟨⟨ae hg 2,ae hg 3,ae hg 4,ae hg 5⟩,bM.trans (hW.mono (by omega))⟩
 have jW:Hid (∀W W',Below W0.heap.size W0 W->Below W.heap.size W W'->Below W0.heap.size W0 W'):=λW W' h1 h2=>h1.trans (h2.mono h1.size);go_enter Tryz.func62,Tryz.ntmps62;rcases hlab:ba cT with _|_
 .have HR:Hid (res=1):=HE.out.trans (by rw[hlab];rfl)
  go_wp2_with (go_at_call 53;refine(bQ _ _ LM).mono ?_;rintro e w' ⟨rfl,rfl⟩;rw[hlab]);go_ret;exact⟨ai HR.out.symm,(Below.refl _ _).alloc (Ic _) _⟩
 .cases whole
  .by_cases hal:n2=0/\n3=0/\n4=0
   .obtain⟨rfl,rfl,rfl⟩:=hal
    have kx:Hid (res=if m2=0 then(if se=0 then(if ge=0 then we else ge) else se) else m2):=HE.out.trans (by rw[hlab];rfl);clear HE HM1;go_wp2_with (first|(go_at_call 53;refine(bQ _ _ LM).mono ?_;rintro e w' ⟨rfl,rfl⟩;rw[hlab])|fail);rw[<- bA];refine(HM2.out _ cY.out).mono ?_;rintro e w1 ⟨rfl,aB⟩;obtain⟨⟨x2,x3,x4,x5⟩,GI⟩:=HX.out w1 aB;have aY:Hid _:=aB;have iM:Hid _:=GI;clear aB GI;by_cases hm:m2=0
    .subst hm
     go_wp2_with fail;refine(HS.out _ iM.out).mono ?_;rintro e w2 ⟨rfl,aI⟩;have bp:Hid _:=jW.out _ _ aY.out aI;clear x2 x3 x4 x5 aI;obtain⟨⟨x2,x3,x4,x5⟩,yB⟩:=HX.out w2 bp.out;have oS:Hid _:=yB;clear yB;by_cases hse:se=0
     .subst hse
      go_wp2_with fail;refine(HG.out _ oS.out).mono ?_;rintro e w3 ⟨rfl,bU⟩;have cF:Hid _:=jW.out _ _ bp.out bU;clear x2 x3 x4 x5 bU;obtain⟨⟨x2,x3,x4,x5⟩,GJ⟩:=HX.out w3 cF.out;have oT:Hid _:=GJ;clear GJ;by_cases yC:ge=0
      .subst yC
       go_wp2_with fail;refine(HW.out _ oT.out).mono ?_;rintro e w4 ⟨rfl,eP⟩;have yD:Hid _:=oT.out.trans (eP.mono oT.out.size);clear eP;go_wp2_with fail;go_ret;exact⟨ai kx.out.symm,yD.out⟩
      .have Vp:(ge !=0)=true:=by simpa using yC
       have HR:Hid (res=ge):=kx.out.trans (by simp[yC]);clear yC;go_wp2_with fail;go_ret;exact⟨ai HR.out.symm,oT.out⟩
     .have Vq:(se !=0)=true:=by simpa using hse
      have HR:Hid (res=se):=kx.out.trans (by simp[hse]);clear hse;go_wp2_with fail;go_ret;exact⟨ai HR.out.symm,oS.out⟩
    .have hm':(m2 !=0)=true:=by simpa using hm
     have HR:Hid _:=kx.out.trans (if_neg hm);clear hm;go_wp2_with fail;go_ret;exact⟨ai HR.out.symm,iM.out⟩
   .have HR:Hid (res=1):=HE.out.trans (by
     rw[hlab,if_neg];simp only[Bool.true_and,Bool.false_or,Bool.and_eq_true,decide_eq_true_eq];exact hal)
    have hlen:n2+n3+n4<=4611686018427387904:=by
     rcases hlen with h|h
     .cases h
     .exact h
    have ajM:(0:Int)<(n2:Int)+(n3:Int)+(n4:Int):=by omega
    go_wp2_with (go_at_call 53;refine(bQ _ _ LM).mono ?_;rintro e w' ⟨rfl,rfl⟩;rw[hlab]);go_ret;exact⟨ai HR.out.symm,(Below.refl _ _).alloc (Ic _) _⟩
  .have kx:Hid (res=if m1=0 then(if se=0 then(if ge=0 then we else ge) else se) else m1):=HE.out.trans (by rw[hlab];rfl)
   clear HE HM2;go_wp2_with (first|(go_at_call 53;refine(bQ _ _ LM).mono ?_;rintro e w' ⟨rfl,rfl⟩;rw[hlab])|fail);rw[<- bA];refine(HM1.out _ cY.out).mono ?_;rintro e w1 ⟨rfl,aB⟩;obtain⟨⟨x2,x3,x4,x5⟩,GI⟩:=HX.out w1 aB;have aY:Hid _:=aB;have iM:Hid _:=GI;clear aB GI;by_cases hm:m1=0
   .subst hm
    go_wp2_with fail;refine(HS.out _ iM.out).mono ?_;rintro e w2 ⟨rfl,aI⟩;have bp:Hid _:=jW.out _ _ aY.out aI;clear x2 x3 x4 x5 aI;obtain⟨⟨x2,x3,x4,x5⟩,yB⟩:=HX.out w2 bp.out;have oS:Hid _:=yB;clear yB;by_cases hse:se=0
    .subst hse
     go_wp2_with fail;refine(HG.out _ oS.out).mono ?_;rintro e w3 ⟨rfl,bU⟩;have cF:Hid _:=jW.out _ _ bp.out bU;clear x2 x3 x4 x5 bU;obtain⟨⟨x2,x3,x4,x5⟩,GJ⟩:=HX.out w3 cF.out;have oT:Hid _:=GJ;clear GJ;by_cases yC:ge=0
     .subst yC
      go_wp2_with fail;refine(HW.out _ oT.out).mono ?_;rintro e w4 ⟨rfl,eP⟩;have yD:Hid _:=oT.out.trans (eP.mono oT.out.size);clear eP;go_wp2_with fail;go_ret;exact⟨ai kx.out.symm,yD.out⟩
     .have Vp:(ge !=0)=true:=by simpa using yC
      have HR:Hid (res=ge):=kx.out.trans (by simp[yC]);clear yC;go_wp2_with fail;go_ret;exact⟨ai HR.out.symm,oT.out⟩
    .have Vq:(se !=0)=true:=by simpa using hse
     have HR:Hid (res=se):=kx.out.trans (by simp[hse]);clear hse;go_wp2_with fail;go_ret;exact⟨ai HR.out.symm,oS.out⟩
   .have hm':(m1 !=0)=true:=by simpa using hm
    have HR:Hid _:=kx.out.trans (if_neg hm);clear hm;go_wp2_with fail;go_ret;exact⟨ai HR.out.symm,iM.out⟩
end Go.Proofs.YtfidhgjmifendaaGreatDoor
