import Derived.Test.YtfidhgjmifendaaGreatDoornt7
import Derived.Test.YtfidhgjmifendaaGreatDoornt9
set_option maxHeartbeats 6400000
set_option maxRecDepth 100000
open ByteArray renaming empty→Iv
open Go.Maps renaming has→QJ,size→JB
open Go.IntKind renaming i64→O
open Go.Proofs.Tryz renaming prog→AS,underlying125→Jz,underlying3→ID
open Go renaming plainElem→O7
open Go.Value renaming slice→J,int→U,string→Y
open Nat renaming le_refl→Ic
namespace Go.Proofs.YtfidhgjmifendaaGreatDoor
open Go.RowKit Go.WideMaps Go.Maps
def lu(ms:List Mem):List ByteArray:=ms.map (·.name)
theorem ic(ms:List Mem)(k:Nat):(lu ms).getD k Iv=(ms.getD k dm).name:=by
 by_cases h:k<ms.length
 .simp[lu,List.getD,List.getElem?_eq_getElem h]
 .simp[lu,List.getD,List.getElem?_eq_none (by omega:ms.length<=k),dm]
structure CD(D:DataW Unit)(ns:List ByteArray)(k:Nat):Prop where
 tidy:Tidy D
 has:∀s,QJ D (kS s)=QJ (Dm ns k) (kS s)
 size:JB D=JB (Dm ns k)
 val:∀s,∃c:Int,D.atKey (kS s) (.lit (.int O 0))=.lit (.int O c)/\0<=c/\c<=k
theorem yH(ns:List ByteArray):CD (.map []) ns 0:=⟨tidy_empty,λ_=>rfl,rfl,λ_=>⟨0,rfl,Int.le_refl _,Int.le_refl _⟩⟩
theorem yI{D:DataW Unit}{ns:List ByteArray}{k:Nat}(h:CD D ns k){c:Int}(hc:D.atKey (kS (ns.getD k Iv)) (.lit (.int O 0))=.lit (.int O c)) :
 0<=c/\c<=k/\CD (D.put (kS (ns.getD k Iv)) (.lit (.int O (c+1)))) ns (k+1):=by
 obtain⟨c',hc',h0,h1⟩:=h.val (ns.getD k Iv);rw[hc] at hc';have e:c=c':=by injection hc' with h;injection h
 subst e;refine⟨h0,h1,h.tidy.put (nY _) _,λs=>?_,?_,λs=>?_⟩
 .by_cases e:ns.getD k Iv=s
  .subst e;rw[has_put_same h.tidy.isMap (nY _),Dm,has_put_same (oW ns k).isMap (nY _)]
  .rw[has_put_other (yJ (Ne.symm e)),Dm,has_put_other (yJ (Ne.symm e))];exact h.has s
 .rw[size_put h.tidy,sd,h.has,h.size]
 .by_cases e:ns.getD k Iv=s
  .subst e;exact⟨c+1,by rw[atKey_put_same h.tidy.isMap (nY _)],by omega,by omega⟩
  .rw[atKey_put_other (yJ (Ne.symm e))]
   obtain⟨d,hd,d0,d1⟩:=h.val s;exact⟨d,hd,d0,by omega⟩
theorem Rj{D:DataW Unit}{ms:List Mem}(h:CD D (lu ms) ms.length)(hd:¬ mC ms):JB D<ms.length:=by
 rw[h.size];apply lv;apply Classical.byContradiction;intro hx;apply hd;intro i j iY hj e;exact hx ⟨i,j,iY,hj,by rw[ic,ic];exact e⟩
theorem Rk{D:DataW Unit}{ms:List Mem}(h:CD D (lu ms) ms.length)(hd:mC ms):JB D=ms.length:=by
 rw[h.size];exact lz _ _ (λi j iY hj=>by rw[ic,ic];exact hd i j iY hj)
theorem sG{w w':World}{b n:Nat}{D:DataW Unit}(h:w.ownsMap AS 9 (O7 (H:=Unit) AS 3) b n D)(hb:Below w.heap.size w w'):w'.ownsMap AS 9 (O7 (H:=Unit) AS 3) b n D:=by
 have hl:=h.lt;obtain⟨es,clock,h1,h2⟩:=h;exact⟨es,clock,(hb.block b hl).trans h1,h2⟩
theorem row_one{w:World}{b off:Nat}{ms:List Mem}(hr:Row w b off ms){k:Nat}(hk:k<ms.length):Row w b (off+k*5) [ms.getD k dm]:=λj hj=>by
 have:j=0:=by simpa using hj
 subst this;simpa using hr k hk
def Roomy(v:Value):Prop:=match v with
 | J _ n c=>n<=c
 |_=>True
theorem uJ(ms:List Mem)(v:Value)(w:World)(hv:Sl w v ms)(dx:Roomy v) :
 Calls AS 104 #[v] w λe w'=>e=.returned (U O (lA ms))/\Below w.heap.size w w':=by
 obtain⟨pa,ca,rfl,cF,ha⟩:=hv;have aiW:ms.length<=ca:=dx;clear dx;by_cases hmany:5<ms.length
 .have HE:Hid (lA ms=2):=DL hmany
  go_enter Tryz.func104,Tryz.ntmps104;go_wp2_with fail;go_ret;exact⟨ai HE.out.symm,Below.refl _ _⟩
 have HA:Hid _:=ha;have HS:Hid (∀j,(ms.getD j dm).name.size<=maxLen):=cF;clear ha cF;generalize hN:ms.length=n at *;have HN:Hid (ms.length=n):=hN;clear hN;have hn5:n<=5:=by omega
 have GA:=ja;go_enter Tryz.func104,Tryz.ntmps104;go_wp2;go_loopw [15] (λi wr=>∃k:Nat,k<=n/\i=U O k/\Hid (∀j,j<k->(ms.getD j dm).e=0)/\Hid (∃D,wr.ownsMap AS 9 (O7 (H:=Unit) AS 3) w.heap.size k D/\CD D (lu ms) k)/\Hid (Below w.heap.size w wr)) (λi _=>n-(intOf i).toNat)
 case atStart=>exact⟨0,Nat.zero_le _,rfl,λj hj=>by omega,⟨_,World.ownsMap_made _ _ _ _,yH _⟩,(Below.refl _ _).alloc (Ic _) _⟩
 case round=>
  obtain⟨k,hk,rfl,HZ,HD,HB⟩:=hrel;obtain⟨D,HO,HC⟩:=HD.out;have HO:Hid (wr.ownsMap AS 9 (O7 (H:=Unit) AS 3) w.heap.size k D):=HO;have HC:Hid (CD D (lu ms) k):=HC;clear HD;by_cases aW:k<n
  .obtain⟨b,off,hp,hl,hr⟩:∃b off,pa=some ⟨b,off,none⟩/\b<w.heap.size/\Row w b off ms:=by
    rcases HA.out with h|h
    .have:=HN.out;rw[h] at this;simp at this;omega
    .exact h
   subst hp;have rh:=hr.later HB.out hl;obtain⟨c0,c1,c2,c3,c4⟩:=rh k (by rw[HN.out];exact aW);have cV:=HS.out k;have HX:Hid ((ms.getD k dm).e≠0->lA ms=(ms.getD k dm).e):=λh=>Rl (by rw[HN.out];exact hn5) (by rw[HN.out];exact aW) HZ.out h;have lB:Hid ((ms.getD k dm).e=0->∀j,j<k+1->(ms.getD j dm).e=0):=λh j hj=>by
    by_cases e:j=k
    .subst e;exact h
    .exact HZ.out j (by omega)
   have yK:Hid (Row wr b (off+k*5) [ms.getD k dm]):=row_one rh (by rw[HN.out];exact aW);have HG:Hid (∀(c:Int),D.atKey (kS (ms.getD k dm).name) (.lit (.int O 0))=.lit (.int O c)->0<=c/\c<=k/\CD (D.put (kS (ms.getD k dm).name) (.lit (.int O (c+1)))) (lu ms) (k+1)):=λc hc=>by
    have h:=yI HC.out (c:=c) (by rw[ic];exact hc);rw[ic] at h;exact h
   have cF:=HB.out.size;generalize(ms.getD k dm)=mk at *;have nN:Hid (∀W,Below wr.heap.size wr W->∀cc,Calls AS 70 #[J (some ⟨b,off+k*5,none⟩) 1 cc] W λe w'=>e=.returned (U O mk.e)/\Below W.heap.size W w'):=λW hW cc=>by
    have h:=bo [mk] (J (some ⟨b,off+k*5,none⟩) 1 cc) W ⟨_,cc,rfl,cB (λx hx=>by simp at hx;subst hx;exact cV),.inr ⟨b,_,rfl,by have:=hW.size;omega,yK.out.later hW (by omega)⟩⟩;rw[jL] at h;exact h
   obtain⟨nm,st,lf,ad,sv⟩:=mk;simp only at c0 c1 c2 c3 c4 cV HX lB HG nN;have yL:keyOf AS 9 (Y nm)=some (kS nm):=keyOf_string_mk Tryz.underlying9 cV;clear hr rh HZ yK;have fQ:(k:Int)<n:=by omega
   have hkc:(k:Int)+1<=(ca:Int):=by omega
   go_wp2_with fail;refine(nN.out _ ((Below.refl _ _).alloc (Ic _) _) _).mono ?_;rintro e w1 ⟨rfl,aB⟩;have lC:Hid (w1.ownsMap _ _ _ _ _ _):=sG (HO.out.alloc _) aB;have aV:Hid _:=(HB.out.alloc HB.out.size _).trans (aB.mono (by simp;omega));have hm0:w1.cell? ⟨wr.heap.size,0,none⟩=some (Y nm):=(aB.cell (p:=⟨wr.heap.size,0,none⟩) (by simp)).trans (by simp);clear aB c0 c1 c2 c3 c4 HB HO nN;by_cases he:(Mem.mk nm st lf ad sv).e=0
   .have kJ:((Mem.mk nm st lf ad sv).e !=0)=false:=by simpa using he
    have qg:Hid _:=lB.out he;clear HX lB he;generalize(Mem.mk nm st lf ad sv).e=me at *;obtain⟨c,jM,cv,_⟩:=lC.out.lookup_int DM Jz ID (AK _) yL;obtain⟨g0,g1,g2⟩:=HG.out c cv;have wK:Hid _:=g2;clear g2 cv HG;go_wp2_with (first
     |(at_mapUpdate;refine wpList_mapUpdate_own _ rfl _ _ _ 125 rfl 9 3 DM Jz _ w.heap.size k _ rfl lC.out (by unfold maxLen;omega) _ _ _ rfl rfl yL _ [] (plainElem_int ID (WalkArith.wf_i64 (by omega))) ?_)
     |fail)
    intro w2 yM sH;have R1:Hid (∃D,w2.ownsMap AS 9 (O7 (H:=Unit) AS 3) w.heap.size (k+1) D/\CD D (lu ms) (k+1)):=⟨_,yM,wK.out⟩;have R2:Hid _:=aV.out.grown sH aV.out.size (λj hj=>by cases hj;exact Ic _);clear yM sH lC aV;go_wp2_with fail;go_roundw
    case rel=>exact⟨k+1,by omega,by go_num,qg,R1,R2⟩
    case measure=>simp[intOf];omega
   .have kJ:((Mem.mk nm st lf ad sv).e !=0)=true:=by simpa using he
    have HR:Hid _:=HX.out he;generalize(Mem.mk nm st lf ad sv).e=me at *;clear he HX lB;go_wp2_with fail;go_ret;exact⟨ai HR.out.symm,aV.out⟩
  .have fQ:k=n:=by omega
   subst fQ;have iL:Hid (JB D<k↔¬ mC ms):=by
    have h1:=HC.out;rw[<- HN.out] at h1 ⊢;exact⟨λh hd=>by rw[Rk h1 hd] at h;omega,λhd=>Rj h1 hd⟩
   have wL:Hid (¬ mC ms->lA ms=6):=λhd=>AL (by rw[HN.out];exact hn5) (λj hj=>HZ.out j (by rw[<- HN.out];exact hj)) hd;have kz:Hid (mC ms->lA ms=0):=λhd=>CE (by rw[HN.out];exact hn5) (λj hj=>HZ.out j (by rw[<- HN.out];exact hj)) hd;by_cases hd:mC ms
   .have HE:Hid _:=kz.out hd
    have hs:¬ ((JB D:Int)<(k:Int)):=by have:=iL.out;intro h;exact(this.1 (by omega)) hd
    clear wL kz hd iL HZ;go_wp2_with (at_len;refine wpList_len_own _ rfl _ 125 rfl 9 3 Jz _ _ _ _ rfl HO.out ?_);go_ret;exact⟨ai HE.out.symm,HB.out⟩
   .have HE:Hid _:=wL.out hd
    have hs:((JB D:Int)<(k:Int)):=by have:=iL.out.2 hd;omega
    clear wL kz hd iL HZ;go_wp2_with (at_len;refine wpList_len_own _ rfl _ 125 rfl 9 3 Jz _ _ _ _ rfl HO.out ?_);go_ret;exact⟨ai HE.out.symm,HB.out⟩
structure jY(w:World)(p:Pk)(vm vs vg vw:Value):Prop where
 ms:Sl w vm p.ms
 sv:Sv.Sl w vs p.sv
 gw:Gw.Sl w vg p.gw
 wh:Wh.Sl w vw p.wh
 cU:p.cU.size<=maxLen
 room:Roomy vm
theorem jY.below{w w':World}{p:Pk}{vm vs vg vw:Value}(h:jY w p vm vs vg vw)(hb:Below w.heap.size w w'):jY w' p vm vs vg vw:=⟨h.ms.below hb,h.sv.below hb,h.gw.below hb,h.wh.below hb,h.cU,h.room⟩
theorem mD{α:Type}(l:List α):l.isEmpty=decide (l.length=0):=by cases l<;>simp
theorem lD(p:Pk)(vm vs vg vw:Value)(w:World)(h:jY w p vm vs vg vw)(hlen:p.whole=true\/p.sv.length+p.gw.length+p.wh.length<=4611686018427387904) :
 Calls AS 62 #[.agg #[Y p.cU,.bool p.whole,vm,vs,vg,vw]] w λe w'=>e=.returned (U O p.e)/\Below w.heap.size w w':=by
 obtain⟨cU,whole,ms,sv,gw,wh⟩:=p;obtain⟨hJ,Ly,wM,L3,Lz,dx⟩:=h;simp only at hJ Ly wM L3 Lz hlen ⊢;have HM1:Hid (∀W,Below w.heap.size w W->Calls _ _ _ _ _):=λW hW=>bo ms vm W (hJ.below hW);have HM2:Hid (∀W,Below w.heap.size w W->Calls _ _ _ _ _):=λW hW=>uJ ms vm W (hJ.below hW) dx;have HS:Hid (∀W,Below w.heap.size w W->Calls _ _ _ _ _):=λW hW=>Sv.bo sv vs W (Ly.below hW);have HG:Hid (∀W,Below w.heap.size w W->Calls _ _ _ _ _):=λW hW=>Gw.bo gw vg W (wM.below hW);have HW:Hid (∀W,Below w.heap.size w W->Calls _ _ _ _ _):=λW hW=>Wh.bo wh vw W (L3.below hW);have HE:Hid (Pk.e ⟨cU,whole,ms,sv,gw,wh⟩=if(bb cU&&(whole||(decide (sv.length=0)&&(decide (gw.length=0)&&decide (wh.length=0)))))=true then
  (if(if whole=true then bj ms else lA ms)=0 then(if Sv.bj sv=0 then(if Gw.bj gw=0 then Wh.bj wh else Gw.bj gw) else Sv.bj sv) else(if whole=true then bj ms else lA ms)) else 1):=by
  show Pk.e _=_;rw[<- mD,<- mD,<- mD];rfl
 generalize Pk.e ⟨cU,whole,ms,sv,gw,wh⟩=res at *;obtain⟨a2,c2,rfl,_,_⟩:=Ly;obtain⟨a3,c3,rfl,_,_⟩:=wM;obtain⟨a4,c4,rfl,_,_⟩:=L3;clear hJ dx;generalize Sv.bj sv=se at *;generalize Gw.bj gw=ge at *;generalize Wh.bj wh=we at *;generalize bj ms=m1 at *;generalize lA ms=m2 at *;generalize sv.length=n2 at *;generalize gw.length=n3 at *;generalize wh.length=n4 at *;obtain⟨W0,bJ,bM,-,dG⟩:=bW w #[Y cU,.bool whole,vm,J a2 n2 c2,J a3 n3 c3,J a4 n4 c4] 53;have eE:w.heap.size<W0.heap.size:=by rw[bJ];simp
 have da:Hid _:=bM;have AM:Hid _:=dG;have HX:Hid (∀W,Below W0.heap.size W0 W->(W.cell? ⟨w.heap.size,2,none⟩=some vm/\W.cell? ⟨w.heap.size,3,none⟩=some (J a2 n2 c2)/\W.cell? ⟨w.heap.size,4,none⟩=some (J a3 n3 c3)/\W.cell? ⟨w.heap.size,5,none⟩=some (J a4 n4 c4))/\Below w.heap.size w W):=λW hW=>
  have hg:=(hW.block _ eE).trans dG
  ⟨⟨ae hg 2,ae hg 3,ae hg 4,ae hg 5⟩,bM.trans (hW.mono (by omega))⟩
 have iM:Hid (∀W W',Below W0.heap.size W0 W->Below W.heap.size W W'->Below W0.heap.size W0 W'):=λW W' h1 h2=>h1.trans (h2.mono h1.size);go_enter Tryz.func62,Tryz.ntmps62;rcases hlab:bb cU with _|_
 .have HR:Hid (res=1):=HE.out.trans (by rw[hlab];rfl)
  go_wp2_with (go_at_call 53;refine(bR _ _ Lz).mono ?_;rintro e w' ⟨rfl,rfl⟩;rw[hlab]);go_ret;exact⟨ai HR.out.symm,(Below.refl _ _).alloc (Ic _) _⟩
 .cases whole
  .by_cases hal:n2=0/\n3=0/\n4=0
   .obtain⟨rfl,rfl,rfl⟩:=hal
    have kz:Hid (res=if m2=0 then(if se=0 then(if ge=0 then we else ge) else se) else m2):=HE.out.trans (by rw[hlab];rfl);clear HE HM1;go_wp2_with (first|(go_at_call 53;refine(bR _ _ Lz).mono ?_;rintro e w' ⟨rfl,rfl⟩;rw[hlab])|fail);rw[<- bJ];refine(HM2.out _ da.out).mono ?_;rintro e w1 ⟨rfl,aB⟩;obtain⟨⟨x2,x3,x4,x5⟩,GB⟩:=HX.out w1 aB;have aV:Hid _:=aB;have iN:Hid _:=GB;clear aB GB;by_cases hm:m2=0
    .subst hm
     go_wp2_with fail;refine(HS.out _ iN.out).mono ?_;rintro e w2 ⟨rfl,aJ⟩;have bp:Hid _:=iM.out _ _ aV.out aJ;clear x2 x3 x4 x5 aJ;obtain⟨⟨x2,x3,x4,x5⟩,yN⟩:=HX.out w2 bp.out;have oX:Hid _:=yN;clear yN;by_cases hse:se=0
     .subst hse
      go_wp2_with fail;refine(HG.out _ oX.out).mono ?_;rintro e w3 ⟨rfl,bV⟩;have cj:Hid _:=iM.out _ _ bp.out bV;clear x2 x3 x4 x5 bV;obtain⟨⟨x2,x3,x4,x5⟩,GC⟩:=HX.out w3 cj.out;have oY:Hid _:=GC;clear GC;by_cases yO:ge=0
      .subst yO
       go_wp2_with fail;refine(HW.out _ oY.out).mono ?_;rintro e w4 ⟨rfl,eO⟩;have yP:Hid _:=oY.out.trans (eO.mono oY.out.size);clear eO;go_wp2_with fail;go_ret;exact⟨ai kz.out.symm,yP.out⟩
      .have Vn:(ge !=0)=true:=by simpa using yO
       have HR:Hid (res=ge):=kz.out.trans (by simp[yO]);clear yO;go_wp2_with fail;go_ret;exact⟨ai HR.out.symm,oY.out⟩
     .have Vo:(se !=0)=true:=by simpa using hse
      have HR:Hid (res=se):=kz.out.trans (by simp[hse]);clear hse;go_wp2_with fail;go_ret;exact⟨ai HR.out.symm,oX.out⟩
    .have hm':(m2 !=0)=true:=by simpa using hm
     have HR:Hid _:=kz.out.trans (if_neg hm);clear hm;go_wp2_with fail;go_ret;exact⟨ai HR.out.symm,iN.out⟩
   .have HR:Hid (res=1):=HE.out.trans (by
     rw[hlab,if_neg];simp only[Bool.true_and,Bool.false_or,Bool.and_eq_true,decide_eq_true_eq];exact hal)
    have hlen:n2+n3+n4<=4611686018427387904:=by
     rcases hlen with h|h
     .cases h
     .exact h
    have aiZ:(0:Int)<(n2:Int)+(n3:Int)+(n4:Int):=by omega
    go_wp2_with (go_at_call 53;refine(bR _ _ Lz).mono ?_;rintro e w' ⟨rfl,rfl⟩;rw[hlab]);go_ret;exact⟨ai HR.out.symm,(Below.refl _ _).alloc (Ic _) _⟩
  .have kz:Hid (res=if m1=0 then(if se=0 then(if ge=0 then we else ge) else se) else m1):=HE.out.trans (by rw[hlab];rfl)
   clear HE HM2;go_wp2_with (first|(go_at_call 53;refine(bR _ _ Lz).mono ?_;rintro e w' ⟨rfl,rfl⟩;rw[hlab])|fail);rw[<- bJ];refine(HM1.out _ da.out).mono ?_;rintro e w1 ⟨rfl,aB⟩;obtain⟨⟨x2,x3,x4,x5⟩,GB⟩:=HX.out w1 aB;have aV:Hid _:=aB;have iN:Hid _:=GB;clear aB GB;by_cases hm:m1=0
   .subst hm
    go_wp2_with fail;refine(HS.out _ iN.out).mono ?_;rintro e w2 ⟨rfl,aJ⟩;have bp:Hid _:=iM.out _ _ aV.out aJ;clear x2 x3 x4 x5 aJ;obtain⟨⟨x2,x3,x4,x5⟩,yN⟩:=HX.out w2 bp.out;have oX:Hid _:=yN;clear yN;by_cases hse:se=0
    .subst hse
     go_wp2_with fail;refine(HG.out _ oX.out).mono ?_;rintro e w3 ⟨rfl,bV⟩;have cj:Hid _:=iM.out _ _ bp.out bV;clear x2 x3 x4 x5 bV;obtain⟨⟨x2,x3,x4,x5⟩,GC⟩:=HX.out w3 cj.out;have oY:Hid _:=GC;clear GC;by_cases yO:ge=0
     .subst yO
      go_wp2_with fail;refine(HW.out _ oY.out).mono ?_;rintro e w4 ⟨rfl,eO⟩;have yP:Hid _:=oY.out.trans (eO.mono oY.out.size);clear eO;go_wp2_with fail;go_ret;exact⟨ai kz.out.symm,yP.out⟩
     .have Vn:(ge !=0)=true:=by simpa using yO
      have HR:Hid (res=ge):=kz.out.trans (by simp[yO]);clear yO;go_wp2_with fail;go_ret;exact⟨ai HR.out.symm,oY.out⟩
    .have Vo:(se !=0)=true:=by simpa using hse
     have HR:Hid (res=se):=kz.out.trans (by simp[hse]);clear hse;go_wp2_with fail;go_ret;exact⟨ai HR.out.symm,oX.out⟩
   .have hm':(m1 !=0)=true:=by simpa using hm
    have HR:Hid _:=kz.out.trans (if_neg hm);clear hm;go_wp2_with fail;go_ret;exact⟨ai HR.out.symm,iN.out⟩
end Go.Proofs.YtfidhgjmifendaaGreatDoor
