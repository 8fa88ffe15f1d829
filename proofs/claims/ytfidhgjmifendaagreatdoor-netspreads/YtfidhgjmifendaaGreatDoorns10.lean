import Derived.Test.YtfidhgjmifendaaGreatDoorns8
import Derived.Test.YtfidhgjmifendaaGreatDoorns9
set_option maxHeartbeats 6400000
set_option maxRecDepth 100000
open ByteArray renaming empty→Iv
open Go.Maps renaming has→QK,size→JC
open Go.IntKind renaming i64→O
open Go.Proofs.Tryz renaming prog→AS,underlying125→JA,underlying3→ID
open Go renaming plainElem→O6
open Go.Value renaming slice→J,int→U,string→Y
open Nat renaming le_refl→Ic
namespace Go.Proofs.YtfidhgjmifendaaGreatDoor
open Go.RowKit Go.WideMaps Go.Maps
def lL(ms:List Mem):List ByteArray:=ms.map (·.name)
theorem iD(ms:List Mem)(k:Nat):(lL ms).getD k Iv=(ms.getD k dm).name:=by
 by_cases h:k<ms.length
 .simp[lL,List.getD,List.getElem?_eq_getElem h]
 .simp[lL,List.getD,List.getElem?_eq_none (by omega:ms.length<=k),dm]
structure CV(D:DataW Unit)(ns:List ByteArray)(k:Nat):Prop where
 tidy:Tidy D
 has:∀s,QK D (kS s)=QK (Dm ns k) (kS s)
 size:JC D=JC (Dm ns k)
 val:∀s,∃c:Int,D.atKey (kS s) (.lit (.int O 0))=.lit (.int O c)/\0<=c/\c<=k
theorem yZ(ns:List ByteArray):CV (.map []) ns 0:=⟨tidy_empty,λ_=>rfl,rfl,λ_=>⟨0,rfl,Int.le_refl _,Int.le_refl _⟩⟩
theorem zc{D:DataW Unit}{ns:List ByteArray}{k:Nat}(h:CV D ns k){c:Int}(hc:D.atKey (kS (ns.getD k Iv)) (.lit (.int O 0))=.lit (.int O c)) :
 0<=c/\c<=k/\CV (D.put (kS (ns.getD k Iv)) (.lit (.int O (c+1)))) ns (k+1):=by
 obtain⟨c',hc',h0,h1⟩:=h.val (ns.getD k Iv);rw[hc] at hc';have e:c=c':=by injection hc' with h;injection h
 subst e;refine⟨h0,h1,h.tidy.put (oC _) _,λs=>?_,?_,λs=>?_⟩
 .by_cases e:ns.getD k Iv=s
  .subst e;rw[has_put_same h.tidy.isMap (oC _),Dm,has_put_same (pN ns k).isMap (oC _)]
  .rw[has_put_other (zd (Ne.symm e)),Dm,has_put_other (zd (Ne.symm e))];exact h.has s
 .rw[size_put h.tidy,sI,h.has,h.size]
 .by_cases e:ns.getD k Iv=s
  .subst e;exact⟨c+1,by rw[atKey_put_same h.tidy.isMap (oC _)],by omega,by omega⟩
  .rw[atKey_put_other (zd (Ne.symm e))]
   obtain⟨d,hd,d0,d1⟩:=h.val s;exact⟨d,hd,d0,by omega⟩
theorem RM{D:DataW Unit}{ms:List Mem}(h:CV D (lL ms) ms.length)(hd:¬ mL ms):JC D<ms.length:=by
 rw[h.size];apply lM;apply Classical.byContradiction;intro hx;apply hd;intro i j iS hj e;exact hx ⟨i,j,iS,hj,by rw[iD,iD];exact e⟩
theorem RN{D:DataW Unit}{ms:List Mem}(h:CV D (lL ms) ms.length)(hd:mL ms):JC D=ms.length:=by
 rw[h.size];exact lN _ _ (λi j iS hj=>by rw[iD,iD];exact hd i j iS hj)
theorem tg{w w':World}{b n:Nat}{D:DataW Unit}(h:w.ownsMap AS 9 (O6 (H:=Unit) AS 3) b n D)(hb:Below w.heap.size w w'):w'.ownsMap AS 9 (O6 (H:=Unit) AS 3) b n D:=by
 have hl:=h.lt;obtain⟨es,clock,h1,h2⟩:=h;exact⟨es,clock,(hb.block b hl).trans h1,h2⟩
theorem row_one{w:World}{b off:Nat}{ms:List Mem}(hr:Row w b off ms){k:Nat}(hk:k<ms.length):Row w b (off+k*5) [ms.getD k dm]:=λj hj=>by
 have:j=0:=by simpa using hj
 subst this;simpa using hr k hk
def Roomy(v:Value):Prop:=match v with
 | J _ n c=>n<=c
 |_=>True
theorem vf(ms:List Mem)(v:Value)(w:World)(hv:Sl w v ms)(dz:Roomy v) :
 Calls AS 104 #[v] w λe w'=>e=.returned (U O (lO ms))/\Below w.heap.size w w':=by
 obtain⟨pa,ca,rfl,cI,ha⟩:=hv;have ake:ms.length<=ca:=dz;clear dz;by_cases hmany:5<ms.length
 .have HE:Hid (lO ms=2):=D8 hmany
  go_enter Tryz.func104,Tryz.ntmps104;go_wp2_with fail;go_ret;exact⟨ai HE.out.symm,Below.refl _ _⟩
 have HA:Hid _:=ha;have HS:Hid (∀j,(ms.getD j dm).name.size<=maxLen):=cI;clear ha cI;generalize hN:ms.length=n at *;have HN:Hid (ms.length=n):=hN;clear hN;have hn5:n<=5:=by omega
 have Hb:=jt;go_enter Tryz.func104,Tryz.ntmps104;go_wp2;go_loopw [15] (λi wr=>∃k:Nat,k<=n/\i=U O k/\Hid (∀j,j<k->(ms.getD j dm).e=0)/\Hid (∃D,wr.ownsMap AS 9 (O6 (H:=Unit) AS 3) w.heap.size k D/\CV D (lL ms) k)/\Hid (Below w.heap.size w wr)) (λi _=>n-(intOf i).toNat)
 case atStart=>exact⟨0,Nat.zero_le _,rfl,λj hj=>by omega,⟨_,World.ownsMap_made _ _ _ _,yZ _⟩,(Below.refl _ _).alloc (Ic _) _⟩
 case round=>
  obtain⟨k,hk,rfl,HZ,HD,HB⟩:=hrel;obtain⟨D,HO,HC⟩:=HD.out;have HO:Hid (wr.ownsMap AS 9 (O6 (H:=Unit) AS 3) w.heap.size k D):=HO;have HC:Hid (CV D (lL ms) k):=HC;clear HD;by_cases aX:k<n
  .obtain⟨b,off,hp,hl,hr⟩:∃b off,pa=some ⟨b,off,none⟩/\b<w.heap.size/\Row w b off ms:=by
    rcases HA.out with h|h
    .have:=HN.out;rw[h] at this;simp at this;omega
    .exact h
   subst hp;have rJ:=hr.later HB.out hl;obtain⟨c0,c1,c2,c3,c4⟩:=rJ k (by rw[HN.out];exact aX);have cZ:=HS.out k;have HX:Hid ((ms.getD k dm).e≠0->lO ms=(ms.getD k dm).e):=λh=>RO (by rw[HN.out];exact hn5) (by rw[HN.out];exact aX) HZ.out h;have lP:Hid ((ms.getD k dm).e=0->∀j,j<k+1->(ms.getD j dm).e=0):=λh j hj=>by
    by_cases e:j=k
    .subst e;exact h
    .exact HZ.out j (by omega)
   have ze:Hid (Row wr b (off+k*5) [ms.getD k dm]):=row_one rJ (by rw[HN.out];exact aX);have HG:Hid (∀(c:Int),D.atKey (kS (ms.getD k dm).name) (.lit (.int O 0))=.lit (.int O c)->0<=c/\c<=k/\CV (D.put (kS (ms.getD k dm).name) (.lit (.int O (c+1)))) (lL ms) (k+1)):=λc hc=>by
    have h:=zc HC.out (c:=c) (by rw[iD];exact hc);rw[iD] at h;exact h
   have cI:=HB.out.size;generalize(ms.getD k dm)=mk at *;have oq:Hid (∀W,Below wr.heap.size wr W->∀cc,Calls AS 70 #[J (some ⟨b,off+k*5,none⟩) 1 cc] W λe w'=>e=.returned (U O mk.e)/\Below W.heap.size W w'):=λW hW cc=>by
    have h:=bq [mk] (J (some ⟨b,off+k*5,none⟩) 1 cc) W ⟨_,cc,rfl,cy (λx hx=>by simp at hx;subst hx;exact cZ),.inr ⟨b,_,rfl,by have:=hW.size;omega,ze.out.later hW (by omega)⟩⟩;rw[jV] at h;exact h
   obtain⟨nm,st,lf,ad,sv⟩:=mk;simp only at c0 c1 c2 c3 c4 cZ HX lP HG oq;have zh:keyOf AS 9 (Y nm)=some (kS nm):=keyOf_string_mk Tryz.underlying9 cZ;clear hr rJ HZ ze;have eV:(k:Int)<n:=by omega
   have hkc:(k:Int)+1<=(ca:Int):=by omega
   go_wp2_with fail;refine(oq.out _ ((Below.refl _ _).alloc (Ic _) _) _).mono ?_;rintro e w1 ⟨rfl,aB⟩;have lQ:Hid (w1.ownsMap _ _ _ _ _ _):=tg (HO.out.alloc _) aB;have ba:Hid _:=(HB.out.alloc HB.out.size _).trans (aB.mono (by simp;omega));have hm0:w1.cell? ⟨wr.heap.size,0,none⟩=some (Y nm):=(aB.cell (p:=⟨wr.heap.size,0,none⟩) (by simp)).trans (by simp);clear aB c0 c1 c2 c3 c4 HB HO oq;by_cases he:(Mem.mk nm st lf ad sv).e=0
   .have kW:((Mem.mk nm st lf ad sv).e !=0)=false:=by simpa using he
    have qK:Hid _:=lP.out he;clear HX lP he;generalize(Mem.mk nm st lf ad sv).e=me at *;obtain⟨c,jW,cH,_⟩:=lQ.out.lookup_int D9 JA ID (Bd _) zh;obtain⟨g0,g1,g2⟩:=HG.out c cH;have sg:Hid _:=g2;clear g2 cH HG;go_wp2_with (first
     |(at_mapUpdate;refine wpList_mapUpdate_own _ rfl _ _ _ 125 rfl 9 3 D9 JA _ w.heap.size k _ rfl lQ.out (by unfold maxLen;omega) _ _ _ rfl rfl zh _ [] (plainElem_int ID (WalkArith.wf_i64 (by omega))) ?_)
     |fail)
    intro w2 zi th;have R1:Hid (∃D,w2.ownsMap AS 9 (O6 (H:=Unit) AS 3) w.heap.size (k+1) D/\CV D (lL ms) (k+1)):=⟨_,zi,sg.out⟩;have R2:Hid _:=ba.out.grown th ba.out.size (λj hj=>by cases hj;exact Ic _);clear zi th lQ ba;go_wp2_with fail;go_roundw
    case rel=>exact⟨k+1,by omega,by go_num,qK,R1,R2⟩
    case measure=>simp[intOf];omega
   .have kW:((Mem.mk nm st lf ad sv).e !=0)=true:=by simpa using he
    have HR:Hid _:=HX.out he;generalize(Mem.mk nm st lf ad sv).e=me at *;clear he HX lP;go_wp2_with fail;go_ret;exact⟨ai HR.out.symm,ba.out⟩
  .have eV:k=n:=by omega
   subst eV;have iY:Hid (JC D<k↔¬ mL ms):=by
    have h1:=HC.out;rw[<- HN.out] at h1 ⊢;exact⟨λh hd=>by rw[RN h1 hd] at h;omega,λhd=>RM h1 hd⟩
   have xf:Hid (¬ mL ms->lO ms=6):=λhd=>Be (by rw[HN.out];exact hn5) (λj hj=>HZ.out j (by rw[<- HN.out];exact hj)) hd;have kM:Hid (mL ms->lO ms=0):=λhd=>CW (by rw[HN.out];exact hn5) (λj hj=>HZ.out j (by rw[<- HN.out];exact hj)) hd;by_cases hd:mL ms
   .have HE:Hid _:=kM.out hd
    have hs:¬ ((JC D:Int)<(k:Int)):=by have:=iY.out;intro h;exact(this.1 (by omega)) hd
    clear xf kM hd iY HZ;go_wp2_with (at_len;refine wpList_len_own _ rfl _ 125 rfl 9 3 JA _ _ _ _ rfl HO.out ?_);go_ret;exact⟨ai HE.out.symm,HB.out⟩
   .have HE:Hid _:=xf.out hd
    have hs:((JC D:Int)<(k:Int)):=by have:=iY.out.2 hd;omega
    clear xf kM hd iY HZ;go_wp2_with (at_len;refine wpList_len_own _ rfl _ 125 rfl 9 3 JA _ _ _ _ rfl HO.out ?_);go_ret;exact⟨ai HE.out.symm,HB.out⟩
structure kz(w:World)(p:Pk)(vm vs vg vw:Value):Prop where
 ms:Sl w vm p.ms
 sv:Sv.Sl w vs p.sv
 gw:Gw.Sl w vg p.gw
 wh:Wh.Sl w vw p.wh
 cV:p.cV.size<=maxLen
 room:Roomy vm
theorem kz.below{w w':World}{p:Pk}{vm vs vg vw:Value}(h:kz w p vm vs vg vw)(hb:Below w.heap.size w w'):kz w' p vm vs vg vw:=⟨h.ms.below hb,h.sv.below hb,h.gw.below hb,h.wh.below hb,h.cV,h.room⟩
theorem mM{α:Type}(l:List α):l.isEmpty=decide (l.length=0):=by cases l<;>simp
theorem lR(p:Pk)(vm vs vg vw:Value)(w:World)(h:kz w p vm vs vg vw)(hlen:p.whole=true\/p.sv.length+p.gw.length+p.wh.length<=4611686018427387904) :
 Calls AS 62 #[.agg #[Y p.cV,.bool p.whole,vm,vs,vg,vw]] w λe w'=>e=.returned (U O p.e)/\Below w.heap.size w w':=by
 obtain⟨cV,whole,ms,sv,gw,wh⟩:=p;obtain⟨gQ,Gy,vh,ME,Mc,dz⟩:=h;simp only at gQ Gy vh ME Mc hlen ⊢;have HM1:Hid (∀W,Below w.heap.size w W->Calls _ _ _ _ _):=λW hW=>bq ms vm W (gQ.below hW);have HM2:Hid (∀W,Below w.heap.size w W->Calls _ _ _ _ _):=λW hW=>vf ms vm W (gQ.below hW) dz;have HS:Hid (∀W,Below w.heap.size w W->Calls _ _ _ _ _):=λW hW=>Sv.bq sv vs W (Gy.below hW);have HG:Hid (∀W,Below w.heap.size w W->Calls _ _ _ _ _):=λW hW=>Gw.bq gw vg W (vh.below hW);have HW:Hid (∀W,Below w.heap.size w W->Calls _ _ _ _ _):=λW hW=>Wh.bq wh vw W (ME.below hW);have HE:Hid (Pk.e ⟨cV,whole,ms,sv,gw,wh⟩=if(bc cV&&(whole||(decide (sv.length=0)&&(decide (gw.length=0)&&decide (wh.length=0)))))=true then
  (if(if whole=true then bl ms else lO ms)=0 then(if Sv.bl sv=0 then(if Gw.bl gw=0 then Wh.bl wh else Gw.bl gw) else Sv.bl sv) else(if whole=true then bl ms else lO ms)) else 1):=by
  show Pk.e _=_;rw[<- mM,<- mM,<- mM];rfl
 generalize Pk.e ⟨cV,whole,ms,sv,gw,wh⟩=res at *;obtain⟨a2,c2,rfl,_,_⟩:=Gy;obtain⟨a3,c3,rfl,_,_⟩:=vh;obtain⟨a4,c4,rfl,_,_⟩:=ME;clear gQ dz;generalize Sv.bl sv=se at *;generalize Gw.bl gw=ge at *;generalize Wh.bl wh=we at *;generalize bl ms=m1 at *;generalize lO ms=m2 at *;generalize sv.length=n2 at *;generalize gw.length=n3 at *;generalize wh.length=n4 at *;obtain⟨W0,bN,bO,-,dI⟩:=bY w #[Y cV,.bool whole,vm,J a2 n2 c2,J a3 n3 c3,J a4 n4 c4] 53;have eK:w.heap.size<W0.heap.size:=by rw[bN];simp
 have db:Hid _:=bO;have Bf:Hid _:=dI;have HX:Hid (∀W,Below W0.heap.size W0 W->(W.cell? ⟨w.heap.size,2,none⟩=some vm/\W.cell? ⟨w.heap.size,3,none⟩=some (J a2 n2 c2)/\W.cell? ⟨w.heap.size,4,none⟩=some (J a3 n3 c3)/\W.cell? ⟨w.heap.size,5,none⟩=some (J a4 n4 c4))/\Below w.heap.size w W):=λW hW=>
  have hg:=(hW.block _ eK).trans dI
  ⟨⟨ae hg 2,ae hg 3,ae hg 4,ae hg 5⟩,bO.trans (hW.mono (by omega))⟩
 have ky:Hid (∀W W',Below W0.heap.size W0 W->Below W.heap.size W W'->Below W0.heap.size W0 W'):=λW W' h1 h2=>h1.trans (h2.mono h1.size);go_enter Tryz.func62,Tryz.ntmps62;rcases hlab:bc cV with _|_
 .have HR:Hid (res=1):=HE.out.trans (by rw[hlab];rfl)
  go_wp2_with (go_at_call 53;refine(bV _ _ Mc).mono ?_;rintro e w' ⟨rfl,rfl⟩;rw[hlab]);go_ret;exact⟨ai HR.out.symm,(Below.refl _ _).alloc (Ic _) _⟩
 .cases whole
  .by_cases hal:n2=0/\n3=0/\n4=0
   .obtain⟨rfl,rfl,rfl⟩:=hal
    have kM:Hid (res=if m2=0 then(if se=0 then(if ge=0 then we else ge) else se) else m2):=HE.out.trans (by rw[hlab];rfl);clear HE HM1;go_wp2_with (first|(go_at_call 53;refine(bV _ _ Mc).mono ?_;rintro e w' ⟨rfl,rfl⟩;rw[hlab])|fail);rw[<- bN];refine(HM2.out _ db.out).mono ?_;rintro e w1 ⟨rfl,aB⟩;obtain⟨⟨x2,x3,x4,x5⟩,Hc⟩:=HX.out w1 aB;have ba:Hid _:=aB;have iZ:Hid _:=Hc;clear aB Hc;by_cases hm:m2=0
    .subst hm
     go_wp2_with fail;refine(HS.out _ iZ.out).mono ?_;rintro e w2 ⟨rfl,aK⟩;have bu:Hid _:=ky.out _ _ ba.out aK;clear x2 x3 x4 x5 aK;obtain⟨⟨x2,x3,x4,x5⟩,zj⟩:=HX.out w2 bu.out;have pO:Hid _:=zj;clear zj;by_cases hse:se=0
     .subst hse
      go_wp2_with fail;refine(HG.out _ pO.out).mono ?_;rintro e w3 ⟨rfl,bX⟩;have cJ:Hid _:=ky.out _ _ bu.out bX;clear x2 x3 x4 x5 bX;obtain⟨⟨x2,x3,x4,x5⟩,Hd⟩:=HX.out w3 cJ.out;have pP:Hid _:=Hd;clear Hd;by_cases zk:ge=0
      .subst zk
       go_wp2_with fail;refine(HW.out _ pP.out).mono ?_;rintro e w4 ⟨rfl,eU⟩;have zl:Hid _:=pP.out.trans (eU.mono pP.out.size);clear eU;go_wp2_with fail;go_ret;exact⟨ai kM.out.symm,zl.out⟩
      .have VO:(ge !=0)=true:=by simpa using zk
       have HR:Hid (res=ge):=kM.out.trans (by simp[zk]);clear zk;go_wp2_with fail;go_ret;exact⟨ai HR.out.symm,pP.out⟩
     .have VP:(se !=0)=true:=by simpa using hse
      have HR:Hid (res=se):=kM.out.trans (by simp[hse]);clear hse;go_wp2_with fail;go_ret;exact⟨ai HR.out.symm,pO.out⟩
    .have hm':(m2 !=0)=true:=by simpa using hm
     have HR:Hid _:=kM.out.trans (if_neg hm);clear hm;go_wp2_with fail;go_ret;exact⟨ai HR.out.symm,iZ.out⟩
   .have HR:Hid (res=1):=HE.out.trans (by
     rw[hlab,if_neg];simp only[Bool.true_and,Bool.false_or,Bool.and_eq_true,decide_eq_true_eq];exact hal)
    have hlen:n2+n3+n4<=4611686018427387904:=by
     rcases hlen with h|h
     .cases h
     .exact h
    have akh:(0:Int)<(n2:Int)+(n3:Int)+(n4:Int):=by omega
    go_wp2_with (go_at_call 53;refine(bV _ _ Mc).mono ?_;rintro e w' ⟨rfl,rfl⟩;rw[hlab]);go_ret;exact⟨ai HR.out.symm,(Below.refl _ _).alloc (Ic _) _⟩
  .have kM:Hid (res=if m1=0 then(if se=0 then(if ge=0 then we else ge) else se) else m1):=HE.out.trans (by rw[hlab];rfl)
   clear HE HM2;go_wp2_with (first|(go_at_call 53;refine(bV _ _ Mc).mono ?_;rintro e w' ⟨rfl,rfl⟩;rw[hlab])|fail);rw[<- bN];refine(HM1.out _ db.out).mono ?_;rintro e w1 ⟨rfl,aB⟩;obtain⟨⟨x2,x3,x4,x5⟩,Hc⟩:=HX.out w1 aB;have ba:Hid _:=aB;have iZ:Hid _:=Hc;clear aB Hc;by_cases hm:m1=0
   .subst hm
    go_wp2_with fail;refine(HS.out _ iZ.out).mono ?_;rintro e w2 ⟨rfl,aK⟩;have bu:Hid _:=ky.out _ _ ba.out aK;clear x2 x3 x4 x5 aK;obtain⟨⟨x2,x3,x4,x5⟩,zj⟩:=HX.out w2 bu.out;have pO:Hid _:=zj;clear zj;by_cases hse:se=0
    .subst hse
     go_wp2_with fail;refine(HG.out _ pO.out).mono ?_;rintro e w3 ⟨rfl,bX⟩;have cJ:Hid _:=ky.out _ _ bu.out bX;clear x2 x3 x4 x5 bX;obtain⟨⟨x2,x3,x4,x5⟩,Hd⟩:=HX.out w3 cJ.out;have pP:Hid _:=Hd;clear Hd;by_cases zk:ge=0
     .subst zk
      go_wp2_with fail;refine(HW.out _ pP.out).mono ?_;rintro e w4 ⟨rfl,eU⟩;have zl:Hid _:=pP.out.trans (eU.mono pP.out.size);clear eU;go_wp2_with fail;go_ret;exact⟨ai kM.out.symm,zl.out⟩
     .have VO:(ge !=0)=true:=by simpa using zk
      have HR:Hid (res=ge):=kM.out.trans (by simp[zk]);clear zk;go_wp2_with fail;go_ret;exact⟨ai HR.out.symm,pP.out⟩
    .have VP:(se !=0)=true:=by simpa using hse
     have HR:Hid (res=se):=kM.out.trans (by simp[hse]);clear hse;go_wp2_with fail;go_ret;exact⟨ai HR.out.symm,pO.out⟩
   .have hm':(m1 !=0)=true:=by simpa using hm
    have HR:Hid _:=kM.out.trans (if_neg hm);clear hm;go_wp2_with fail;go_ret;exact⟨ai HR.out.symm,iZ.out⟩
end Go.Proofs.YtfidhgjmifendaaGreatDoor
