import Derived.Test.YtfidjlcdlakceaaGreatDoorrt18
set_option maxHeartbeats 3200000
set_option maxRecDepth 100000
open Option renaming some→Z,none→Y
open Go.IntKind renaming i64→J
open Go.Value renaming int→O,bool→AT,string→I,pointer→Ig,slice→U
open Go.Proofs.Tryz renaming prog→be,underlying41→O2
open Go.World.Extends renaming refl→IB
open Go renaming heap_alloc_new→Ie,wpAny_ready→I6,wp_append_own→Q1,wpAnyH_take→IV
open Or renaming inl→JH
open Go.AllReady renaming cons→IM,nil→IZ
open List renaming mem_append→J1,mem_singleton→Og,length_append→Ij,length_singleton→JB
open Go.World.ownsRow renaming drew→Qi,alloc→J6
open Nat renaming le_trans→Ir,le_refl→By
open Go.World renaming news_of_block→Ol
namespace Go.Proofs.YtfidjlcdlakceaaGreatDoor
open Go.RowKit
structure Ms where
 id:Int
 code:Int
 al:Int
 ay:Bool
 cut:Bool
 R:ByteArray
 rs:List Rc.Rec
def iH(t:ByteArray):Nat->Nat->List Rc.Rec->Option (List Rc.Rec×Nat)
 |0,a,D=>Z (D,a)
 |n+1,a,D=>match qW t a with
  |none=>Y
  |some (r,q)=>iH t n q (D++[r])
def Pe(t:ByteArray)(id:Int)(ay cut:Bool)(code:Int)(R:ByteArray)(al:Int)(o:Option (List Rc.Rec×Nat)):Option Ms:=
 match o with
 |none=>Y
 |some (rs,q)=>if q=t.size then Z ⟨id,code,al,ay,cut,R,rs⟩ else Y
def Vn(t:ByteArray)(id:Int)(ay cut:Bool)(code:Int)(n:Nat)(o:Option (ByteArray×Nat)):Option Ms:=
 match o with
 |none=>Y
 |some (R,p)=>if p+2<=t.size then if p+2+2<=t.size/\(au t (p+2) 2:Int)=1 then Pe t id ay cut code R (au t p 2) (iH t n (p+2+2) []) else Y else Y
def Pf(t:ByteArray)(id F:Int)(ay cut:Bool):Option Ms:=
 if F=o7 ay cut then
  if 3+1<=t.size then
   if 4+2<=t.size/\(au t 4 2:Int)=1 then
    if 6+2<=t.size then
     if 8+2<=t.size/\(au t 8 2:Int)=0 then
      if 10+2<=t.size/\(au t 10 2:Int)=0 then Vn t id ay cut (au t 3 1) (au t 6 2) (GO t 12) else Y
     else Y
    else Y
   else Y
  else Y
 else Y
def pA(t:ByteArray):Option Ms:=
 if 0+2<=t.size then
  if 2+1<=t.size then Pf t (au t 0 2) (au t 2 1) (bits .and J (au t 2 1) 128 !=0) (bits .and J (au t 2 1) 2 !=0) else Y
 else Y
theorem KX{t:ByteArray}{n a:Nat}{D:List Rc.Rec}(h:qW t a=Y)(hn:0<n):iH t n a D=Y:=by
 obtain⟨m,rfl⟩:∃m,n=m+1:=⟨n-1,by omega⟩;simp only[iH,h]
theorem KY{t:ByteArray}{n a q:Nat}{r:Rc.Rec}{D:List Rc.Rec}(h:qW t a=Z (r,q))(hn:0<n):iH t n a D=iH t (n-1) q (D++[r]):=by
 obtain⟨m,rfl⟩:∃m,n=m+1:=⟨n-1,by omega⟩;simp only[iH,h,Nat.add_sub_cancel]
abbrev MsP(g:Nat)(w:World)(F:Option Ms)(e:Ending)(w':World):Prop:=
 Hid (Rd g w w')/\((∃M v,F=Z M/\(M.R.size<=1000/\∀r∈M.rs,r.ok)/\e=.returned (.agg #[O J M.id,AT M.ay,AT M.cut,O J M.code,I M.R,O J M.al,v])/\Hid (Rc.Own (w.heap.size+2) w' v M.rs))\/(F=Y/\e=dC 1))
theorem KZ(g:Nat)(t:ByteArray)(w:World)(h:dA g t 0 w)(hs:t.size<=1000) :
 Calls be 52 #[Ig (Z ⟨g,0,Y⟩)] w (MsP g w (pA t)):=by
 have HF:Hid (pA t=if 0+2<=t.size then
  if 2+1<=t.size then Pf t (au t 0 2) (au t 2 1) (bits .and J (au t 2 1) 128 !=0) (bits .and J (au t 2 1) 2 !=0) else Y
 else Y):=rfl
 have HI:Hid (dA g t 0 w):=h;have hg:=h.hg;clear h;unfold MsP;generalize pA t=F at *;go_enter Tryz.func52,Tryz.ntmps52;go_wp2_with fail;obtain⟨w0,du⟩:∃w0,w0=(w.alloc (.cells aJ 43)).alloc (.cells aJ 43):=⟨_,rfl⟩;rw[<- du];have S0:Hid (St g t w 43 aJ 0 aJ w0):=(show St _ _ _ _ _ _ _ _ by
  have hx:w.Extends w0:=by rw[du];exact((IB w).alloc _).alloc _
  refine⟨HI.out.ext hx,Rd.ext hx,?_,?_,hg⟩
  .rw[du]
   exact(Lib.alloc_old _ _ _ (by simp)).trans (Ie w _)
  .rw[du]
   have:=Ie (w.alloc (.cells aJ 43)) (.cells aJ 43);simpa using this)
 clear du;refine(dR g 0 2 t w0 S0.out.di hs (by omega) (by omega)).mono ?_;rintro e w1 ⟨h2,⟨l0,rfl,h1⟩|⟨iA,rfl⟩⟩;rotate_left
 .exact⟨rfl,S0.out.rd.trans h2.out,.inr ⟨HF.out.trans (if_neg iA),rfl⟩⟩
 have Xv:Hid (F=if 2+1<=t.size then Pf t (au t 0 2) (au t 2 1) (bits .and J (au t 2 1) 128 !=0) (bits .and J (au t 2 1) 2 !=0) else Y):=HF.out.trans (if_pos l0);have S1:Hid (St g t w 43 aJ 2 aJ w1):=S0.out.call h1 h2;have z1:=S1.out.free 0;have c1:w1.cell? ⟨w.heap.size+1,0,Y⟩=Z (O J 0):=S1.out.cell 0;clear h1 h2 S0 HF;generalize(au t 0 2:Int)=id at *;go_wp2_with fail;have S2:Hid (St g t w 43 aJ 2 #[O J id,AT false,AT false,O J 0,I ⟨#[]⟩,O J 0,U Y 0 0] (w1.setCell ⟨w.heap.size+1,0,Y⟩ (O J id))):=S1.out.store 0 (O J id);refine(dR g 2 1 t _ S2.out.di hs (by omega) (by omega)).mono ?_;rintro e w2 ⟨h2,⟨l2,rfl,h1⟩|⟨iA,rfl⟩⟩;rotate_left
 .exact⟨rfl,S2.out.rd.trans h2.out,.inr ⟨Xv.out.trans (if_neg iA),rfl⟩⟩
 have xp:Hid (F=Pf t id (au t 2 1) (bits .and J (au t 2 1) 128 !=0) (bits .and J (au t 2 1) 2 !=0)):=Xv.out.trans (if_pos l2);have S3:Hid (St g t w 43 aJ 3 #[O J id,AT false,AT false,O J 0,I ⟨#[]⟩,O J 0,U Y 0 0] w2):=S2.out.call h1 h2;have z1:=S3.out.free 1;have z2:=S3.out.free 2;have c0:w2.cell? ⟨w.heap.size+1,0,Y⟩=Z (O J id):=S3.out.cell 0;have c1:w2.cell? ⟨w.heap.size+1,1,Y⟩=Z (AT false):=S3.out.cell 1;have c2:w2.cell? ⟨w.heap.size+1,2,Y⟩=Z (AT false):=S3.out.cell 2;have c3:w2.cell? ⟨w.heap.size+1,3,Y⟩=Z (O J 0):=S3.out.cell 3;have c4:w2.cell? ⟨w.heap.size+1,4,Y⟩=Z (I ⟨#[]⟩):=S3.out.cell 4;have c5:w2.cell? ⟨w.heap.size+1,5,Y⟩=Z (O J 0):=S3.out.cell 5;have c6:w2.cell? ⟨w.heap.size+1,6,Y⟩=Z (U Y 0 0):=S3.out.cell 6;clear h1 h2 S1 S2 Xv;generalize(au t 2 1:Int)=fl at *;obtain⟨ay,an⟩:∃x,(bits .and J fl 128 !=0)=x:=⟨_,rfl⟩;obtain⟨cut,aD⟩:∃x,(bits .and J fl 2 !=0)=x:=⟨_,rfl⟩;rw[an,aD] at xp;go_wp2_with fail;have S4:Hid (St g t w 43 aJ 3 #[O J id,AT ay,AT cut,O J 0,I ⟨#[]⟩,O J 0,U Y 0 0] ((w2.setCell ⟨w.heap.size+1,1,Y⟩ (AT ay)).setCell ⟨w.heap.size+1,2,Y⟩ (AT cut))):=(S3.out.store 1 (AT ay)).store 2 (AT cut);refine(ma id 0 0 ay cut ⟨#[]⟩ _).mono ?_;rintro e w3 ⟨rfl,o,xu⟩;have S5:Hid (St g t w 43 aJ 3 #[O J id,AT ay,AT cut,O J 0,I ⟨#[]⟩,O J 0,U Y 0 0] w3):=(show St _ _ _ _ _ _ _ _ by rw[xu];exact S4.out.keep ((IB _).alloc _));have qV:Hid (F=if fl=o7 ay cut then
  if 3+1<=t.size then
   if 4+2<=t.size/\(au t 4 2:Int)=1 then
    if 6+2<=t.size then
     if 8+2<=t.size/\(au t 8 2:Int)=0 then
      if 10+2<=t.size/\(au t 10 2:Int)=0 then Vn t id ay cut (au t 3 1) (au t 6 2) (GO t 12) else Y
     else Y
    else Y
   else Y
  else Y
 else Y):=xp
 clear xu z1 z2 c0 c1 c2 c3 c4 c5 c6 S3 S4 an aD xp;generalize o7 ay cut=fg at *;by_cases qP:fl=fg;rotate_left
 .have hfb:(fl==fg)=false:=by simpa using qP
  have xv:Hid (F=Y):=qV.out.trans (if_neg qP);clear qV qP;go_wp2_with fail;refine(cQ _ _).mono ?_;rintro e w4 ⟨rfl,wB⟩;subst wB;exact⟨rfl,S5.out.rd,.inr ⟨xv.out,rfl⟩⟩
 have hfb:(fl==fg)=true:=by simpa using qP
 have xv:Hid _:=qV.out.trans (if_pos qP);clear qV qP;go_wp2_with fail;refine(bZ _ _).mono ?_;rintro e w4 ⟨rfl,wB⟩;subst wB;clear hfb;go_wp2_with fail;refine(dR g 3 1 t _ S5.out.di hs l2 (by omega)).mono ?_;rintro e w5 ⟨h2,⟨l3,rfl,h1⟩|⟨iA,rfl⟩⟩;rotate_left
 .exact⟨rfl,S5.out.rd.trans h2.out,.inr ⟨xv.out.trans (if_neg iA),rfl⟩⟩
 have Pa:Hid _:=xv.out.trans (if_pos l3);have S6:Hid (St g t w 43 aJ 4 #[O J id,AT ay,AT cut,O J 0,I ⟨#[]⟩,O J 0,U Y 0 0] w5):=S5.out.call h1 h2;have z3:=S6.out.free 3;have c3:w5.cell? ⟨w.heap.size+1,3,Y⟩=Z (O J 0):=S6.out.cell 3;clear h1 h2 S5 xv;generalize(au t 3 1:Int)=code at *;go_wp2_with fail;have S7:Hid (St g t w 43 aJ 4 #[O J id,AT ay,AT cut,O J code,I ⟨#[]⟩,O J 0,U Y 0 0] (w5.setCell ⟨w.heap.size+1,3,Y⟩ (O J code))):=S6.out.store 3 (O J code);refine(gM g 4 2 1 t _ S7.out.di hs l3 (by omega)).mono ?_;rintro e w6 ⟨h2,⟨l4,rfl,h1⟩|⟨iA,rfl⟩⟩;rotate_left
 .exact⟨rfl,S7.out.rd.trans h2.out,.inr ⟨Pa.out.trans (if_neg iA),rfl⟩⟩
 have Vi:Hid _:=Pa.out.trans (if_pos l4);have S8:Hid (St g t w 43 aJ 6 #[O J id,AT ay,AT cut,O J code,I ⟨#[]⟩,O J 0,U Y 0 0] w6):=S7.out.call h1 h2;clear h1 h2 S6 S7 z3 c3 Pa;go_wp2_with fail;refine(dR g 6 2 t _ S8.out.di hs l4.1 (by omega)).mono ?_;rintro e w7 ⟨h2,⟨l6,rfl,h1⟩|⟨iA,rfl⟩⟩;rotate_left
 .exact⟨rfl,S8.out.rd.trans h2.out,.inr ⟨Vi.out.trans (if_neg iA),rfl⟩⟩
 have Vj:Hid _:=Vi.out.trans (if_pos l6);have S9:Hid (St g t w 43 aJ 8 #[O J id,AT ay,AT cut,O J code,I ⟨#[]⟩,O J 0,U Y 0 0] w7):=S8.out.call h1 h2;have ak9:=rE t 6 2;clear h1 h2 S8 Vi;generalize au t 6 2=n at *;go_wp2_with fail;refine(gM g 8 2 0 t _ S9.out.di hs l6 (by omega)).mono ?_;rintro e w8 ⟨h2,⟨l8,rfl,h1⟩|⟨iA,rfl⟩⟩;rotate_left
 .exact⟨rfl,S9.out.rd.trans h2.out,.inr ⟨Vj.out.trans (if_neg iA),rfl⟩⟩
 have Sn:Hid _:=Vj.out.trans (if_pos l8);have SA:Hid (St g t w 43 aJ 10 #[O J id,AT ay,AT cut,O J code,I ⟨#[]⟩,O J 0,U Y 0 0] w8):=S9.out.call h1 h2;clear h1 h2 S9 Vj;go_wp2_with fail;refine(gM g 10 2 0 t _ SA.out.di hs l8.1 (by omega)).mono ?_;rintro e w9 ⟨h2,⟨l10,rfl,h1⟩|⟨iA,rfl⟩⟩;rotate_left
 .exact⟨rfl,SA.out.rd.trans h2.out,.inr ⟨Sn.out.trans (if_neg iA),rfl⟩⟩
 have Vk:Hid (F=Vn t id ay cut code n (GO t 12)):=Sn.out.trans (if_pos l10);have SB:Hid (St g t w 43 aJ 12 #[O J id,AT ay,AT cut,O J code,I ⟨#[]⟩,O J 0,U Y 0 0] w9):=SA.out.call h1 h2;clear h1 h2 SA Sn;go_wp2_with fail;refine(A2 g 12 t _ SB.out.di hs l10.1).mono ?_;rintro e wa ⟨h2,⟨R,p,h3,h4,h5,rfl,h1⟩|⟨h3,rfl⟩⟩;rotate_left
 .exact⟨rfl,SB.out.rd.trans h2.out,.inr ⟨by rw[Vk.out,h3];rfl,rfl⟩⟩
 have HF9:Hid (F=if p+2<=t.size then if p+2+2<=t.size/\(au t (p+2) 2:Int)=1 then Pe t id ay cut code R (au t p 2) (iH t n (p+2+2) []) else Y else Y):=(show _=_ by rw[Vk.out,h3];rfl);have SC:Hid (St g t w 43 aJ p #[O J id,AT ay,AT cut,O J code,I ⟨#[]⟩,O J 0,U Y 0 0] wa):=SB.out.call h1 h2;have z4:=SC.out.free 4;have c4:wa.cell? ⟨w.heap.size+1,4,Y⟩=Z (I ⟨#[]⟩):=SC.out.cell 4;clear h1 h2 h3 SB Vk;go_wp2_with fail;have SD:Hid (St g t w 43 aJ p #[O J id,AT ay,AT cut,O J code,I R,O J 0,U Y 0 0] (wa.setCell ⟨w.heap.size+1,4,Y⟩ (I R))):=SC.out.store 4 (I R);refine(dR g p 2 t _ SD.out.di hs h5 (by omega)).mono ?_;rintro e wb ⟨h2,⟨lp,rfl,h1⟩|⟨iA,rfl⟩⟩;rotate_left
 .exact⟨rfl,SD.out.rd.trans h2.out,.inr ⟨HF9.out.trans (if_neg iA),rfl⟩⟩
 have A5:Hid (F=if p+2+2<=t.size/\(au t (p+2) 2:Int)=1 then Pe t id ay cut code R (au t p 2) (iH t n (p+2+2) []) else Y):=HF9.out.trans (if_pos lp);have SE:Hid (St g t w 43 aJ (p+2) #[O J id,AT ay,AT cut,O J code,I R,O J 0,U Y 0 0] wb):=SD.out.call h1 h2;have z5:=SE.out.free 5;have c5:wb.cell? ⟨w.heap.size+1,5,Y⟩=Z (O J 0):=SE.out.cell 5;clear h1 h2 SC SD z4 c4 HF9;generalize(au t p 2:Int)=al at *;go_wp2_with fail;have SF:Hid (St g t w 43 aJ (p+2) #[O J id,AT ay,AT cut,O J code,I R,O J al,U Y 0 0] (wb.setCell ⟨w.heap.size+1,5,Y⟩ (O J al))):=SE.out.store 5 (O J al);refine(gM g (p+2) 2 1 t _ SF.out.di hs lp (by omega)).mono ?_;rintro e wc ⟨h2,⟨lq,rfl,h1⟩|⟨iA,rfl⟩⟩;rotate_left
 .exact⟨rfl,SF.out.rd.trans h2.out,.inr ⟨A5.out.trans (if_neg iA),rfl⟩⟩
 obtain⟨RS,hRS⟩:∃RS,RS=iH t n (p+2+2) []:=⟨_,rfl⟩;have HFB:Hid (F=Pe t id ay cut code R al RS):=(show _=_ by rw[hRS];exact A5.out.trans (if_pos lq));have aah:Hid (iH t (n-0) (p+2+2) []=RS):=hRS.symm;have SG:Hid (St g t w 43 aJ (p+2+2) #[O J id,AT ay,AT cut,O J code,I R,O J al,U Y 0 0] wc):=SF.out.call h1 h2;have lp4:=lq.1;clear h1 h2 SE SF z5 c5 A5 hRS lq;go_wp2_with fail;have hzw:w.heap.size+2<=wc.heap.size:=(Array.getElem?_eq_some_iff.1 SG.out.bx).1;obtain⟨i0,eP,cE,gn,ga⟩:=info_parts Tryz.CE;go_loopw [46] (λi wr=>∃(k:Nat) (v:Value) (D:List Rc.Rec) (b:Nat),k<=n/\i=O J k/\D.length=k/\b<=t.size/\Hid (iH t (n-k) b D=RS)/\Hid (∀r∈D,r.ok)/\Hid (St g t w 43 aJ b #[O J id,AT ay,AT cut,O J code,I R,O J al,v] wr)/\Hid (Rc.Own (w.heap.size+2) wr v D)/\w.heap.size+2<=wr.heap.size) (λi _=>n-(intOf i).toNat)
 case atStart=>exact⟨0,U Y 0 0,[],p+2+2,Nat.zero_le _,rfl,rfl,lp4,aah,(show ∀_,_ from λr hr=>by cases hr),SG,World.ownsRow_nil _ _ _ _,hzw⟩
 case round=>
  obtain⟨k,v,D,b,hk,rfl,hDk,Ng,A9,AU,HS,HO,bb⟩:=hrel;by_cases aB:k<n
  .have hd:decide ((k:Int)<(n:Int))=true:=by simp;omega
   have A7:Hid (Calls be 103 #[Ig (Z ⟨g,0,Y⟩)] wr.drew λe w'=>Hid (Rd g wr.drew w')/\((∃r q,qW t b=Z (r,q)/\q<=t.size/\r.ok/\e=.returned (ln r)/\Hid (dA g t q w'))\/(qW t b=Y/\e=dC 1))):=Vg g b t wr.drew (HS.out.di.ext (IB _).drew) hs Ng;have K4:Hid (qW t b=Y->F=Y):=λhh=>by
    rw[HFB.out,<- A9.out,KX hh (by omega)];rfl
   have HGO:Hid (∀r q,qW t b=Z (r,q)->iH t (n-(k+1)) q (D++[r])=RS):=λr q hh=>by
    rw[<- A9.out,KY hh (by omega),show n-(k+1)=n-k-1 by omega]
   generalize qW t b=rf at *;have hvw:wr.cell? ⟨w.heap.size+1,6,Y⟩=Z v:=HS.out.cell 6;go_wp2_with fail;refine wp_region_any (by kernel_rfl) ?_;refine wpAny_take (i:=0) (v:=Ig (Z ⟨w.heap.size+1,6,Y⟩)) rfl (by kernel_rfl) (by kernel_rfl) (by kernel_rfl) (λ_ _ _ h=>h) (JH ⟨by rfl,?_⟩) ?_
   .intro W
    go_simp
   refine wpAny_take (i:=2) (v:=Ig (Z ⟨g,0,Y⟩)) rfl (by kernel_rfl) (by kernel_rfl) (by kernel_rfl) (λ_ _ _ h=>h) (JH ⟨by rfl,?_⟩) ?_
   .intro W
    go_simp
   refine I6 (rs:=[1,3]) (by kernel_rfl) (by simp) ?_;refine IM rfl (λK hK=>?_) (IM rfl (λK hK=>?_) IZ)
   .have HK:Hid _:=hK
    clear hK;go_simp;refine HK.out _ _ ?_;clear HK K;refine I6 (rs:=[3]) (by kernel_rfl) (by simp) ?_;refine IM rfl (λK hK=>?_) IZ;have HK:Hid _:=hK;clear hK;go_simp;refine A7.out.mono ?_;rintro e w5 ⟨h2,⟨r,q,h3,hqt,yj,rfl,h1⟩|⟨h3,rfl⟩⟩;rotate_left
    .exact⟨rfl,(HS.out.keep (IB _).drew).rd.trans h2.out,.inr ⟨K4.out h3,rfl⟩⟩
    have Pg:Hid (iH t (n-(k+1)) q (D++[r])=RS):=HGO.out r q h3;have yk:Hid (∀x∈D++[r],x.ok):=(show ∀_,_ from λx hx=>by
     rcases J1.1 hx with h|h
     .exact AU.out x h
     .rw[Og.1 h];exact yj)
    clear h3 yj K4 HGO A9 AU;have ux:Hid (St g t w 43 aJ q #[O J id,AT ay,AT cut,O J code,I R,O J al,v] w5):=(HS.out.keep (IB _).drew).call h1 h2;have mM:Hid (Rc.Own (w.heap.size+2) w5 v D):=h2.out.Pd (Qi HO.out) (by omega);have fW:w.heap.size+2<=w5.heap.size:=Ir bb h2.out.size;have KU:w5.cell? ⟨w.heap.size+1,6,Y⟩=Z v:=ux.out.cell 6;clear h1 h2;refine HK.out _ _ ?_;clear HK K;refine I6 (rs:=[4]) (by kernel_rfl) (by simp) ?_;refine IM rfl (λK hK=>?_) IZ;have HK:Hid _:=hK;clear hK;go_simp;refine HK.out _ _ ?_;clear HK K;refine I6 (rs:=[5]) (by kernel_rfl) (by simp) ?_;refine IM rfl (λK hK=>?_) IZ;have HK:Hid _:=hK;clear hK;rw[if_pos (by rfl)];refine Q1 _ _ _ 41 rfl (w.heap.size+2) 64 i0 _ 7 80 O2 eP cE gn ga rfl (by omega) v D.length (Rc.fl D) rfl (J6 mM.out _) ⟨w5.heap.size,0,Y⟩ 1 1 r.cs rfl rfl (Ol (cs:=#[I r.name,O J r.al,O J r.aE,O J r.addr,I r.text,O J r.port,I r.target]) (t:=64) (fr:=(0,0)) (Ie w5 _)) (Rc.da r) (by unfold maxLen;omega) (by omega) (by simp;omega) ?_;intro v' w6 r1 r2 r3;obtain⟨ao,l',c',qf⟩:∃ao l' c',v'=U ao l' c':=by
     rcases r1.2 with⟨hv,_⟩|⟨gq,cq,_,hv,_⟩
     .exact⟨_,_,_,hv⟩
     .exact⟨_,_,_,hv⟩
    subst qf;have lA:w5.Extends (w5.alloc (.cells #[I r.name,O J r.al,O J r.aE,O J r.addr,I r.text,O J r.port,I r.target] 64)):=(IB w5).alloc _;have lB:∀q,q<w.heap.size+2->Z q≠v.ownBlock:=λq hq e=>by have:=(mM.out.lt q e.symm).1;omega
    have mN:Hid (St g t w 43 aJ q #[O J id,AT ay,AT cut,O J code,I R,O J al,v] w6):=(show St _ _ _ _ _ _ _ _ from(ux.out.keep lA).grown r2 (λq hq=>lB q hq));have nG:Hid (Rc.Own (w.heap.size+2) w6 (U ao l' c') (D++[r])):=(show Rc.Own _ _ _ _ by exact Rc.ew r1);have sG:w.heap.size+2<=w6.heap.size:=by have:=r2.size;simp at this;omega
    have KV:w6.cell? ⟨w.heap.size+1,6,Y⟩=Z v:=mN.out.cell 6;have CF:=mN.out.free 6;clear r1 r2 r3 lA lB ux mM fW KU;refine HK.out _ _ ?_;clear HK K;refine I6 (rs:=[6]) (by kernel_rfl) (by simp) ?_;refine IM rfl (λK hK=>?_) IZ;have HK:Hid _:=hK;clear hK;go_simp;refine HK.out _ _ ?_;clear HK K;refine I6 (rs:=[7]) (by kernel_rfl) (by simp) ?_;refine IM rfl (λK hK=>?_) IZ;have HK:Hid _:=hK;clear hK;go_simp;refine HK.out _ _ ?_;clear HK K;refine wpAny_done (by kernel_rfl) ?_ _;have A8:Hid (St g t w 43 aJ q #[O J id,AT ay,AT cut,O J code,I R,O J al,U ao l' c'] (w6.setCell ⟨w.heap.size+1,6,Y⟩ (U ao l' c'))):=mN.out.store 6 (U ao l' c');have KW:Hid (Rc.Own (w.heap.size+2) (w6.setCell ⟨w.heap.size+1,6,Y⟩ (U ao l' c')) (U ao l' c') (D++[r])):=aU nG.out (by omega);have Ae:w.heap.size+2<=(w6.setCell ⟨w.heap.size+1,6,Y⟩ (U ao l' c')).heap.size:=by simpa using sG
    clear mN nG sG KV CF;go_wp2_with fail;exact⟨⟨k+1,U ao l' c',D++[r],q,by omega,by go_num,by rw[Ij,JB,hDk],hqt,Pg,yk,A8,KW,Ae⟩,by simp[intOf];omega⟩
   .have HK:Hid _:=hK
    clear hK;go_simp;refine A7.out.mono ?_;rintro e w5 ⟨h2,⟨r,q,h3,hqt,yj,rfl,h1⟩|⟨h3,rfl⟩⟩;rotate_left
    .exact⟨rfl,(HS.out.keep (IB _).drew).rd.trans h2.out,.inr ⟨K4.out h3,rfl⟩⟩
    have Pg:Hid (iH t (n-(k+1)) q (D++[r])=RS):=HGO.out r q h3;have yk:Hid (∀x∈D++[r],x.ok):=(show ∀_,_ from λx hx=>by
     rcases J1.1 hx with h|h
     .exact AU.out x h
     .rw[Og.1 h];exact yj)
    clear h3 yj K4 HGO A9 AU;have ux:Hid (St g t w 43 aJ q #[O J id,AT ay,AT cut,O J code,I R,O J al,v] w5):=(HS.out.keep (IB _).drew).call h1 h2;have mM:Hid (Rc.Own (w.heap.size+2) w5 v D):=h2.out.Pd (Qi HO.out) (by omega);have fW:w.heap.size+2<=w5.heap.size:=Ir bb h2.out.size;have KU:w5.cell? ⟨w.heap.size+1,6,Y⟩=Z v:=ux.out.cell 6;clear h1 h2;refine HK.out _ _ ?_;clear HK K;refine I6 (rs:=[1,4]) (by kernel_rfl) (by simp) ?_;refine IM rfl (λK hK=>?_) (IM rfl (λK hK=>?_) IZ)
    .have HK:Hid _:=hK
     clear hK;go_simp;refine HK.out _ _ ?_;clear HK K;refine I6 (rs:=[4]) (by kernel_rfl) (by simp) ?_;refine IM rfl (λK hK=>?_) IZ;have HK:Hid _:=hK;clear hK;go_simp;refine HK.out _ _ ?_;clear HK K;refine I6 (rs:=[5]) (by kernel_rfl) (by simp) ?_;refine IM rfl (λK hK=>?_) IZ;have HK:Hid _:=hK;clear hK;rw[if_pos (by rfl)];refine Q1 _ _ _ 41 rfl (w.heap.size+2) 64 i0 _ 7 80 O2 eP cE gn ga rfl (by omega) v D.length (Rc.fl D) rfl (J6 mM.out _) ⟨w5.heap.size,0,Y⟩ 1 1 r.cs rfl rfl (Ol (cs:=#[I r.name,O J r.al,O J r.aE,O J r.addr,I r.text,O J r.port,I r.target]) (t:=64) (fr:=(0,0)) (Ie w5 _)) (Rc.da r) (by unfold maxLen;omega) (by omega) (by simp;omega) ?_;intro v' w6 r1 r2 r3;obtain⟨ao,l',c',qf⟩:∃ao l' c',v'=U ao l' c':=by
      rcases r1.2 with⟨hv,_⟩|⟨gq,cq,_,hv,_⟩
      .exact⟨_,_,_,hv⟩
      .exact⟨_,_,_,hv⟩
     subst qf;have lA:w5.Extends (w5.alloc (.cells #[I r.name,O J r.al,O J r.aE,O J r.addr,I r.text,O J r.port,I r.target] 64)):=(IB w5).alloc _;have lB:∀q,q<w.heap.size+2->Z q≠v.ownBlock:=λq hq e=>by have:=(mM.out.lt q e.symm).1;omega
     have mN:Hid (St g t w 43 aJ q #[O J id,AT ay,AT cut,O J code,I R,O J al,v] w6):=(show St _ _ _ _ _ _ _ _ from(ux.out.keep lA).grown r2 (λq hq=>lB q hq));have nG:Hid (Rc.Own (w.heap.size+2) w6 (U ao l' c') (D++[r])):=(show Rc.Own _ _ _ _ by exact Rc.ew r1);have sG:w.heap.size+2<=w6.heap.size:=by have:=r2.size;simp at this;omega
     have KV:w6.cell? ⟨w.heap.size+1,6,Y⟩=Z v:=mN.out.cell 6;have CF:=mN.out.free 6;clear r1 r2 r3 lA lB ux mM fW KU;refine HK.out _ _ ?_;clear HK K;refine I6 (rs:=[6]) (by kernel_rfl) (by simp) ?_;refine IM rfl (λK hK=>?_) IZ;have HK:Hid _:=hK;clear hK;go_simp;refine HK.out _ _ ?_;clear HK K;refine I6 (rs:=[7]) (by kernel_rfl) (by simp) ?_;refine IM rfl (λK hK=>?_) IZ;have HK:Hid _:=hK;clear hK;go_simp;refine HK.out _ _ ?_;clear HK K;refine wpAny_done (by kernel_rfl) ?_ _;have A8:Hid (St g t w 43 aJ q #[O J id,AT ay,AT cut,O J code,I R,O J al,U ao l' c'] (w6.setCell ⟨w.heap.size+1,6,Y⟩ (U ao l' c'))):=mN.out.store 6 (U ao l' c');have KW:Hid (Rc.Own (w.heap.size+2) (w6.setCell ⟨w.heap.size+1,6,Y⟩ (U ao l' c')) (U ao l' c') (D++[r])):=aU nG.out (by omega);have Ae:w.heap.size+2<=(w6.setCell ⟨w.heap.size+1,6,Y⟩ (U ao l' c')).heap.size:=by simpa using sG
     clear mN nG sG KV CF;go_wp2_with fail;exact⟨⟨k+1,U ao l' c',D++[r],q,by omega,by go_num,by rw[Ij,JB,hDk],hqt,Pg,yk,A8,KW,Ae⟩,by simp[intOf];omega⟩
    .have HK:Hid _:=hK
     clear hK;go_simp;refine HK.out _ _ ?_;clear HK K;have Nf:(w5.alloc (.cells #[I r.name,O J r.al,O J r.aE,O J r.addr,I r.text,O J r.port,I r.target] 64)).cell? ⟨w.heap.size+1,6,Y⟩=Z v:=((IB w5).alloc _).cell_of KU;refine I6 (rs:=[1]) (by kernel_rfl) (by simp) ?_;refine IM rfl (λK hK=>?_) IZ;have HK:Hid _:=hK;clear hK;go_simp;refine HK.out _ _ ?_;clear HK K;refine I6 (rs:=[5]) (by kernel_rfl) (by simp) ?_;refine IM rfl (λK hK=>?_) IZ;have HK:Hid _:=hK;clear hK;rw[if_pos (by rfl)];refine Q1 _ _ _ 41 rfl (w.heap.size+2) 64 i0 _ 7 80 O2 eP cE gn ga rfl (by omega) v D.length (Rc.fl D) rfl (J6 mM.out _) ⟨w5.heap.size,0,Y⟩ 1 1 r.cs rfl rfl (Ol (cs:=#[I r.name,O J r.al,O J r.aE,O J r.addr,I r.text,O J r.port,I r.target]) (t:=64) (fr:=(0,0)) (Ie w5 _)) (Rc.da r) (by unfold maxLen;omega) (by omega) (by simp;omega) ?_;intro v' w6 r1 r2 r3;obtain⟨ao,l',c',qf⟩:∃ao l' c',v'=U ao l' c':=by
      rcases r1.2 with⟨hv,_⟩|⟨gq,cq,_,hv,_⟩
      .exact⟨_,_,_,hv⟩
      .exact⟨_,_,_,hv⟩
     subst qf;have lA:w5.Extends (w5.alloc (.cells #[I r.name,O J r.al,O J r.aE,O J r.addr,I r.text,O J r.port,I r.target] 64)):=(IB w5).alloc _;have lB:∀q,q<w.heap.size+2->Z q≠v.ownBlock:=λq hq e=>by have:=(mM.out.lt q e.symm).1;omega
     have mN:Hid (St g t w 43 aJ q #[O J id,AT ay,AT cut,O J code,I R,O J al,v] w6):=(show St _ _ _ _ _ _ _ _ from(ux.out.keep lA).grown r2 (λq hq=>lB q hq));have nG:Hid (Rc.Own (w.heap.size+2) w6 (U ao l' c') (D++[r])):=(show Rc.Own _ _ _ _ by exact Rc.ew r1);have sG:w.heap.size+2<=w6.heap.size:=by have:=r2.size;simp at this;omega
     have KV:w6.cell? ⟨w.heap.size+1,6,Y⟩=Z v:=mN.out.cell 6;have CF:=mN.out.free 6;clear r1 r2 r3 lA lB ux mM fW KU;refine HK.out _ _ ?_;clear HK K;refine I6 (rs:=[6]) (by kernel_rfl) (by simp) ?_;refine IM rfl (λK hK=>?_) IZ;have HK:Hid _:=hK;clear hK;go_simp;refine HK.out _ _ ?_;clear HK K;refine I6 (rs:=[7]) (by kernel_rfl) (by simp) ?_;refine IM rfl (λK hK=>?_) IZ;have HK:Hid _:=hK;clear hK;go_simp;refine HK.out _ _ ?_;clear HK K;refine wpAny_done (by kernel_rfl) ?_ _;have A8:Hid (St g t w 43 aJ q #[O J id,AT ay,AT cut,O J code,I R,O J al,U ao l' c'] (w6.setCell ⟨w.heap.size+1,6,Y⟩ (U ao l' c'))):=mN.out.store 6 (U ao l' c');have KW:Hid (Rc.Own (w.heap.size+2) (w6.setCell ⟨w.heap.size+1,6,Y⟩ (U ao l' c')) (U ao l' c') (D++[r])):=aU nG.out (by omega);have Ae:w.heap.size+2<=(w6.setCell ⟨w.heap.size+1,6,Y⟩ (U ao l' c')).heap.size:=by simpa using sG
     clear mN nG sG KV CF;go_wp2_with fail;exact⟨⟨k+1,U ao l' c',D++[r],q,by omega,by go_num,by rw[Ij,JB,hDk],hqt,Pg,yk,A8,KW,Ae⟩,by simp[intOf];omega⟩
  .have gj:k=n:=by omega
   have hd:decide ((k:Int)<(n:Int))=false:=by simp;omega
   have HRE:Hid (RS=Z (D,b)):=(show _=_ by rw[<- A9.out,show n-k=0 by omega];rfl);have Nb:Hid (F=if b=t.size then Z ⟨id,code,al,ay,cut,R,D⟩ else Y):=(show _=_ by rw[HFB.out,HRE.out];rfl);have ct:wr.cell? ⟨g,0,Y⟩=Z (I t):=HS.out.di.c0;have ca:wr.cell? ⟨g,1,Y⟩=Z (O J b):=HS.out.di.c1;have HOF:Hid (Rc.Own (w.heap.size+2) wr v D):=HO;clear A9 HRE HFB aah;obtain⟨av,lv,cv,oR⟩:∃a l c,v=U a l c:=by
    rcases HO.out.2 with⟨hv,_⟩|⟨gq,cq,_,hv,_⟩
    .exact⟨_,_,_,hv⟩
    .exact⟨_,_,_,hv⟩
   subst oR;have m0:wr.cell? ⟨w.heap.size+1,0,Y⟩=Z (O J id):=HS.out.cell 0;have q0:wr.cell? ⟨w.heap.size,0,Y⟩=Z (O J 0):=HS.out.fh 0;have y0:=HS.out.fi 0;have m1:wr.cell? ⟨w.heap.size+1,1,Y⟩=Z (AT ay):=HS.out.cell 1;have q1:wr.cell? ⟨w.heap.size,1,Y⟩=Z (AT false):=HS.out.fh 1;have y1:=HS.out.fi 1;have m2:wr.cell? ⟨w.heap.size+1,2,Y⟩=Z (AT cut):=HS.out.cell 2;have q2:wr.cell? ⟨w.heap.size,2,Y⟩=Z (AT false):=HS.out.fh 2;have y2:=HS.out.fi 2;have m3:wr.cell? ⟨w.heap.size+1,3,Y⟩=Z (O J code):=HS.out.cell 3;have q3:wr.cell? ⟨w.heap.size,3,Y⟩=Z (O J 0):=HS.out.fh 3;have y3:=HS.out.fi 3;have m4:wr.cell? ⟨w.heap.size+1,4,Y⟩=Z (I R):=HS.out.cell 4;have q4:wr.cell? ⟨w.heap.size,4,Y⟩=Z (I ⟨#[]⟩):=HS.out.fh 4;have y4:=HS.out.fi 4;have m5:wr.cell? ⟨w.heap.size+1,5,Y⟩=Z (O J al):=HS.out.cell 5;have q5:wr.cell? ⟨w.heap.size,5,Y⟩=Z (O J 0):=HS.out.fh 5;have y5:=HS.out.fi 5;have m6:wr.cell? ⟨w.heap.size+1,6,Y⟩=Z (U av lv cv):=HS.out.cell 6;have q6:wr.cell? ⟨w.heap.size,6,Y⟩=Z (U Y 0 0):=HS.out.fh 6;have y6:=HS.out.fi 6;clear gj;by_cases hbe:b=t.size
   .have HFD:Hid (F=Z ⟨id,code,al,ay,cut,R,D⟩):=Nb.out.trans (if_pos hbe)
    subst hbe;clear Nb;go_wp2_with fail;go_region_held3 (λw'=>w'.cell? ⟨g,0,Y⟩=Z (I t)/\w'.cell? ⟨g,1,Y⟩=Z (O J t.size)) (go_keep) (first|(go_at_call 69;refine(bZ _ _).mono ?_;rintro e w5 ⟨rfl,rfl⟩)|fail)
    go_wp2_with fail;refine bodyPost_ret (v:=.agg #[O J id,AT ay,AT cut,O J code,I R,O J al,U av lv cv]) ?_ rfl ⟨?_,.inl ⟨_,U av lv cv,HFD.out,⟨h4,AU.out⟩,rfl,?_⟩⟩
    .simp[results,Tryz.results52,go_sem,q0,q1,q2,q3,q4,q5,q6]
    .exact(Rd.trans (((((((HS.out.rd.put 0 _ (By _)).put 1 _ (By _)).put 2 _ (By _)).put 3 _ (By _)).put 4 _ (By _)).put 5 _ (By _)).put 6 _ (By _)) (Rd.ext (IB _).drew):Rd g w _)
    .exact Qi (aU (i:=6) (aU (i:=5) (aU (i:=4) (aU (i:=3) (aU (i:=2) (aU (i:=1) (aU (i:=0) HOF.out (by omega)) (by omega)) (by omega)) (by omega)) (by omega)) (by omega)) (by omega))
   .have HFD:Hid (F=Y):=Nb.out.trans (if_neg hbe)
    have heb:((b:Int)==(t.size:Int))=false:=beq_eq_false_iff_ne.2 (by omega);clear Nb;go_wp2_with fail;refine wp_region_held_drew (S:=λW=>W.cell? ⟨g,0,Y⟩=Z (I t)/\W.cell? ⟨g,1,Y⟩=Z (O J b)) (by kernel_rfl) ⟨ct,ca⟩ (λqb=>?_);refine IV (i:=0) (v:=?v0) rfl (by kernel_rfl) (by kernel_rfl) (by kernel_rfl) (λ_ _ _ h=>h) (JH ⟨by rfl,?hy0⟩) (by assumption) ?_
    case hy0=>(intro W ei;obtain⟨d0,d1⟩:=ei;go_simp;try with_reducible rfl)
    refine IV (i:=1) (v:=?v1) rfl (by kernel_rfl) (by kernel_rfl) (by kernel_rfl) (λ_ _ _ h=>h) (JH ⟨by rfl,?hy1⟩) (by assumption) ?_
    case hy1=>(intro W ei;obtain⟨d0,d1⟩:=ei;go_simp;try with_reducible rfl)
    refine IV (i:=2) (v:=?v2) rfl (by kernel_rfl) (by kernel_rfl) (by kernel_rfl) (λ_ _ _ h=>h) (JH ⟨by rfl,?hy2⟩) (by assumption) ?_
    case hy2=>(intro W ei;obtain⟨d0,d1⟩:=ei;go_simp;try with_reducible rfl)
    refine IV (i:=3) (v:=?v3) rfl (by kernel_rfl) (by kernel_rfl) (by kernel_rfl) (λ_ _ _ h=>h) (JH ⟨by rfl,?hy3⟩) (by assumption) ?_
    case hy3=>(intro W ei;obtain⟨d0,d1⟩:=ei;go_simp;try with_reducible rfl)
    refine IV (i:=4) (v:=?v4) rfl (by kernel_rfl) (by kernel_rfl) (by kernel_rfl) (λ_ _ _ h=>h) (JH ⟨by rfl,?hy4⟩) (by assumption) ?_
    case hy4=>(intro W ei;obtain⟨d0,d1⟩:=ei;go_simp;try with_reducible rfl)
    refine IV (i:=5) (v:=?v5) rfl (by kernel_rfl) (by kernel_rfl) (by kernel_rfl) (λ_ _ _ h=>h) (JH ⟨by rfl,?hy5⟩) (by assumption) ?_
    case hy5=>(intro W ei;obtain⟨d0,d1⟩:=ei;go_simp;try with_reducible rfl)
    refine IV (i:=6) (v:=?v6) rfl (by kernel_rfl) (by kernel_rfl) (by kernel_rfl) (λ_ _ _ h=>h) (JH ⟨by rfl,?hy6⟩) (by assumption) ?_
    case hy6=>(intro W ei;obtain⟨d0,d1⟩:=ei;go_simp;try with_reducible rfl)
    refine IV (i:=7) (v:=?v7) rfl (by kernel_rfl) (by kernel_rfl) (by kernel_rfl) (λ_ _ _ h=>h) (JH ⟨by rfl,?hy7⟩) (by assumption) ?_
    case hy7=>(intro W ei;obtain⟨d0,d1⟩:=ei;go_simp;try with_reducible rfl)
    refine IV (i:=8) (v:=?v8) rfl (by kernel_rfl) (by kernel_rfl) (by kernel_rfl) (λ_ _ _ h=>h) (JH ⟨by rfl,?hy8⟩) (by assumption) ?_
    case hy8=>(intro W ei;obtain⟨d0,d1⟩:=ei;go_simp;try with_reducible rfl)
    refine IV (i:=9) (v:=?v9) rfl (by kernel_rfl) (by kernel_rfl) (by kernel_rfl) (λ_ _ _ h=>h) (JH ⟨by rfl,?hy9⟩) (by assumption) ?_
    case hy9=>(intro W ei;obtain⟨d0,d1⟩:=ei;go_simp;try with_reducible rfl)
    refine wpAnyH_ready (rs:=[10]) (by kernel_rfl) (by simp) ?_;refine AllReadyH.cons rfl (λK hK=>?_) AllReadyH.nil;go_simp;refine(cQ _ _).mono ?_;rintro e w5 ⟨rfl,rfl⟩;exact⟨rfl,HS.out.rd.trans (nU g wr 1),.inr ⟨HFD.out,rfl⟩⟩
end Go.Proofs.YtfidjlcdlakceaaGreatDoor
