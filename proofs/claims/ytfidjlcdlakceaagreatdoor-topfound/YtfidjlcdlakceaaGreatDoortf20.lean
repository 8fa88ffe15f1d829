import Derived.Test.YtfidjlcdlakceaaGreatDoortf19
set_option maxHeartbeats 3200000
set_option maxRecDepth 100000
open Option renaming some→Z,none→Y
open Go.IntKind renaming i64→J
open Go.Value renaming int→O,bool→AI,string→I,pointer→If,slice→U
open Go.Proofs.Tryz renaming prog→be,underlying41→O3
open Go.World.Extends renaming refl→Iy
open Go renaming heap_alloc_new→Ie,wpAny_ready→Je,wp_append_own→Uk,wpAnyH_take→I4
open Or renaming inl→JM
open Go.AllReady renaming cons→IU,nil→I7
open List renaming mem_append→JU,mem_singleton→J1,length_append→Ii,length_singleton→JB
open Go.World.ownsRow renaming drew→Ql,alloc→J9
open Nat renaming le_trans→Ir,le_refl→By
open Go.World renaming news_of_block→Oo
namespace Go.Proofs.YtfidjlcdlakceaaGreatDoor
open Go.RowKit
structure Ms where
 id:Int
 code:Int
 an:Int
 aB:Bool
 cut:Bool
 R:ByteArray
 rs:List Rc.Rec
def jw(t:ByteArray):Nat->Nat->List Rc.Rec->Option (List Rc.Rec×Nat)
 |0,a,D=>Z (D,a)
 |n+1,a,D=>match sB t a with
  |none=>Y
  |some (r,q)=>jw t n q (D++[r])
def T2(t:ByteArray)(id:Int)(aB cut:Bool)(code:Int)(R:ByteArray)(an:Int)(o:Option (List Rc.Rec×Nat)):Option Ms:=
 match o with
 |none=>Y
 |some (rs,q)=>if q=t.size then Z ⟨id,code,an,aB,cut,R,rs⟩ else Y
def aaB(t:ByteArray)(id:Int)(aB cut:Bool)(code:Int)(n:Nat)(o:Option (ByteArray×Nat)):Option Ms:=
 match o with
 |none=>Y
 |some (R,p)=>if p+2<=t.size then if p+2+2<=t.size/\(ax t (p+2) 2:Int)=1 then T2 t id aB cut code R (ax t p 2) (jw t n (p+2+2) []) else Y else Y
def T3(t:ByteArray)(id F:Int)(aB cut:Bool):Option Ms:=
 if F=pc aB cut then
  if 3+1<=t.size then
   if 4+2<=t.size/\(ax t 4 2:Int)=1 then
    if 6+2<=t.size then
     if 8+2<=t.size/\(ax t 8 2:Int)=0 then
      if 10+2<=t.size/\(ax t 10 2:Int)=0 then aaB t id aB cut (ax t 3 1) (ax t 6 2) (Mf t 12) else Y
     else Y
    else Y
   else Y
  else Y
 else Y
def qL(t:ByteArray):Option Ms:=
 if 0+2<=t.size then
  if 2+1<=t.size then T3 t (ax t 0 2) (ax t 2 1) (bits .and J (ax t 2 1) 128 !=0) (bits .and J (ax t 2 1) 2 !=0) else Y
 else Y
theorem N2{t:ByteArray}{n a:Nat}{D:List Rc.Rec}(h:sB t a=Y)(hn:0<n):jw t n a D=Y:=by
 obtain⟨m,rfl⟩:∃m,n=m+1:=⟨n-1,by omega⟩;simp only[jw,h]
theorem N3{t:ByteArray}{n a q:Nat}{r:Rc.Rec}{D:List Rc.Rec}(h:sB t a=Z (r,q))(hn:0<n):jw t n a D=jw t (n-1) q (D++[r]):=by
 obtain⟨m,rfl⟩:∃m,n=m+1:=⟨n-1,by omega⟩;simp only[jw,h,Nat.add_sub_cancel]
abbrev MsP(g:Nat)(w:World)(F:Option Ms)(e:Ending)(w':World):Prop:=
 Hid (Rd g w w')/\((∃M v,F=Z M/\(M.R.size<=1000/\∀r∈M.rs,r.ok)/\e=.returned (.agg #[O J M.id,AI M.aB,AI M.cut,O J M.code,I M.R,O J M.an,v])/\Hid (Rc.Own (w.heap.size+2) w' v M.rs))\/(F=Y/\e=dW 1))
theorem N6(g:Nat)(t:ByteArray)(w:World)(h:dR g t 0 w)(hs:t.size<=1000) :
 Calls be 52 #[If (Z ⟨g,0,Y⟩)] w (MsP g w (qL t)):=by
 have HF:Hid (qL t=if 0+2<=t.size then
  if 2+1<=t.size then T3 t (ax t 0 2) (ax t 2 1) (bits .and J (ax t 2 1) 128 !=0) (bits .and J (ax t 2 1) 2 !=0) else Y
 else Y):=rfl
 have HI:Hid (dR g t 0 w):=h;have hg:=h.hg;clear h;unfold MsP;generalize qL t=F at *;go_enter Tryz.func52,Tryz.ntmps52;go_wp2_with fail;obtain⟨w0,dJ⟩:∃w0,w0=(w.alloc (.cells aQ 43)).alloc (.cells aQ 43):=⟨_,rfl⟩;rw[<- dJ];have S0:Hid (St g t w 43 aQ 0 aQ w0):=(show St _ _ _ _ _ _ _ _ by
  have hx:w.Extends w0:=by rw[dJ];exact((Iy w).alloc _).alloc _
  refine⟨HI.out.ext hx,Rd.ext hx,?_,?_,hg⟩
  .rw[dJ]
   exact(Lib.alloc_old _ _ _ (by simp)).trans (Ie w _)
  .rw[dJ]
   have:=Ie (w.alloc (.cells aQ 43)) (.cells aQ 43);simpa using this)
 clear dJ;refine(ew g 0 2 t w0 S0.out.dE hs (by omega) (by omega)).mono ?_;rintro e w1 ⟨h2,⟨l0,rfl,h1⟩|⟨iV,rfl⟩⟩;rotate_left
 .exact⟨rfl,S0.out.rd.trans h2.out,.inr ⟨HF.out.trans (if_neg iV),rfl⟩⟩
 have HF0:Hid (F=if 2+1<=t.size then T3 t (ax t 0 2) (ax t 2 1) (bits .and J (ax t 2 1) 128 !=0) (bits .and J (ax t 2 1) 2 !=0) else Y):=HF.out.trans (if_pos l0);have S1:Hid (St g t w 43 aQ 2 aQ w1):=S0.out.call h1 h2;have z1:=S1.out.free 0;have c1:w1.cell? ⟨w.heap.size+1,0,Y⟩=Z (O J 0):=S1.out.cell 0;clear h1 h2 S0 HF;generalize(ax t 0 2:Int)=id at *;go_wp2_with fail;have S2:Hid (St g t w 43 aQ 2 #[O J id,AI false,AI false,O J 0,I ⟨#[]⟩,O J 0,U Y 0 0] (w1.setCell ⟨w.heap.size+1,0,Y⟩ (O J id))):=S1.out.store 0 (O J id);refine(ew g 2 1 t _ S2.out.dE hs (by omega) (by omega)).mono ?_;rintro e w2 ⟨h2,⟨l2,rfl,h1⟩|⟨iV,rfl⟩⟩;rotate_left
 .exact⟨rfl,S2.out.rd.trans h2.out,.inr ⟨HF0.out.trans (if_neg iV),rfl⟩⟩
 have zH:Hid (F=T3 t id (ax t 2 1) (bits .and J (ax t 2 1) 128 !=0) (bits .and J (ax t 2 1) 2 !=0)):=HF0.out.trans (if_pos l2);have S3:Hid (St g t w 43 aQ 3 #[O J id,AI false,AI false,O J 0,I ⟨#[]⟩,O J 0,U Y 0 0] w2):=S2.out.call h1 h2;have z1:=S3.out.free 1;have z2:=S3.out.free 2;have c0:w2.cell? ⟨w.heap.size+1,0,Y⟩=Z (O J id):=S3.out.cell 0;have c1:w2.cell? ⟨w.heap.size+1,1,Y⟩=Z (AI false):=S3.out.cell 1;have c2:w2.cell? ⟨w.heap.size+1,2,Y⟩=Z (AI false):=S3.out.cell 2;have c3:w2.cell? ⟨w.heap.size+1,3,Y⟩=Z (O J 0):=S3.out.cell 3;have c4:w2.cell? ⟨w.heap.size+1,4,Y⟩=Z (I ⟨#[]⟩):=S3.out.cell 4;have c5:w2.cell? ⟨w.heap.size+1,5,Y⟩=Z (O J 0):=S3.out.cell 5;have c6:w2.cell? ⟨w.heap.size+1,6,Y⟩=Z (U Y 0 0):=S3.out.cell 6;clear h1 h2 S1 S2 HF0;generalize(ax t 2 1:Int)=fl at *;obtain⟨aB,al⟩:∃x,(bits .and J fl 128 !=0)=x:=⟨_,rfl⟩;obtain⟨cut,aC⟩:∃x,(bits .and J fl 2 !=0)=x:=⟨_,rfl⟩;rw[al,aC] at zH;go_wp2_with fail;have S4:Hid (St g t w 43 aQ 3 #[O J id,AI aB,AI cut,O J 0,I ⟨#[]⟩,O J 0,U Y 0 0] ((w2.setCell ⟨w.heap.size+1,1,Y⟩ (AI aB)).setCell ⟨w.heap.size+1,2,Y⟩ (AI cut))):=(S3.out.store 1 (AI aB)).store 2 (AI cut);refine(nx id 0 0 aB cut ⟨#[]⟩ _).mono ?_;rintro e w3 ⟨rfl,o,zN⟩;have S5:Hid (St g t w 43 aQ 3 #[O J id,AI aB,AI cut,O J 0,I ⟨#[]⟩,O J 0,U Y 0 0] w3):=(show St _ _ _ _ _ _ _ _ by rw[zN];exact S4.out.keep ((Iy _).alloc _));have wJ:Hid (F=if fl=pc aB cut then
  if 3+1<=t.size then
   if 4+2<=t.size/\(ax t 4 2:Int)=1 then
    if 6+2<=t.size then
     if 8+2<=t.size/\(ax t 8 2:Int)=0 then
      if 10+2<=t.size/\(ax t 10 2:Int)=0 then aaB t id aB cut (ax t 3 1) (ax t 6 2) (Mf t 12) else Y
     else Y
    else Y
   else Y
  else Y
 else Y):=zH
 clear zN z1 z2 c0 c1 c2 c3 c4 c5 c6 S3 S4 al aC zH;generalize pc aB cut=fg at *;by_cases oi:fl=fg;rotate_left
 .have hfb:(fl==fg)=false:=by simpa using oi
  have zP:Hid (F=Y):=wJ.out.trans (if_neg oi);clear wJ oi;go_wp2_with fail;refine(dd _ _).mono ?_;rintro e w4 ⟨rfl,yD⟩;subst yD;exact⟨rfl,S5.out.rd,.inr ⟨zP.out,rfl⟩⟩
 have hfb:(fl==fg)=true:=by simpa using oi
 have zP:Hid _:=wJ.out.trans (if_pos oi);clear wJ oi;go_wp2_with fail;refine(cy _ _).mono ?_;rintro e w4 ⟨rfl,yD⟩;subst yD;clear hfb;go_wp2_with fail;refine(ew g 3 1 t _ S5.out.dE hs l2 (by omega)).mono ?_;rintro e w5 ⟨h2,⟨l3,rfl,h1⟩|⟨iV,rfl⟩⟩;rotate_left
 .exact⟨rfl,S5.out.rd.trans h2.out,.inr ⟨zP.out.trans (if_neg iV),rfl⟩⟩
 have TW:Hid _:=zP.out.trans (if_pos l3);have S6:Hid (St g t w 43 aQ 4 #[O J id,AI aB,AI cut,O J 0,I ⟨#[]⟩,O J 0,U Y 0 0] w5):=S5.out.call h1 h2;have z3:=S6.out.free 3;have c3:w5.cell? ⟨w.heap.size+1,3,Y⟩=Z (O J 0):=S6.out.cell 3;clear h1 h2 S5 zP;generalize(ax t 3 1:Int)=code at *;go_wp2_with fail;have S7:Hid (St g t w 43 aQ 4 #[O J id,AI aB,AI cut,O J code,I ⟨#[]⟩,O J 0,U Y 0 0] (w5.setCell ⟨w.heap.size+1,3,Y⟩ (O J code))):=S6.out.store 3 (O J code);refine(ik g 4 2 1 t _ S7.out.dE hs l3 (by omega)).mono ?_;rintro e w6 ⟨h2,⟨l4,rfl,h1⟩|⟨iV,rfl⟩⟩;rotate_left
 .exact⟨rfl,S7.out.rd.trans h2.out,.inr ⟨TW.out.trans (if_neg iV),rfl⟩⟩
 have HF5:Hid _:=TW.out.trans (if_pos l4);have S8:Hid (St g t w 43 aQ 6 #[O J id,AI aB,AI cut,O J code,I ⟨#[]⟩,O J 0,U Y 0 0] w6):=S7.out.call h1 h2;clear h1 h2 S6 S7 z3 c3 TW;go_wp2_with fail;refine(ew g 6 2 t _ S8.out.dE hs l4.1 (by omega)).mono ?_;rintro e w7 ⟨h2,⟨l6,rfl,h1⟩|⟨iV,rfl⟩⟩;rotate_left
 .exact⟨rfl,S8.out.rd.trans h2.out,.inr ⟨HF5.out.trans (if_neg iV),rfl⟩⟩
 have HF6:Hid _:=HF5.out.trans (if_pos l6);have S9:Hid (St g t w 43 aQ 8 #[O J id,AI aB,AI cut,O J code,I ⟨#[]⟩,O J 0,U Y 0 0] w7):=S8.out.call h1 h2;have amX:=sV t 6 2;clear h1 h2 S8 HF5;generalize ax t 6 2=n at *;go_wp2_with fail;refine(ik g 8 2 0 t _ S9.out.dE hs l6 (by omega)).mono ?_;rintro e w8 ⟨h2,⟨l8,rfl,h1⟩|⟨iV,rfl⟩⟩;rotate_left
 .exact⟨rfl,S9.out.rd.trans h2.out,.inr ⟨HF6.out.trans (if_neg iV),rfl⟩⟩
 have WT:Hid _:=HF6.out.trans (if_pos l8);have SA:Hid (St g t w 43 aQ 10 #[O J id,AI aB,AI cut,O J code,I ⟨#[]⟩,O J 0,U Y 0 0] w8):=S9.out.call h1 h2;clear h1 h2 S9 HF6;go_wp2_with fail;refine(ik g 10 2 0 t _ SA.out.dE hs l8.1 (by omega)).mono ?_;rintro e w9 ⟨h2,⟨l10,rfl,h1⟩|⟨iV,rfl⟩⟩;rotate_left
 .exact⟨rfl,SA.out.rd.trans h2.out,.inr ⟨WT.out.trans (if_neg iV),rfl⟩⟩
 have HF8:Hid (F=aaB t id aB cut code n (Mf t 12)):=WT.out.trans (if_pos l10);have SB:Hid (St g t w 43 aQ 12 #[O J id,AI aB,AI cut,O J code,I ⟨#[]⟩,O J 0,U Y 0 0] w9):=SA.out.call h1 h2;clear h1 h2 SA WT;go_wp2_with fail;refine(Du g 12 t _ SB.out.dE hs l10.1).mono ?_;rintro e wa ⟨h2,⟨R,p,h3,h4,h5,rfl,h1⟩|⟨h3,rfl⟩⟩;rotate_left
 .exact⟨rfl,SB.out.rd.trans h2.out,.inr ⟨by rw[HF8.out,h3];rfl,rfl⟩⟩
 have HF9:Hid (F=if p+2<=t.size then if p+2+2<=t.size/\(ax t (p+2) 2:Int)=1 then T2 t id aB cut code R (ax t p 2) (jw t n (p+2+2) []) else Y else Y):=(show _=_ by rw[HF8.out,h3];rfl);have SC:Hid (St g t w 43 aQ p #[O J id,AI aB,AI cut,O J code,I ⟨#[]⟩,O J 0,U Y 0 0] wa):=SB.out.call h1 h2;have z4:=SC.out.free 4;have c4:wa.cell? ⟨w.heap.size+1,4,Y⟩=Z (I ⟨#[]⟩):=SC.out.cell 4;clear h1 h2 h3 SB HF8;go_wp2_with fail;have SD:Hid (St g t w 43 aQ p #[O J id,AI aB,AI cut,O J code,I R,O J 0,U Y 0 0] (wa.setCell ⟨w.heap.size+1,4,Y⟩ (I R))):=SC.out.store 4 (I R);refine(ew g p 2 t _ SD.out.dE hs h5 (by omega)).mono ?_;rintro e wb ⟨h2,⟨lp,rfl,h1⟩|⟨iV,rfl⟩⟩;rotate_left
 .exact⟨rfl,SD.out.rd.trans h2.out,.inr ⟨HF9.out.trans (if_neg iV),rfl⟩⟩
 have Dy:Hid (F=if p+2+2<=t.size/\(ax t (p+2) 2:Int)=1 then T2 t id aB cut code R (ax t p 2) (jw t n (p+2+2) []) else Y):=HF9.out.trans (if_pos lp);have SE:Hid (St g t w 43 aQ (p+2) #[O J id,AI aB,AI cut,O J code,I R,O J 0,U Y 0 0] wb):=SD.out.call h1 h2;have z5:=SE.out.free 5;have c5:wb.cell? ⟨w.heap.size+1,5,Y⟩=Z (O J 0):=SE.out.cell 5;clear h1 h2 SC SD z4 c4 HF9;generalize(ax t p 2:Int)=an at *;go_wp2_with fail;have SF:Hid (St g t w 43 aQ (p+2) #[O J id,AI aB,AI cut,O J code,I R,O J an,U Y 0 0] (wb.setCell ⟨w.heap.size+1,5,Y⟩ (O J an))):=SE.out.store 5 (O J an);refine(ik g (p+2) 2 1 t _ SF.out.dE hs lp (by omega)).mono ?_;rintro e wc ⟨h2,⟨lq,rfl,h1⟩|⟨iV,rfl⟩⟩;rotate_left
 .exact⟨rfl,SF.out.rd.trans h2.out,.inr ⟨Dy.out.trans (if_neg iV),rfl⟩⟩
 obtain⟨RS,hRS⟩:∃RS,RS=jw t n (p+2+2) []:=⟨_,rfl⟩;have HFB:Hid (F=T2 t id aB cut code R an RS):=(show _=_ by rw[hRS];exact Dy.out.trans (if_pos lq));have adf:Hid (jw t (n-0) (p+2+2) []=RS):=hRS.symm;have SG:Hid (St g t w 43 aQ (p+2+2) #[O J id,AI aB,AI cut,O J code,I R,O J an,U Y 0 0] wc):=SF.out.call h1 h2;have lp4:=lq.1;clear h1 h2 SE SF z5 c5 Dy hRS lq;go_wp2_with fail;have hzw:w.heap.size+2<=wc.heap.size:=(Array.getElem?_eq_some_iff.1 SG.out.bx).1;obtain⟨i0,ei,bW,fs,eU⟩:=info_parts Tryz.Fq;go_loopw [46] (λi wr=>∃(k:Nat) (v:Value) (D:List Rc.Rec) (b:Nat),k<=n/\i=O J k/\D.length=k/\b<=t.size/\Hid (jw t (n-k) b D=RS)/\Hid (∀r∈D,r.ok)/\Hid (St g t w 43 aQ b #[O J id,AI aB,AI cut,O J code,I R,O J an,v] wr)/\Hid (Rc.Own (w.heap.size+2) wr v D)/\w.heap.size+2<=wr.heap.size) (λi _=>n-(intOf i).toNat)
 case atStart=>exact⟨0,U Y 0 0,[],p+2+2,Nat.zero_le _,rfl,rfl,lp4,adf,(show ∀_,_ from λr hr=>by cases hr),SG,World.ownsRow_nil _ _ _ _,hzw⟩
 case round=>
  obtain⟨k,v,D,b,hk,rfl,hDk,Sq,Fu,CN,HS,HO,bA⟩:=hrel;by_cases aL:k<n
  .have hd:decide ((k:Int)<(n:Int))=true:=by simp;omega
   have Hj:Hid (Calls be 103 #[If (Z ⟨g,0,Y⟩)] wr.drew λe w'=>Hid (Rd g wr.drew w')/\((∃r q,sB t b=Z (r,q)/\q<=t.size/\r.ok/\e=.returned (mu r)/\Hid (dR g t q w'))\/(sB t b=Y/\e=dW 1))):=aaq g b t wr.drew (HS.out.dE.ext (Iy _).drew) hs Sq;have MZ:Hid (sB t b=Y->F=Y):=λhh=>by
    rw[HFB.out,<- Fu.out,N2 hh (by omega)];rfl
   have HGO:Hid (∀r q,sB t b=Z (r,q)->jw t (n-(k+1)) q (D++[r])=RS):=λr q hh=>by
    rw[<- Fu.out,N3 hh (by omega),show n-(k+1)=n-k-1 by omega]
   generalize sB t b=rf at *;have hvw:wr.cell? ⟨w.heap.size+1,6,Y⟩=Z v:=HS.out.cell 6;go_wp2_with fail;refine wp_region_any (by kernel_rfl) ?_;refine wpAny_take (i:=0) (v:=If (Z ⟨w.heap.size+1,6,Y⟩)) rfl (by kernel_rfl) (by kernel_rfl) (by kernel_rfl) (λ_ _ _ h=>h) (JM ⟨by rfl,?_⟩) ?_
   .intro W
    go_simp
   refine wpAny_take (i:=2) (v:=If (Z ⟨g,0,Y⟩)) rfl (by kernel_rfl) (by kernel_rfl) (by kernel_rfl) (λ_ _ _ h=>h) (JM ⟨by rfl,?_⟩) ?_
   .intro W
    go_simp
   refine Je (rs:=[1,3]) (by kernel_rfl) (by simp) ?_;refine IU rfl (λK hK=>?_) (IU rfl (λK hK=>?_) I7)
   .have HK:Hid _:=hK
    clear hK;go_simp;refine HK.out _ _ ?_;clear HK K;refine Je (rs:=[3]) (by kernel_rfl) (by simp) ?_;refine IU rfl (λK hK=>?_) I7;have HK:Hid _:=hK;clear hK;go_simp;refine Hj.out.mono ?_;rintro e w5 ⟨h2,⟨r,q,h3,hqt,AR,rfl,h1⟩|⟨h3,rfl⟩⟩;rotate_left
    .exact⟨rfl,(HS.out.keep (Iy _).drew).rd.trans h2.out,.inr ⟨MZ.out h3,rfl⟩⟩
    have T4:Hid (jw t (n-(k+1)) q (D++[r])=RS):=HGO.out r q h3;have AW:Hid (∀x∈D++[r],x.ok):=(show ∀_,_ from λx hx=>by
     rcases JU.1 hx with h|h
     .exact CN.out x h
     .rw[J1.1 h];exact AR)
    clear h3 AR MZ HGO Fu CN;have wK:Hid (St g t w 43 aQ q #[O J id,AI aB,AI cut,O J code,I R,O J an,v] w5):=(HS.out.keep (Iy _).drew).call h1 h2;have nT:Hid (Rc.Own (w.heap.size+2) w5 v D):=h2.out.T0 (Ql HO.out) (by omega);have gG:w.heap.size+2<=w5.heap.size:=Ir bA h2.out.size;have NX:w5.cell? ⟨w.heap.size+1,6,Y⟩=Z v:=wK.out.cell 6;clear h1 h2;refine HK.out _ _ ?_;clear HK K;refine Je (rs:=[4]) (by kernel_rfl) (by simp) ?_;refine IU rfl (λK hK=>?_) I7;have HK:Hid _:=hK;clear hK;go_simp;refine HK.out _ _ ?_;clear HK K;refine Je (rs:=[5]) (by kernel_rfl) (by simp) ?_;refine IU rfl (λK hK=>?_) I7;have HK:Hid _:=hK;clear hK;rw[if_pos (by rfl)];refine Uk _ _ _ 41 rfl (w.heap.size+2) 64 i0 _ 7 80 O3 ei bW fs eU rfl (by omega) v D.length (Rc.fl D) rfl (J9 nT.out _) ⟨w5.heap.size,0,Y⟩ 1 1 r.cs rfl rfl (Oo (cs:=#[I r.name,O J r.an,O J r.aK,O J r.addr,I r.text,O J r.port,I r.target]) (t:=64) (fr:=(0,0)) (Ie w5 _)) (Rc.cC r) (by unfold maxLen;omega) (by omega) (by simp;omega) ?_;intro v' w6 r1 r2 r3;obtain⟨ao,l',c',rO⟩:∃ao l' c',v'=U ao l' c':=by
     rcases r1.2 with⟨hv,_⟩|⟨gq,cq,_,hv,_⟩
     .exact⟨_,_,_,hv⟩
     .exact⟨_,_,_,hv⟩
    subst rO;have mC:w5.Extends (w5.alloc (.cells #[I r.name,O J r.an,O J r.aK,O J r.addr,I r.text,O J r.port,I r.target] 64)):=(Iy w5).alloc _;have mD:∀q,q<w.heap.size+2->Z q≠v.ownBlock:=λq hq e=>by have:=(nT.out.lt q e.symm).1;omega
    have mF:Hid (St g t w 43 aQ q #[O J id,AI aB,AI cut,O J code,I R,O J an,v] w6):=(show St _ _ _ _ _ _ _ _ from(wK.out.keep mC).grown r2 (λq hq=>mD q hq));have ny:Hid (Rc.Own (w.heap.size+2) w6 (U ao l' c') (D++[r])):=(show Rc.Own _ _ _ _ by exact Rc.eM r1);have tX:w.heap.size+2<=w6.heap.size:=by have:=r2.size;simp at this;omega
    have NY:w6.cell? ⟨w.heap.size+1,6,Y⟩=Z v:=mF.out.cell 6;have Fs:=mF.out.free 6;clear r1 r2 r3 mC mD wK nT gG NX;refine HK.out _ _ ?_;clear HK K;refine Je (rs:=[6]) (by kernel_rfl) (by simp) ?_;refine IU rfl (λK hK=>?_) I7;have HK:Hid _:=hK;clear hK;go_simp;refine HK.out _ _ ?_;clear HK K;refine Je (rs:=[7]) (by kernel_rfl) (by simp) ?_;refine IU rfl (λK hK=>?_) I7;have HK:Hid _:=hK;clear hK;go_simp;refine HK.out _ _ ?_;clear HK K;refine wpAny_done (by kernel_rfl) ?_ _;have xD:Hid (St g t w 43 aQ q #[O J id,AI aB,AI cut,O J code,I R,O J an,U ao l' c'] (w6.setCell ⟨w.heap.size+1,6,Y⟩ (U ao l' c'))):=mF.out.store 6 (U ao l' c');have NZ:Hid (Rc.Own (w.heap.size+2) (w6.setCell ⟨w.heap.size+1,6,Y⟩ (U ao l' c')) (U ao l' c') (D++[r])):=aY ny.out (by omega);have Cw:w.heap.size+2<=(w6.setCell ⟨w.heap.size+1,6,Y⟩ (U ao l' c')).heap.size:=by simpa using tX
    clear mF ny tX NY Fs;go_wp2_with fail;exact⟨⟨k+1,U ao l' c',D++[r],q,by omega,by go_num,by rw[Ii,JB,hDk],hqt,T4,AW,xD,NZ,Cw⟩,by simp[intOf];omega⟩
   .have HK:Hid _:=hK
    clear hK;go_simp;refine Hj.out.mono ?_;rintro e w5 ⟨h2,⟨r,q,h3,hqt,AR,rfl,h1⟩|⟨h3,rfl⟩⟩;rotate_left
    .exact⟨rfl,(HS.out.keep (Iy _).drew).rd.trans h2.out,.inr ⟨MZ.out h3,rfl⟩⟩
    have T4:Hid (jw t (n-(k+1)) q (D++[r])=RS):=HGO.out r q h3;have AW:Hid (∀x∈D++[r],x.ok):=(show ∀_,_ from λx hx=>by
     rcases JU.1 hx with h|h
     .exact CN.out x h
     .rw[J1.1 h];exact AR)
    clear h3 AR MZ HGO Fu CN;have wK:Hid (St g t w 43 aQ q #[O J id,AI aB,AI cut,O J code,I R,O J an,v] w5):=(HS.out.keep (Iy _).drew).call h1 h2;have nT:Hid (Rc.Own (w.heap.size+2) w5 v D):=h2.out.T0 (Ql HO.out) (by omega);have gG:w.heap.size+2<=w5.heap.size:=Ir bA h2.out.size;have NX:w5.cell? ⟨w.heap.size+1,6,Y⟩=Z v:=wK.out.cell 6;clear h1 h2;refine HK.out _ _ ?_;clear HK K;refine Je (rs:=[1,4]) (by kernel_rfl) (by simp) ?_;refine IU rfl (λK hK=>?_) (IU rfl (λK hK=>?_) I7)
    .have HK:Hid _:=hK
     clear hK;go_simp;refine HK.out _ _ ?_;clear HK K;refine Je (rs:=[4]) (by kernel_rfl) (by simp) ?_;refine IU rfl (λK hK=>?_) I7;have HK:Hid _:=hK;clear hK;go_simp;refine HK.out _ _ ?_;clear HK K;refine Je (rs:=[5]) (by kernel_rfl) (by simp) ?_;refine IU rfl (λK hK=>?_) I7;have HK:Hid _:=hK;clear hK;rw[if_pos (by rfl)];refine Uk _ _ _ 41 rfl (w.heap.size+2) 64 i0 _ 7 80 O3 ei bW fs eU rfl (by omega) v D.length (Rc.fl D) rfl (J9 nT.out _) ⟨w5.heap.size,0,Y⟩ 1 1 r.cs rfl rfl (Oo (cs:=#[I r.name,O J r.an,O J r.aK,O J r.addr,I r.text,O J r.port,I r.target]) (t:=64) (fr:=(0,0)) (Ie w5 _)) (Rc.cC r) (by unfold maxLen;omega) (by omega) (by simp;omega) ?_;intro v' w6 r1 r2 r3;obtain⟨ao,l',c',rO⟩:∃ao l' c',v'=U ao l' c':=by
      rcases r1.2 with⟨hv,_⟩|⟨gq,cq,_,hv,_⟩
      .exact⟨_,_,_,hv⟩
      .exact⟨_,_,_,hv⟩
     subst rO;have mC:w5.Extends (w5.alloc (.cells #[I r.name,O J r.an,O J r.aK,O J r.addr,I r.text,O J r.port,I r.target] 64)):=(Iy w5).alloc _;have mD:∀q,q<w.heap.size+2->Z q≠v.ownBlock:=λq hq e=>by have:=(nT.out.lt q e.symm).1;omega
     have mF:Hid (St g t w 43 aQ q #[O J id,AI aB,AI cut,O J code,I R,O J an,v] w6):=(show St _ _ _ _ _ _ _ _ from(wK.out.keep mC).grown r2 (λq hq=>mD q hq));have ny:Hid (Rc.Own (w.heap.size+2) w6 (U ao l' c') (D++[r])):=(show Rc.Own _ _ _ _ by exact Rc.eM r1);have tX:w.heap.size+2<=w6.heap.size:=by have:=r2.size;simp at this;omega
     have NY:w6.cell? ⟨w.heap.size+1,6,Y⟩=Z v:=mF.out.cell 6;have Fs:=mF.out.free 6;clear r1 r2 r3 mC mD wK nT gG NX;refine HK.out _ _ ?_;clear HK K;refine Je (rs:=[6]) (by kernel_rfl) (by simp) ?_;refine IU rfl (λK hK=>?_) I7;have HK:Hid _:=hK;clear hK;go_simp;refine HK.out _ _ ?_;clear HK K;refine Je (rs:=[7]) (by kernel_rfl) (by simp) ?_;refine IU rfl (λK hK=>?_) I7;have HK:Hid _:=hK;clear hK;go_simp;refine HK.out _ _ ?_;clear HK K;refine wpAny_done (by kernel_rfl) ?_ _;have xD:Hid (St g t w 43 aQ q #[O J id,AI aB,AI cut,O J code,I R,O J an,U ao l' c'] (w6.setCell ⟨w.heap.size+1,6,Y⟩ (U ao l' c'))):=mF.out.store 6 (U ao l' c');have NZ:Hid (Rc.Own (w.heap.size+2) (w6.setCell ⟨w.heap.size+1,6,Y⟩ (U ao l' c')) (U ao l' c') (D++[r])):=aY ny.out (by omega);have Cw:w.heap.size+2<=(w6.setCell ⟨w.heap.size+1,6,Y⟩ (U ao l' c')).heap.size:=by simpa using tX
     clear mF ny tX NY Fs;go_wp2_with fail;exact⟨⟨k+1,U ao l' c',D++[r],q,by omega,by go_num,by rw[Ii,JB,hDk],hqt,T4,AW,xD,NZ,Cw⟩,by simp[intOf];omega⟩
    .have HK:Hid _:=hK
     clear hK;go_simp;refine HK.out _ _ ?_;clear HK K;have Ff:(w5.alloc (.cells #[I r.name,O J r.an,O J r.aK,O J r.addr,I r.text,O J r.port,I r.target] 64)).cell? ⟨w.heap.size+1,6,Y⟩=Z v:=((Iy w5).alloc _).cell_of NX;refine Je (rs:=[1]) (by kernel_rfl) (by simp) ?_;refine IU rfl (λK hK=>?_) I7;have HK:Hid _:=hK;clear hK;go_simp;refine HK.out _ _ ?_;clear HK K;refine Je (rs:=[5]) (by kernel_rfl) (by simp) ?_;refine IU rfl (λK hK=>?_) I7;have HK:Hid _:=hK;clear hK;rw[if_pos (by rfl)];refine Uk _ _ _ 41 rfl (w.heap.size+2) 64 i0 _ 7 80 O3 ei bW fs eU rfl (by omega) v D.length (Rc.fl D) rfl (J9 nT.out _) ⟨w5.heap.size,0,Y⟩ 1 1 r.cs rfl rfl (Oo (cs:=#[I r.name,O J r.an,O J r.aK,O J r.addr,I r.text,O J r.port,I r.target]) (t:=64) (fr:=(0,0)) (Ie w5 _)) (Rc.cC r) (by unfold maxLen;omega) (by omega) (by simp;omega) ?_;intro v' w6 r1 r2 r3;obtain⟨ao,l',c',rO⟩:∃ao l' c',v'=U ao l' c':=by
      rcases r1.2 with⟨hv,_⟩|⟨gq,cq,_,hv,_⟩
      .exact⟨_,_,_,hv⟩
      .exact⟨_,_,_,hv⟩
     subst rO;have mC:w5.Extends (w5.alloc (.cells #[I r.name,O J r.an,O J r.aK,O J r.addr,I r.text,O J r.port,I r.target] 64)):=(Iy w5).alloc _;have mD:∀q,q<w.heap.size+2->Z q≠v.ownBlock:=λq hq e=>by have:=(nT.out.lt q e.symm).1;omega
     have mF:Hid (St g t w 43 aQ q #[O J id,AI aB,AI cut,O J code,I R,O J an,v] w6):=(show St _ _ _ _ _ _ _ _ from(wK.out.keep mC).grown r2 (λq hq=>mD q hq));have ny:Hid (Rc.Own (w.heap.size+2) w6 (U ao l' c') (D++[r])):=(show Rc.Own _ _ _ _ by exact Rc.eM r1);have tX:w.heap.size+2<=w6.heap.size:=by have:=r2.size;simp at this;omega
     have NY:w6.cell? ⟨w.heap.size+1,6,Y⟩=Z v:=mF.out.cell 6;have Fs:=mF.out.free 6;clear r1 r2 r3 mC mD wK nT gG NX;refine HK.out _ _ ?_;clear HK K;refine Je (rs:=[6]) (by kernel_rfl) (by simp) ?_;refine IU rfl (λK hK=>?_) I7;have HK:Hid _:=hK;clear hK;go_simp;refine HK.out _ _ ?_;clear HK K;refine Je (rs:=[7]) (by kernel_rfl) (by simp) ?_;refine IU rfl (λK hK=>?_) I7;have HK:Hid _:=hK;clear hK;go_simp;refine HK.out _ _ ?_;clear HK K;refine wpAny_done (by kernel_rfl) ?_ _;have xD:Hid (St g t w 43 aQ q #[O J id,AI aB,AI cut,O J code,I R,O J an,U ao l' c'] (w6.setCell ⟨w.heap.size+1,6,Y⟩ (U ao l' c'))):=mF.out.store 6 (U ao l' c');have NZ:Hid (Rc.Own (w.heap.size+2) (w6.setCell ⟨w.heap.size+1,6,Y⟩ (U ao l' c')) (U ao l' c') (D++[r])):=aY ny.out (by omega);have Cw:w.heap.size+2<=(w6.setCell ⟨w.heap.size+1,6,Y⟩ (U ao l' c')).heap.size:=by simpa using tX
     clear mF ny tX NY Fs;go_wp2_with fail;exact⟨⟨k+1,U ao l' c',D++[r],q,by omega,by go_num,by rw[Ii,JB,hDk],hqt,T4,AW,xD,NZ,Cw⟩,by simp[intOf];omega⟩
  .have fM:k=n:=by omega
   have hd:decide ((k:Int)<(n:Int))=false:=by simp;omega
   have HRE:Hid (RS=Z (D,b)):=(show _=_ by rw[<- Fu.out,show n-k=0 by omega];rfl);have SJ:Hid (F=if b=t.size then Z ⟨id,code,an,aB,cut,R,D⟩ else Y):=(show _=_ by rw[HFB.out,HRE.out];rfl);have ct:wr.cell? ⟨g,0,Y⟩=Z (I t):=HS.out.dE.c0;have ca:wr.cell? ⟨g,1,Y⟩=Z (O J b):=HS.out.dE.c1;have HOF:Hid (Rc.Own (w.heap.size+2) wr v D):=HO;clear Fu HRE HFB adf;obtain⟨av,lv,cv,pW⟩:∃a l c,v=U a l c:=by
    rcases HO.out.2 with⟨hv,_⟩|⟨gq,cq,_,hv,_⟩
    .exact⟨_,_,_,hv⟩
    .exact⟨_,_,_,hv⟩
   subst pW;have m0:wr.cell? ⟨w.heap.size+1,0,Y⟩=Z (O J id):=HS.out.cell 0;have q0:wr.cell? ⟨w.heap.size,0,Y⟩=Z (O J 0):=HS.out.fK 0;have y0:=HS.out.fL 0;have m1:wr.cell? ⟨w.heap.size+1,1,Y⟩=Z (AI aB):=HS.out.cell 1;have q1:wr.cell? ⟨w.heap.size,1,Y⟩=Z (AI false):=HS.out.fK 1;have y1:=HS.out.fL 1;have m2:wr.cell? ⟨w.heap.size+1,2,Y⟩=Z (AI cut):=HS.out.cell 2;have q2:wr.cell? ⟨w.heap.size,2,Y⟩=Z (AI false):=HS.out.fK 2;have y2:=HS.out.fL 2;have m3:wr.cell? ⟨w.heap.size+1,3,Y⟩=Z (O J code):=HS.out.cell 3;have q3:wr.cell? ⟨w.heap.size,3,Y⟩=Z (O J 0):=HS.out.fK 3;have y3:=HS.out.fL 3;have m4:wr.cell? ⟨w.heap.size+1,4,Y⟩=Z (I R):=HS.out.cell 4;have q4:wr.cell? ⟨w.heap.size,4,Y⟩=Z (I ⟨#[]⟩):=HS.out.fK 4;have y4:=HS.out.fL 4;have m5:wr.cell? ⟨w.heap.size+1,5,Y⟩=Z (O J an):=HS.out.cell 5;have q5:wr.cell? ⟨w.heap.size,5,Y⟩=Z (O J 0):=HS.out.fK 5;have y5:=HS.out.fL 5;have m6:wr.cell? ⟨w.heap.size+1,6,Y⟩=Z (U av lv cv):=HS.out.cell 6;have q6:wr.cell? ⟨w.heap.size,6,Y⟩=Z (U Y 0 0):=HS.out.fK 6;have y6:=HS.out.fL 6;clear fM;by_cases hbe:b=t.size
   .have HFD:Hid (F=Z ⟨id,code,an,aB,cut,R,D⟩):=SJ.out.trans (if_pos hbe)
    subst hbe;clear SJ;go_wp2_with fail;go_region_held3 (λw'=>w'.cell? ⟨g,0,Y⟩=Z (I t)/\w'.cell? ⟨g,1,Y⟩=Z (O J t.size)) (go_keep) (first|(go_at_call 69;refine(cy _ _).mono ?_;rintro e w5 ⟨rfl,rfl⟩)|fail)
    go_wp2_with fail;refine bodyPost_ret (v:=.agg #[O J id,AI aB,AI cut,O J code,I R,O J an,U av lv cv]) ?_ rfl ⟨?_,.inl ⟨_,U av lv cv,HFD.out,⟨h4,CN.out⟩,rfl,?_⟩⟩
    .simp[results,Tryz.results52,go_sem,q0,q1,q2,q3,q4,q5,q6]
    .exact(Rd.trans (((((((HS.out.rd.put 0 _ (By _)).put 1 _ (By _)).put 2 _ (By _)).put 3 _ (By _)).put 4 _ (By _)).put 5 _ (By _)).put 6 _ (By _)) (Rd.ext (Iy _).drew):Rd g w _)
    .exact Ql (aY (i:=6) (aY (i:=5) (aY (i:=4) (aY (i:=3) (aY (i:=2) (aY (i:=1) (aY (i:=0) HOF.out (by omega)) (by omega)) (by omega)) (by omega)) (by omega)) (by omega)) (by omega))
   .have HFD:Hid (F=Y):=SJ.out.trans (if_neg hbe)
    have heb:((b:Int)==(t.size:Int))=false:=beq_eq_false_iff_ne.2 (by omega);clear SJ;go_wp2_with fail;refine wp_region_held_drew (S:=λW=>W.cell? ⟨g,0,Y⟩=Z (I t)/\W.cell? ⟨g,1,Y⟩=Z (O J b)) (by kernel_rfl) ⟨ct,ca⟩ (λrJ=>?_);refine I4 (i:=0) (v:=?v0) rfl (by kernel_rfl) (by kernel_rfl) (by kernel_rfl) (λ_ _ _ h=>h) (JM ⟨by rfl,?hy0⟩) (by assumption) ?_
    case hy0=>(intro W eH;obtain⟨d0,d1⟩:=eH;go_simp;try with_reducible rfl)
    refine I4 (i:=1) (v:=?v1) rfl (by kernel_rfl) (by kernel_rfl) (by kernel_rfl) (λ_ _ _ h=>h) (JM ⟨by rfl,?hy1⟩) (by assumption) ?_
    case hy1=>(intro W eH;obtain⟨d0,d1⟩:=eH;go_simp;try with_reducible rfl)
    refine I4 (i:=2) (v:=?v2) rfl (by kernel_rfl) (by kernel_rfl) (by kernel_rfl) (λ_ _ _ h=>h) (JM ⟨by rfl,?hy2⟩) (by assumption) ?_
    case hy2=>(intro W eH;obtain⟨d0,d1⟩:=eH;go_simp;try with_reducible rfl)
    refine I4 (i:=3) (v:=?v3) rfl (by kernel_rfl) (by kernel_rfl) (by kernel_rfl) (λ_ _ _ h=>h) (JM ⟨by rfl,?hy3⟩) (by assumption) ?_
    case hy3=>(intro W eH;obtain⟨d0,d1⟩:=eH;go_simp;try with_reducible rfl)
    refine I4 (i:=4) (v:=?v4) rfl (by kernel_rfl) (by kernel_rfl) (by kernel_rfl) (λ_ _ _ h=>h) (JM ⟨by rfl,?hy4⟩) (by assumption) ?_
    case hy4=>(intro W eH;obtain⟨d0,d1⟩:=eH;go_simp;try with_reducible rfl)
    refine I4 (i:=5) (v:=?v5) rfl (by kernel_rfl) (by kernel_rfl) (by kernel_rfl) (λ_ _ _ h=>h) (JM ⟨by rfl,?hy5⟩) (by assumption) ?_
    case hy5=>(intro W eH;obtain⟨d0,d1⟩:=eH;go_simp;try with_reducible rfl)
    refine I4 (i:=6) (v:=?v6) rfl (by kernel_rfl) (by kernel_rfl) (by kernel_rfl) (λ_ _ _ h=>h) (JM ⟨by rfl,?hy6⟩) (by assumption) ?_
    case hy6=>(intro W eH;obtain⟨d0,d1⟩:=eH;go_simp;try with_reducible rfl)
    refine I4 (i:=7) (v:=?v7) rfl (by kernel_rfl) (by kernel_rfl) (by kernel_rfl) (λ_ _ _ h=>h) (JM ⟨by rfl,?hy7⟩) (by assumption) ?_
    case hy7=>(intro W eH;obtain⟨d0,d1⟩:=eH;go_simp;try with_reducible rfl)
    refine I4 (i:=8) (v:=?v8) rfl (by kernel_rfl) (by kernel_rfl) (by kernel_rfl) (λ_ _ _ h=>h) (JM ⟨by rfl,?hy8⟩) (by assumption) ?_
    case hy8=>(intro W eH;obtain⟨d0,d1⟩:=eH;go_simp;try with_reducible rfl)
    refine I4 (i:=9) (v:=?v9) rfl (by kernel_rfl) (by kernel_rfl) (by kernel_rfl) (λ_ _ _ h=>h) (JM ⟨by rfl,?hy9⟩) (by assumption) ?_
    case hy9=>(intro W eH;obtain⟨d0,d1⟩:=eH;go_simp;try with_reducible rfl)
    refine wpAnyH_ready (rs:=[10]) (by kernel_rfl) (by simp) ?_;refine AllReadyH.cons rfl (λK hK=>?_) AllReadyH.nil;go_simp;refine(dd _ _).mono ?_;rintro e w5 ⟨rfl,rfl⟩;exact⟨rfl,HS.out.rd.trans (pj g wr 1),.inr ⟨HFD.out,rfl⟩⟩
end Go.Proofs.YtfidjlcdlakceaaGreatDoor
