import Derived.Test.YtbfghimjdlpicaaGreatDoorna24
import Derived.Test.YtbfghimjdlpicaaGreatDoorRows
import Derived.Stop.LaidErr
import Derived.LaidSub
import Derived.LaidMore
set_option maxHeartbeats 3200000
set_option maxRecDepth 100000
open Go.Value renaming string→Y,pointer→If,int→U
open Option renaming none→be,some→AI
open Nat renaming le_refl→Ie,le_trans→Is,lt_of_lt_of_le→IJ
open Go.RowKit.Below renaming heap_setCell→I0
open Go.World renaming frozen?→It,cell?_setCell_same→Un
open Go.Ending renaming returned→AT
open Go.IntKind renaming i64→O
open Go.Lib renaming indexByte→Jm,indexByte_ge→Q5
open Int renaming toNat_natCast→JR
open Option.some renaming injEq→Iu
open Prod.mk renaming injEq→IU
open Go.Proofs.Tryz renaming prog→AS,underlying9→Jd
namespace Go.Proofs.YtbfghimjdlpicaaGreatDoor
open Go.RowKit
structure lL(g:Nat)(l:List UInt8)(w:World):Prop where
 c0:w.cell? ⟨g,0,be⟩=AI (Y (gG l))
 hz:w.frozen? ⟨g,0,be⟩=false
 hg:g<w.heap.size
structure Rp(g:Nat)(w w':World):Prop where
 os:w'.os=w.os
 tape:w'.tape=w.tape
 output:w'.output=w.output
 size:w.heap.size<=w'.heap.size
 block:∀k:Nat,k<w.heap.size->k≠g->w'.heap[k]?=w.heap[k]?
theorem Rp.refl(g:Nat)(w:World):Rp g w w:=⟨rfl,rfl,rfl,Ie _,λ_ _ _=>rfl⟩
theorem Rp.trans{g:Nat}{w w1 w2:World}(h:Rp g w w1)(h2:Rp g w1 w2):Rp g w w2:=
 ⟨h2.os.trans h.os,h2.tape.trans h.tape,h2.output.trans h.output,Is h.size h2.size,λk hk hg=>(h2.block k (IJ hk h.size) hg).trans (h.block k hk hg)⟩
theorem Rp.below{g B:Nat}{w w':World}(h:Rp g w w')(hb:B<=g)(hB:B<=w.heap.size):Below B w w':=
 ⟨h.os,h.tape,h.output,h.size,λk hk=>h.block k (by omega) (by omega)⟩
theorem Rp.cG{g B:Nat}{w w':World}(h:Below B w w')(hb:w.heap.size<=B):Rp g w w':=
 ⟨h.os,h.tape,h.output,h.size,λk hk _=>h.block k (by omega)⟩
theorem Rp.set(g:Nat)(w:World)(v:Value):Rp g w (w.setCell ⟨g,0,be⟩ v):=
 ⟨rfl,rfl,rfl,by simp,λk _ hg=>I0 w _ _ k hg⟩
theorem lL.below{g:Nat}{l:List UInt8}{w w':World}(h:lL g l w)(hx:Below w.heap.size w w'):lL g l w' where
 c0:=(hx.cell (p:=⟨g,0,be⟩) h.hg).trans h.c0
 hz:=by have:=h.hz;simp only[It,hx.block g h.hg] at this ⊢;exact this
 hg:=IJ h.hg hx.size
theorem Hq(g B:Nat)(l r:List UInt8)(n:Int)(w:World)(h:lL g l w)(hs:l.length<=140737488355328)(hl:oD l=AI (n,r))(hT:nN B w)(hB:B<=w.heap.size) :
 aK 214 #[If (AI ⟨g,0,be⟩)] w λe w'=>e=AT (U O n)/\lL g r w'/\Rp g w w':=by
 unfold oD at hl;split at hl
 .simp at hl
 rename_i aP;obtain⟨i,hi⟩:∃i:Nat,Jm l 59=(i:Int):=⟨(Jm l 59).toNat,by have:=Q5 l 59;omega⟩;have aX:=Ft 59 hi;rw[hi] at hl;simp only[JR] at hl;split at hl
 case h_2=>simp at hl
 rename_i m hm;split at hl
 case isFalse=>simp at hl
 rename_i hd;simp only[Iu,IU] at hl;obtain⟨rfl,rfl⟩:=hl;have ahU:=Lib.atoiAll_bounds hm;have HC:Hid (aK _ _ _ _):=Hp l i w hi hs;have HA:Hid (∀W,aK _ _ _ _):=λW=>Sq _ m W (by rw[List.length_take];omega) hm;have HI:Hid (∀W,Below w.heap.size w W->ly 255 #[U O m] W (Y (gG (l.take i)))):=λW hW=>by
  have:=Bu m B W ahU (hT.below (hW.mono hB));rw[show nM m=gG (l.take i) by rw[<- hd];rfl] at this;exact this
 have HP:Hid _:=h;have hc:=h.c0;clear h hT hd hm hi aP aX hs;generalize gG (l.take i)=D at *;have HR:Hid (∃R,R=gG (l.drop (i+1))):=⟨_,rfl⟩;go_enter Tryz.func214,Tryz.ntmps214;go_wp2_with fail;refine HC.out.mono ?_;rintro e w1 ⟨rfl,aC⟩;have aZ:Hid _:=aC;clear aC;go_wp2_with fail;refine(HA.out w1).mono ?_;rintro e w2 ⟨rfl,aL⟩;have bA:Hid _:=aZ.out.trans (aL.mono aZ.out.size);clear aL;go_wp2_with fail;refine(HI.out w2 bA.out).mono ?_;rintro e w3 ⟨rfl,bY⟩;have cF:Hid _:=bA.out.trans (bY.mono bA.out.size);clear bY;have hP3:=HP.out.below cF.out;obtain⟨c3,z3,g3⟩:=hP3;clear hc;go_wp2_with (go_at_call 182;refine(kx _ _).mono ?_;rintro e w' ⟨rfl,rfl⟩);go_ret;refine⟨rfl,⟨Un _ _ _ c3,by simpa using z3,by simpa using g3⟩,(Rp.cG cF.out (Ie _)).trans (Rp.set g _ _)⟩
structure Rv(B:Nat)(w:World):Prop where
 tab:nN B w
 er:Er w
 b1:1<B
 b2:2<B
 le:B<=w.heap.size
theorem Rv.below{B:Nat}{w w':World}(h:Rv B w)(hb:Below B w w'):Rv B w':=⟨h.tab.below hb,h.er.below hb h.b1 h.b2,h.b1,h.b2,Is h.le hb.size⟩
theorem Rv.rp{B g:Nat}{w w':World}(h:Rv B w)(hg:B<=g)(hr:Rp g w w'):Rv B w':=h.below (hr.below hg h.le)
theorem zA{B g:Nat}{l r:List UInt8}{n:Int}{w:World}(hV:Rv B w)(h:lL g l w)(hs:l.length<=140737488355328)(hl:oD l=AI (n,r)) :
 aK 214 #[If (AI ⟨g,0,be⟩)] w λe w'=>e=AT (U O n)/\lL g r w'/\Rp g w w':=Hq g B l r n w h hs hl hV.tab hV.le
theorem dG{l r:List UInt8}{n:Int}(h:oD l=AI (n,r)):gR n/\r.length<l.length:=by
 unfold oD at h;split at h
 .simp at h
 rename_i aP;obtain⟨i,hi⟩:∃i:Nat,Jm l 59=(i:Int):=⟨(Jm l 59).toNat,by have:=Q5 l 59;omega⟩;have aX:=Ft 59 hi;rw[hi] at h;simp only[JR] at h;split at h
 case h_2=>simp at h
 rename_i m hm;split at h
 case isFalse=>simp at h
 simp only[Iu,IU] at h;obtain⟨rfl,rfl⟩:=h;exact⟨Lib.atoiAll_bounds hm,by rw[List.length_drop];omega⟩
def Ht(l:List UInt8):Option (Bool×List UInt8):=
 match oD l with
 |some (n,r)=>if n=0 then AI (false,r) else if n=1 then AI (true,r) else be
 |none=>be
theorem Sr{B g:Nat}{l r:List UInt8}{y:Bool}{w:World}(hV:Rv B w)(h:lL g l w)(hs:l.length<=140737488355328)(hl:Ht l=AI (y,r)) :
 aK 211 #[If (AI ⟨g,0,be⟩)] w λe w'=>e=AT (.bool y)/\lL g r w'/\Rp g w w':=by
 unfold Ht at hl;split at hl
 case h_2=>simp at hl
 rename_i n r' hn;have HN:Hid (aK _ _ _ _):=zA hV h hs hn;clear hn h hV hs;split at hl
 .rename_i h0
  subst h0;simp only[Iu,IU] at hl;obtain⟨rfl,rfl⟩:=hl;go_enter Tryz.func211,Tryz.ntmps211;go_wp2_with fail;refine HN.out.mono ?_;rintro e w1 ⟨rfl,hp,hr⟩;have HP:Hid (lL g r' w1/\Rp g w w1):=⟨hp,hr⟩;clear hp hr;go_wp2_with (go_at_call 182;refine(kx _ _).mono ?_;rintro e w' ⟨rfl,rfl⟩);go_ret;exact⟨rfl,HP.out⟩
 .split at hl
  case isFalse=>simp at hl
  rename_i h0 h1;subst h1;simp only[Iu,IU] at hl;obtain⟨rfl,rfl⟩:=hl;go_enter Tryz.func211,Tryz.ntmps211;go_wp2_with fail;refine HN.out.mono ?_;rintro e w1 ⟨rfl,hp,hr⟩;have HP:Hid (lL g r' w1/\Rp g w w1):=⟨hp,hr⟩;clear hp hr;go_wp2_with (go_at_call 182;refine(kx _ _).mono ?_;rintro e w' ⟨rfl,rfl⟩);go_ret;exact⟨rfl,HP.out⟩
end Go.Proofs.YtbfghimjdlpicaaGreatDoor
namespace Go.Proofs
open Go.Shelf
def Tryz.zB:Go.Shelf.Ren:=⟨fun|316=>276|n=>n,fun|9=>9|3=>3|4=>4|37=>258|0=>0|127=>304|5=>5|n=>n,fun|n=>n⟩
theorem Tryz.Nc:Go.Proofs.LaysM.n316 AS Tryz.zB:={
 mixed:=by kernel_rfl
 f316:=Tryz.func276.trans (congrArg AI (by kernel_rfl))
 t0:=Tryz.underlying0
 a0:=Tryz.isAgg0
 z0:=Tryz.sizeOf0
 v0:=Tryz.zeroValue0
 t3:=Tryz.underlying3
 a3:=Tryz.isAgg3
 z3:=Tryz.sizeOf3
 v3:=Tryz.zeroValue3
 t4:=Tryz.underlying4
 a4:=Tryz.isAgg4
 z4:=Tryz.sizeOf4
 v4:=Tryz.zeroValue4
 t9:=Jd
 a9:=Tryz.isAgg9
 z9:=Tryz.sizeOf9
 v9:=Tryz.zeroValue9
 t37:=Tryz.underlying258
 a37:=Tryz.isAgg258
 z37:=Tryz.sizeOf258
 v37:=Tryz.zeroValue258
 t127:=Tryz.underlying304
 a127:=Tryz.isAgg304
 z127:=Tryz.sizeOf304
 v127:=Tryz.zeroValue304
 t5:=Tryz.underlying5
 a5:=Tryz.isAgg5
 z5:=Tryz.sizeOf5
 v5:=Tryz.zeroValue5
 i0:=by kernel_rfl
 i3:=by kernel_rfl
 i4:=by kernel_rfl
 i5:=by kernel_rfl
 i9:=by kernel_rfl
 i37:=by kernel_rfl
 i127:=by kernel_rfl }
open Go.RowKit in
theorem Tryz.stringslite_Clone(s:ByteArray)(w:World)(ahV:s.size<=281474976710656) :
 Calls AS 276 #[Y s] w λe w'=>e=AT (Y s)/\Below w.heap.size w w':=Any.stringslite_Clone Tryz.Nc s w ahV
end Go.Proofs
namespace Go.Proofs.YtbfghimjdlpicaaGreatDoor
open Go.RowKit
theorem DE(s:ByteArray)(w:World)(hs:s.size<=140737488355328) :
 ly 252 #[Y s] w (Y s):=by
 have HC:Hid (aK _ _ _ _):=Tryz.stringslite_Clone s w (by omega);go_enter Tryz.func252,Tryz.ntmps252;go_wp2_with fail;refine HC.out.mono ?_;rintro e w1 ⟨rfl,hb⟩;go_wp2_with fail;go_ret;exact⟨rfl,hb⟩
def Bw(l:List UInt8):Option (ByteArray×List UInt8):=
 match oD l with
 |some (n,r)=>if 0<=n/\n<=r.length then AI (gG (r.take n.toNat),r.drop n.toNat) else be
 |none=>be
theorem Ss{B g:Nat}{l r:List UInt8}{s:ByteArray}{w:World}(hV:Rv B w)(h:lL g l w)(hs:l.length<=140737488355328)(hl:Bw l=AI (s,r)) :
 aK 210 #[If (AI ⟨g,0,be⟩)] w λe w'=>e=AT (Y s)/\lL g r w'/\Rp g w w':=by
 unfold Bw at hl;split at hl
 case h_2=>simp at hl
 rename_i n r' hn;have HN:Hid (aK _ _ _ _):=zA hV h hs hn;have hrl:=(dG hn).2;clear hn h hV;split at hl
 case isFalse=>simp at hl
 rename_i hk;simp only[Iu,IU] at hl;obtain⟨rfl,rfl⟩:=hl;obtain⟨k,rfl⟩:∃k:Nat,n=(k:Int):=⟨n.toNat,by omega⟩;have C5:k<=r'.length:=by omega
 simp only[JR];obtain⟨R,hR⟩:∃R,R=gG r':=⟨_,rfl⟩;have Cp:R.size=r'.length:=by rw[hR,kD]
 have yQ:Hid (R.extract 0 k=gG (r'.take k)):=by show _=_;rw[hR,Fv]
 have tQ:Hid (R.extract k R.size=gG (r'.drop k)):=by show _=_;rw[hR,yh]
 have Xb:Hid (∀W,ly 252 #[Y (R.extract 0 k)] W (Y (R.extract 0 k))):=λW=>DE _ W (by rw[yQ.out,kD,List.length_take];omega);have hw:within (k:Int) 0 (R.size:Int)=true:=by unfold within;simp;omega
 have hkR:k<=R.size:=by omega
 have h0:((k:Int)).toNat=k:=by omega
 have h3:((R.size:Int)).toNat=R.size:=by omega
 have hkI:(k:Int)<=(R.size:Int):=by omega
 have hRb:R.size<=140737488355328:=by omega
 have HRR:Hid _:=hR;clear C5 hrl hk hs hR Cp;go_enter Tryz.func210,Tryz.ntmps210;go_wp2_with fail;refine HN.out.mono ?_;rintro e w1 ⟨rfl,hp,hr⟩;have HP:Hid (lL g r' w1/\Rp g w w1):=⟨hp,hr⟩;have c1:w1.cell? ⟨g,0,be⟩=AI (Y R):=by rw[HRR.out];exact hp.c0
 clear hp hr;go_wp2_with (first|(go_at_call 51;refine(cM _ _ _ _).mono ?_;rintro e w' ⟨rfl,rfl⟩;rw[hw])|(go_at_call 182;refine(kx _ _).mono ?_;rintro e w' ⟨rfl,rfl⟩));refine(Xb.out _).mono ?_;rintro e w4 ⟨rfl,eV⟩;have hp4:=HP.out.1.below eV;have HR4:Hid _:=HP.out.2.trans (Rp.cG eV (Ie _));obtain⟨c4',z4,g4⟩:=hp4;have c4:w4.cell? ⟨g,0,be⟩=AI (Y R):=by rw[HRR.out];exact c4'
 clear eV c4' c1;go_wp2_with fail;go_ret;refine⟨by rw[yQ.out];rfl,⟨?_,by simpa using z4,by simpa using g4⟩,HR4.out.trans (Rp.set g _ _)⟩;rw[<- tQ.out];exact Un _ _ _ c4
def Rf(l:List UInt8):Option ((Int×Int×Int×Int×Int)×List UInt8):=
 (oD l).bind λa=>(oD a.2).bind λb=>(oD b.2).bind λc=>(oD c.2).bind λd=>(oD d.2).bind λe=>AI ((a.1,b.1,c.1,d.1,e.1),e.2)
theorem Nf{B g:Nat}{l r:List UInt8}{x y z u v:Int}{w:World}(hV:Rv B w)(iG:B<=g)(h:lL g l w)(hs:l.length<=140737488355328)(hl:Rf l=AI ((x,y,z,u,v),r)) :
 aK 221 #[If (AI ⟨g,0,be⟩)] w λe w'=>e=AT (.agg #[U O x,U O y,U O z,U O u,U O v])/\lL g r w'/\Rp g w w':=by
 unfold Rf at hl;simp only[Option.bind_eq_some_iff,Iu,IU] at hl;obtain⟨⟨x',r1⟩,n1,⟨y',r2⟩,n2,⟨z',r3⟩,n3,⟨u',r4⟩,n4,⟨v',r5⟩,n5,⟨rfl,rfl,rfl,rfl,rfl⟩,rfl⟩:=hl;simp only at n1 n2 n3 n4 n5 ⊢;have l1:=(dG n1).2;have l2:=(dG n2).2;have l3:=(dG n3).2;have l4:=(dG n4).2;have HN:Hid (∀W,Rv B W->∀{a b:List UInt8} {n:Int},oD a=AI (n,b)->a.length<=l.length->lL g a W->aK _ _ _ _):=λW hW _ _ _ hn hal hp=>zA hW hp (by omega) hn;obtain⟨W0,bP,bK,-,dX⟩:=bV w #[U O 0,U O 0,U O 0,U O 0,U O 0] 36;have sR:Hid (lL g l W0/\Rp g w W0):=⟨h.below bK,Rp.cG bK (Ie _)⟩;have HV:Hid _:=hV;have LM:Hid _:=iG;have Fw:w.heap.size≠g:=by have:=h.hg;omega
 have Aq:Hid _:=dX;have HL:Hid (oD l=AI (x',r1)/\oD r1=AI (y',r2)/\oD r2=AI (z',r3)/\oD r3=AI (u',r4)/\oD r4=AI (v',r5)):=⟨n1,n2,n3,n4,n5⟩;have Hu:Hid (r1.length<=l.length/\r2.length<=l.length/\r3.length<=l.length/\r4.length<=l.length):=⟨by omega,by omega,by omega,by omega⟩;clear n1 n2 n3 n4 n5 l1 l2 l3 l4 h hV iG bK dX hs;go_enter Tryz.func221,Tryz.ntmps221;go_wp2_with fail;rw[<- bP];clear bP;refine(HN.out W0 (HV.out.rp LM.out sR.out.2) HL.out.1 (Ie _) sR.out.1).mono ?_;rintro e w1 ⟨rfl,p1,q1⟩;have nO:Hid (lL g r1 w1/\Rp g W0 w1):=⟨p1,q1⟩;clear p1 q1;go_wp2_with fail;refine(HN.out w1 ((HV.out.rp LM.out sR.out.2).rp LM.out nO.out.2) HL.out.2.1 Hu.out.1 nO.out.1).mono ?_;rintro e w2 ⟨rfl,p1,q1⟩;have qM:Hid (lL g r2 w2/\Rp g W0 w2):=⟨p1,nO.out.2.trans q1⟩;clear p1 q1;go_wp2_with fail;refine(HN.out w2 ((HV.out.rp LM.out sR.out.2).rp LM.out qM.out.2) HL.out.2.2.1 Hu.out.2.1 qM.out.1).mono ?_;rintro e w3 ⟨rfl,p1,q1⟩;have vz:Hid (lL g r3 w3/\Rp g W0 w3):=⟨p1,qM.out.2.trans q1⟩;clear p1 q1;go_wp2_with fail;refine(HN.out w3 ((HV.out.rp LM.out sR.out.2).rp LM.out vz.out.2) HL.out.2.2.2.1 Hu.out.2.2.1 vz.out.1).mono ?_;rintro e w4 ⟨rfl,p1,q1⟩;have DF:Hid (lL g r4 w4/\Rp g W0 w4):=⟨p1,vz.out.2.trans q1⟩;clear p1 q1;go_wp2_with fail;refine(HN.out w4 ((HV.out.rp LM.out sR.out.2).rp LM.out DF.out.2) HL.out.2.2.2.2 Hu.out.2.2.2 DF.out.1).mono ?_;rintro e w5 ⟨rfl,p1,q1⟩;have qX:Hid (lL g r5 w5/\Rp g W0 w5):=⟨p1,DF.out.2.trans q1⟩;clear p1 q1;have g5:=(qX.out.2.block _ (Array.getElem?_eq_some_iff.1 Aq.out).1 Fw).trans Aq.out;have c0:=ae g5 0;have c1:=ae g5 1;have c2:=ae g5 2;have c3:=ae g5 3;have c4:=ae g5 4;have z0:w5.frozen? ⟨w.heap.size,0,be⟩=false:=by simp[It,g5]
 have z1:w5.frozen? ⟨w.heap.size,1,be⟩=false:=by simp[It,g5]
 have z2:w5.frozen? ⟨w.heap.size,2,be⟩=false:=by simp[It,g5]
 have z3:w5.frozen? ⟨w.heap.size,3,be⟩=false:=by simp[It,g5]
 have z4:w5.frozen? ⟨w.heap.size,4,be⟩=false:=by simp[It,g5]
 clear g5;go_wp2_with fail;have HW:Hid (∀a b c d e:Value,lL g r5 (((((w5.setCell ⟨w.heap.size,0,be⟩ a).setCell ⟨w.heap.size,1,be⟩ b).setCell ⟨w.heap.size,2,be⟩ c).setCell ⟨w.heap.size,3,be⟩ d).setCell ⟨w.heap.size,4,be⟩ e)/\Rp g w (((((w5.setCell ⟨w.heap.size,0,be⟩ a).setCell ⟨w.heap.size,1,be⟩ b).setCell ⟨w.heap.size,2,be⟩ c).setCell ⟨w.heap.size,3,be⟩ d).setCell ⟨w.heap.size,4,be⟩ e)):=λa b c d e=>by
  have hk:∀k,k≠w.heap.size->(((((w5.setCell ⟨w.heap.size,0,be⟩ a).setCell ⟨w.heap.size,1,be⟩ b).setCell ⟨w.heap.size,2,be⟩ c).setCell ⟨w.heap.size,3,be⟩ d).setCell ⟨w.heap.size,4,be⟩ e).heap[k]?=w5.heap[k]?:=λk hk=>by
   rw[I0 _ _ _ k hk,I0 _ _ _ k hk,I0 _ _ _ k hk,I0 _ _ _ k hk,I0 _ _ _ k hk]
  have hgk:=hk g (λe=>Fw e.symm);have hr:=sR.out.2.trans qX.out.2;refine⟨⟨?_,?_,by simpa using qX.out.1.hg⟩,⟨hr.os,hr.tape,hr.output,by simpa using hr.size,λk kt ji=>(hk k (by omega)).trans (hr.block k kt ji)⟩⟩
  .have:=qX.out.1.c0
   simp only[World.cell?] at this ⊢;rw[hgk];exact this
  .have:=qX.out.1.hz
   simp only[It] at this ⊢;rw[hgk];exact this
 clear z0 z1 z2 z3 z4;have vd:=HW.out (U O x') (U O y') (U O z') (U O u') (U O v');have iO:Hid _:=vd;clear vd;simp[bodyPost,results,Tryz.results221,go_sem,c0,c1,c2,c3,c4];exact iO.out
theorem nN.up{B C:Nat}{w:World}(h:nN B w)(hC:B<=C):nN C w:=λw' hw=>h w' (hw.mono hC)
theorem Rv.up{B C:Nat}{w:World}(h:Rv B w)(hC:B<=C)(hl:C<=w.heap.size):Rv C w:=⟨h.tab.up hC,h.er,IJ h.b1 hC,IJ h.b2 hC,hl⟩
theorem Rv.after{w w':World}(h:Rv w.heap.size w)(hb:Below w.heap.size w w'):Rv w'.heap.size w':=(h.below hb).up hb.size (Ie _)
theorem Ng{W:World}{n:String}{g:Nat}{v:Value}(hg:Tryz.prog.globalNamed n=AI g)(h:W.var? AS n=AI #[v]):W.cell? ⟨g,0,be⟩=AI v/\g<W.heap.size:=by
 have h0:W.cell? ⟨g,0,be⟩=AI v:=by have:=World.var?_cell hg h 0;simpa using this
 exact⟨h0,World.block_lt_of_cell? W _ h0⟩
theorem Tryz.ahX : Tryz.prog.globalNamed "internal/strconv.uint64pow10" = AI 3 := by kernel_rfl
theorem Tryz.acf:(Tryz.prog.globals[3]?).map (·.type)=AI 344:=by kernel_rfl
theorem Tryz.gES : Tryz.prog.globalNamed "strconv.ErrSyntax" = AI 1 := by kernel_rfl
theorem Tryz.ahY:(Tryz.prog.globals[1]?).map (·.type)=AI 288:=by kernel_rfl
theorem Tryz.gER : Tryz.prog.globalNamed "strconv.ErrRange" = AI 2 := by kernel_rfl
theorem Tryz.ahZ:(Tryz.prog.globals[2]?).map (·.type)=AI 288:=by kernel_rfl
theorem Tryz.ah0:Tryz.prog.cellsOf 202=1:=by kernel_rfl
theorem Tryz.ah1:Tryz.prog.cellsOf 344=20:=by kernel_rfl
theorem Tryz.cEs:Tryz.prog.cellsOf 342=1:=by kernel_rfl
theorem Tryz.c9:Tryz.prog.cellsOf 9=1:=by kernel_rfl
theorem Nh : "*" ++ "errors.errorString" = "*errors.errorString" := by decide
theorem Tryz.Vo(u : TypeId)(h : Tryz.prog.typeName? 3 u = AI "*errors.errorString") : u = 340 :=
 typeName_ptr_named (nm := "errors.errorString") (by rw[Nh]; kernel_rfl) (by kernel_rfl) (by decide) u (by rw[Nh]; exact h)
theorem Ni:(Rows.laid_internal_strconv_uint64pow10:DataW Unit)=Lib.tabData .u64 Lib.pow10Tab:=by kernel_rfl
theorem aa6{W : World}(h : laidMetH AS [("math/bits.deBruijn32tab", Rows.laid_math_bits_deBruijn32tab), ("math/bits.deBruijn64tab", Rows.laid_math_bits_deBruijn64tab), ("internal/strconv.uint64pow10", Rows.laid_internal_strconv_uint64pow10), ("strconv.ErrRange", Rows.laid_strconv_ErrRange), ("strconv.ErrSyntax", Rows.laid_strconv_ErrSyntax)] W) : Rv W.heap.size W := by
 rw[MakeChecks.laidMetH_plain _ _ _ (by kernel_rfl)] at h;have h2:=h.tail.tail;rw[Ni] at h2;have hT:=Lib.tabIs_of_head Tryz.ahX Tryz.acf Tryz.underlying344 Tryz.underlying202 Tryz.ah0 Tryz.ah1 h2;have h3:=h2.tail;unfold Rows.laid_strconv_ErrRange at h3;obtain⟨a1,s1,Co,-,-,-⟩:=laid_sentinel h3 Tryz.gER Tryz.ahZ Tryz.underlying288 Tryz.Vo Tryz.underlying340 Tryz.underlying342 rfl rfl Jd Tryz.cEs Tryz.c9;have h4:=h3.tail;unfold Rows.laid_strconv_ErrSyntax at h4;obtain⟨a0,s0,Cr,-,-,-⟩:=laid_sentinel h4 Tryz.gES Tryz.ahY Tryz.underlying288 Tryz.Vo Tryz.underlying340 Tryz.underlying342 rfl rfl Jd Tryz.cEs Tryz.c9;obtain⟨c1,l1⟩:=Ng Tryz.gER Co;obtain⟨c0,l0⟩:=Ng Tryz.gES Cr;exact⟨Lib.tabBelow_of_tabIs hT,⟨_,_,_,_,c0,c1⟩,l0,l1,Ie _⟩
end Go.Proofs.YtbfghimjdlpicaaGreatDoor
