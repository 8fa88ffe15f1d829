import Derived.Test.YtfidhgjmifendaaGreatDoorns3
set_option maxHeartbeats 6400000
set_option maxRecDepth 100000
open List renaming flatMap_cons→I2,length_append→Ig,length_cons→Iw,length_nil→IV,getD→Ip,getElem?_eq_getElem→If,getElem_mem→IJ,take_succ_eq_append_getElem→IH,flatMap_append→Qf,mem_of_mem_take→Jd,length_take_le→JL,append_assoc→Io,take_of_length_le→Jk
open Go.Obj renaming cells→By
open Go.Value renaming pointer→Ie,func→IT,tuple→Ik,slice→J,int→U,string→Y,bool→Ia
open Option renaming some→AI,none→be
open Go.Ending renaming returned→AT
open Go.IntKind renaming i64→O
open Nat renaming zero_le→IP,le_refl→Ic,le_trans→Ir
open Go renaming heap_alloc_new→Ih,bodyPost→JV
namespace Go.Proofs.YtfidhgjmifendaaGreatDoor
open Go.RowKit
theorem dN:∀(ms:List Mem),(∀m∈ms,kE m)->(ms.flatMap dA).length<=3300*ms.length
 |[],_=>by simp
 |x::r,h=>by
  have h1:=lT (h x (by simp));have h2:=dN r (λm hm=>h m (by simp[hm]));rw[I2,Ig,Iw];omega
theorem iE(B b wb:Nat)(ms:List Mem)(v:Value)(bs:List Value)(w0 w:World)(h:cY B b bs w)(hv:Sl w0 v ms)(hB:B=w0.heap.size)(pQ:Below B w0 w)(Bg:ms.length<=50)(hlen:bs.length+3300*ms.length<=600000)(gW:B<=w.heap.size)(hT:mw B w)(mN:w.heap[wb]?=AI (By #[Ie (AI ⟨b,0,be⟩)] 289 (0,0)))(aQ:wb≠b)(gR:∀m∈ms,kE m) :
 aI 261 #[Ie (AI ⟨b,0,be⟩),v,IT (.func 262) #[] #[Ie (AI ⟨wb,0,be⟩)]] w λe w'=>e=AT (Ik #[])/\cY B b (bs++(bn ms.length++ms.flatMap dA)) w'/\Kp B b w w':=by
 have eg:=enters_of Tryz.func262 (by kernel_rfl) rfl;obtain⟨pa,ca,rfl,_,cR⟩:=hv;have HR:Hid _:=cR;have AU:Hid _:=pQ;have RP:Hid _:=mN;have lC:Hid _:=gR;have HT:Hid (mw B w):=hT;have HI:Hid (cY B b bs w):=h;have ee:Hid _:=hB;clear cR pQ mN gR hT h hB;generalize oD:ms.length=nl at *;have iu:Hid _:=oD;have qT:Hid _:=hlen;clear oD hlen;have Bh:Hid (aI 263 #[Ie (AI ⟨b,0,be⟩),J (AI ⟨w.heap.size,0,be⟩) 1 1] (w.alloc (By #[U O (nl:Int)] 3)) λe w'=>e=AT (Ik #[])/\cY B b (bs++bn nl) w'/\Kp B b w w'):=by
  refine(gY B b [(nl:Int)] bs w HI.out (by have:=qT.out;simp only[Iw,IV];omega) gW HT.out (λn hn=>by simp at hn;rw[hn];exact cW (by omega))).mono ?_;rintro e w' ⟨rfl,h1,h2⟩;exact⟨rfl,by simpa using h1,h2⟩
 go_enter Tryz.func261,Tryz.ntmps261;go_wp2_with fail;refine Bh.out.mono ?_;rintro e w1 ⟨rfl,h1,jn⟩;have oE:Hid (cY _ _ _ _):=h1;have lD:Hid _:=jn;clear h1 jn Bh;go_wp2_with fail;go_loopw [15] (λi w'=>∃k:Nat,k<=nl/\i=U O k/\Hid (cY B b (bs++bn nl++(ms.take k).flatMap dA) w')/\Hid (Kp B b w w')) (λi _=>nl-(intOf i).toNat)
 case atStart=>exact⟨0,IP _,rfl,by simpa using oE,lD⟩
 case round=>
  obtain⟨k,hk,rfl,HW,HK⟩:=hrel;by_cases aX:k<nl
  .obtain⟨g,o,hp,du,hr⟩:∃b off,pa=AI ⟨b,off,be⟩/\b<w0.heap.size/\Row w0 b off ms:=by
    rcases HR.out with h|h
    .have:=iu.out;rw[h] at this;simp at this;omega
    .exact h
   subst hp;have iT:k<ms.length:=by rw[iu.out];exact aX
   obtain⟨c0,c1,c2,c3,c4⟩:=hr k iT;have aR:∀o,wr.cell? ⟨g,o,be⟩=w0.cell? ⟨g,o,be⟩:=λo=>(AU.out.trans HK.out.jH).cell (p:=⟨g,o,be⟩) (by have:=ee.out;show g<B;omega);have He:Hid (kE (ms.getD k dm)):=lC.out _ (by rw[show ms.getD k dm=ms[k] by simp[Ip,If iT]];exact IJ _);have rK:Hid ((ms.take (k+1)).flatMap dA=(ms.take k).flatMap dA++dA (ms.getD k dm)):=by
    show List.flatMap dA _=_;rw[IH iT,Qf];simp[Ip,If iT]
   have CX:Hid ((bs++bn nl++(ms.take k).flatMap dA).length<=700000):=by
    have h1:=dN (ms.take k) (λn hn=>lC.out n (Jd hn));have h2:(ms.take k).length<=k:=JL _ _;have h3:=qT.out;have h4:=dJ (cW (n:=nl) (by omega));show(bs++bn nl++(ms.take k).flatMap dA).length<=700000;rw[Ig,Ig];omega
   generalize ms.getD k dm=x at *;generalize(ms.take k).flatMap dA=L at *;obtain⟨W2,bJ⟩:∃W2,W2=wr.alloc (By #[Y x.name,U O x.state,U O x.aJ,U O x.addr,Ia x.server] 50):=⟨_,rfl⟩;have aK:Below wr.heap.size wr W2:=by rw[bJ];exact(Below.refl _ _).alloc (Ic _) _
   have yK:=Ir gW HK.out.size;have dS:W2.heap[wr.heap.size]?=AI (By #[Y x.name,U O x.state,U O x.aJ,U O x.addr,Ia x.server] 50 (0,0)):=by rw[bJ];exact Ih wr _
   have Bi:Hid _:=HK.out.trans (Kp.cj aK yK);have HC:Hid (aI _ _ _ _):=jX B b wb x _ W2 (HW.out.below aK) CX.out (Ir yK aK.size) (HT.out.below Bi.out.jH) (Bi.out.keeps RP.out aQ (by decide)) aQ He.out;generalize dA x=EX at *;obtain⟨x0,x1,x2,x3,x4⟩:=x;simp only at c0 c1 c2 c3 c4 dS bJ HC;have d0:=(aR _).trans c0;have d1:=(aR _).trans c1;have d2:=(aR _).trans c2;have d3:=(aR _).trans c3;have d4:=(aR _).trans c4;clear aR c0 c1 c2 c3 c4 hr iT aK He CX;have Md:(k:Int)<(nl:Int):=by omega
   go_upto_region 4 with fail
   rw[<- bJ];clear bJ d0 d1 d2 d3 d4;have z0:=ae dS 0;have z1:=ae dS 1;have z2:=ae dS 2;have z3:=ae dS 3;have z4:=ae dS 4;clear dS;go_wp2_with fail;refine HC.out.mono ?_;rintro e w3 ⟨rfl,h3,jY⟩;have zn:Hid (cY B b (bs++bn nl++(L++EX)) w3):=(show cY _ _ _ _ by rw[<- Io];exact h3);have uL:Hid _:=Bi.out.trans jY;clear h3 jY z0 z1 z2 z3 z4;go_wp2_with fail;go_roundw
   case rel=>exact⟨k+1,by omega,by go_num,by rw[rK.out];exact zn,uL⟩
   case measure=>simp[intOf];omega
  .have si:Hid (cY B b (bs++(bn nl++ms.flatMap dA)) wr):=by
    have h:=HW.out;rw[Jk (by rw[iu.out];omega),Io] at h;exact h
   have Md:¬ (k:Int)<(nl:Int):=by omega
   go_wp2_with fail;simp[JV,results,Tryz.results261];exact⟨si.out,HK.out⟩
theorem Sv.dN:∀(ms:List Sv.aY),(∀m∈ms,Sv.kE m)->(ms.flatMap Sv.dA).length<=8800*ms.length
 |[],_=>by simp
 |x::r,h=>by
  have h1:=Sv.lT (h x (by simp));have h2:=Sv.dN r (λm hm=>h m (by simp[hm]));rw[I2,Ig,Iw];omega
theorem Sv.iE(B b wb:Nat)(ms:List Sv.aY)(v:Value)(bs:List Value)(w0 w:World)(h:cY B b bs w)(hv:Sv.Sl w0 v ms)(hB:B=w0.heap.size)(pQ:Below B w0 w)(Bg:ms.length<=50)(hlen:bs.length+8800*ms.length<=600000)(gW:B<=w.heap.size)(hT:mw B w)(mN:w.heap[wb]?=AI (By #[Ie (AI ⟨b,0,be⟩)] 289 (0,0)))(aQ:wb≠b)(gR:∀m∈ms,Sv.kE m) :
 aI 264 #[Ie (AI ⟨b,0,be⟩),v,IT (.func 265) #[] #[Ie (AI ⟨wb,0,be⟩)]] w λe w'=>e=AT (Ik #[])/\cY B b (bs++(bn ms.length++ms.flatMap Sv.dA)) w'/\Kp B b w w':=by
 have eg:=enters_of Tryz.func265 (by kernel_rfl) rfl;obtain⟨pa,ca,rfl,_,cR⟩:=hv;have HR:Hid _:=cR;have AU:Hid _:=pQ;have RP:Hid _:=mN;have lC:Hid _:=gR;have HT:Hid (mw B w):=hT;have HI:Hid (cY B b bs w):=h;have ee:Hid _:=hB;clear cR pQ mN gR hT h hB;generalize oD:ms.length=nl at *;have iu:Hid _:=oD;have qT:Hid _:=hlen;clear oD hlen;have Bh:Hid (aI 263 #[Ie (AI ⟨b,0,be⟩),J (AI ⟨w.heap.size,0,be⟩) 1 1] (w.alloc (By #[U O (nl:Int)] 3)) λe w'=>e=AT (Ik #[])/\cY B b (bs++bn nl) w'/\Kp B b w w'):=by
  refine(gY B b [(nl:Int)] bs w HI.out (by have:=qT.out;simp only[Iw,IV];omega) gW HT.out (λn hn=>by simp at hn;rw[hn];exact cW (by omega))).mono ?_;rintro e w' ⟨rfl,h1,h2⟩;exact⟨rfl,by simpa using h1,h2⟩
 go_enter Tryz.func264,Tryz.ntmps264;go_wp2_with fail;refine Bh.out.mono ?_;rintro e w1 ⟨rfl,h1,jn⟩;have oE:Hid (cY _ _ _ _):=h1;have lD:Hid _:=jn;clear h1 jn Bh;go_wp2_with fail;go_loopw [15] (λi w'=>∃k:Nat,k<=nl/\i=U O k/\Hid (cY B b (bs++bn nl++(ms.take k).flatMap Sv.dA) w')/\Hid (Kp B b w w')) (λi _=>nl-(intOf i).toNat)
 case atStart=>exact⟨0,IP _,rfl,by simpa using oE,lD⟩
 case round=>
  obtain⟨k,hk,rfl,HW,HK⟩:=hrel;by_cases aX:k<nl
  .obtain⟨g,o,hp,du,hr⟩:∃b off,pa=AI ⟨b,off,be⟩/\b<w0.heap.size/\Sv.Row w0 b off ms:=by
    rcases HR.out with h|h
    .have:=iu.out;rw[h] at this;simp at this;omega
    .exact h
   subst hp;have iT:k<ms.length:=by rw[iu.out];exact aX
   obtain⟨c0,c1,c2,c3,c4,c5,c6,c7,c8⟩:=hr k iT;have aR:∀o,wr.cell? ⟨g,o,be⟩=w0.cell? ⟨g,o,be⟩:=λo=>(AU.out.trans HK.out.jH).cell (p:=⟨g,o,be⟩) (by have:=ee.out;show g<B;omega);have He:Hid (Sv.kE (ms.getD k Sv.dm)):=lC.out _ (by rw[show ms.getD k Sv.dm=ms[k] by simp[Ip,If iT]];exact IJ _);have rK:Hid ((ms.take (k+1)).flatMap Sv.dA=(ms.take k).flatMap Sv.dA++Sv.dA (ms.getD k Sv.dm)):=by
    show List.flatMap Sv.dA _=_;rw[IH iT,Qf];simp[Ip,If iT]
   have CX:Hid ((bs++bn nl++(ms.take k).flatMap Sv.dA).length<=700000):=by
    have h1:=Sv.dN (ms.take k) (λn hn=>lC.out n (Jd hn));have h2:(ms.take k).length<=k:=JL _ _;have h3:=qT.out;have h4:=dJ (cW (n:=nl) (by omega));show(bs++bn nl++(ms.take k).flatMap Sv.dA).length<=700000;rw[Ig,Ig];omega
   generalize ms.getD k Sv.dm=x at *;generalize(ms.take k).flatMap Sv.dA=L at *;obtain⟨W2,bJ⟩:∃W2,W2=wr.alloc (By #[Y x.node,Y x.bP,Y x.name,Y x.tag,U O x.addr,U O x.port,Ia x.an,U O x.version,Ia x.gone] 46):=⟨_,rfl⟩;have aK:Below wr.heap.size wr W2:=by rw[bJ];exact(Below.refl _ _).alloc (Ic _) _
   have yK:=Ir gW HK.out.size;have dS:W2.heap[wr.heap.size]?=AI (By #[Y x.node,Y x.bP,Y x.name,Y x.tag,U O x.addr,U O x.port,Ia x.an,U O x.version,Ia x.gone] 46 (0,0)):=by rw[bJ];exact Ih wr _
   have Bi:Hid _:=HK.out.trans (Kp.cj aK yK);have HC:Hid (aI _ _ _ _):=Sv.jX B b wb x _ W2 (HW.out.below aK) CX.out (Ir yK aK.size) (HT.out.below Bi.out.jH) (Bi.out.keeps RP.out aQ (by decide)) aQ He.out;generalize Sv.dA x=EX at *;obtain⟨x0,x1,x2,x3,x4,x5,x6,x7,x8⟩:=x;simp only at c0 c1 c2 c3 c4 c5 c6 c7 c8 dS bJ HC;have d0:=(aR _).trans c0;have d1:=(aR _).trans c1;have d2:=(aR _).trans c2;have d3:=(aR _).trans c3;have d4:=(aR _).trans c4;have d5:=(aR _).trans c5;have d6:=(aR _).trans c6;have d7:=(aR _).trans c7;have d8:=(aR _).trans c8;clear aR c0 c1 c2 c3 c4 c5 c6 c7 c8 hr iT aK He CX;have Md:(k:Int)<(nl:Int):=by omega
   go_upto_region 4 with fail
   rw[<- bJ];clear bJ d0 d1 d2 d3 d4 d5 d6 d7 d8;have z0:=ae dS 0;have z1:=ae dS 1;have z2:=ae dS 2;have z3:=ae dS 3;have z4:=ae dS 4;have z5:=ae dS 5;have z6:=ae dS 6;have z7:=ae dS 7;have z8:=ae dS 8;clear dS;go_wp2_with fail;refine HC.out.mono ?_;rintro e w3 ⟨rfl,h3,jY⟩;have zn:Hid (cY B b (bs++bn nl++(L++EX)) w3):=(show cY _ _ _ _ by rw[<- Io];exact h3);have uL:Hid _:=Bi.out.trans jY;clear h3 jY z0 z1 z2 z3 z4 z5 z6 z7 z8;go_wp2_with fail;go_roundw
   case rel=>exact⟨k+1,by omega,by go_num,by rw[rK.out];exact zn,uL⟩
   case measure=>simp[intOf];omega
  .have si:Hid (cY B b (bs++(bn nl++ms.flatMap Sv.dA)) wr):=by
    have h:=HW.out;rw[Jk (by rw[iu.out];omega),Io] at h;exact h
   have Md:¬ (k:Int)<(nl:Int):=by omega
   go_wp2_with fail;simp[JV,results,Tryz.results264];exact⟨si.out,HK.out⟩
theorem Gw.dN:∀(ms:List Gw.bL),(∀m∈ms,Gw.kE m)->(ms.flatMap Gw.dA).length<=2200*ms.length
 |[],_=>by simp
 |x::r,h=>by
  have h1:=Gw.lT (h x (by simp));have h2:=Gw.dN r (λm hm=>h m (by simp[hm]));rw[I2,Ig,Iw];omega
theorem Gw.iE(B b wb:Nat)(ms:List Gw.bL)(v:Value)(bs:List Value)(w0 w:World)(h:cY B b bs w)(hv:Gw.Sl w0 v ms)(hB:B=w0.heap.size)(pQ:Below B w0 w)(Bg:ms.length<=50)(hlen:bs.length+2200*ms.length<=600000)(gW:B<=w.heap.size)(hT:mw B w)(mN:w.heap[wb]?=AI (By #[Ie (AI ⟨b,0,be⟩)] 289 (0,0)))(aQ:wb≠b)(gR:∀m∈ms,Gw.kE m) :
 aI 266 #[Ie (AI ⟨b,0,be⟩),v,IT (.func 267) #[] #[Ie (AI ⟨wb,0,be⟩)]] w λe w'=>e=AT (Ik #[])/\cY B b (bs++(bn ms.length++ms.flatMap Gw.dA)) w'/\Kp B b w w':=by
 have eg:=enters_of Tryz.func267 (by kernel_rfl) rfl;obtain⟨pa,ca,rfl,_,cR⟩:=hv;have HR:Hid _:=cR;have AU:Hid _:=pQ;have RP:Hid _:=mN;have lC:Hid _:=gR;have HT:Hid (mw B w):=hT;have HI:Hid (cY B b bs w):=h;have ee:Hid _:=hB;clear cR pQ mN gR hT h hB;generalize oD:ms.length=nl at *;have iu:Hid _:=oD;have qT:Hid _:=hlen;clear oD hlen;have Bh:Hid (aI 263 #[Ie (AI ⟨b,0,be⟩),J (AI ⟨w.heap.size,0,be⟩) 1 1] (w.alloc (By #[U O (nl:Int)] 3)) λe w'=>e=AT (Ik #[])/\cY B b (bs++bn nl) w'/\Kp B b w w'):=by
  refine(gY B b [(nl:Int)] bs w HI.out (by have:=qT.out;simp only[Iw,IV];omega) gW HT.out (λn hn=>by simp at hn;rw[hn];exact cW (by omega))).mono ?_;rintro e w' ⟨rfl,h1,h2⟩;exact⟨rfl,by simpa using h1,h2⟩
 go_enter Tryz.func266,Tryz.ntmps266;go_wp2_with fail;refine Bh.out.mono ?_;rintro e w1 ⟨rfl,h1,jn⟩;have oE:Hid (cY _ _ _ _):=h1;have lD:Hid _:=jn;clear h1 jn Bh;go_wp2_with fail;go_loopw [15] (λi w'=>∃k:Nat,k<=nl/\i=U O k/\Hid (cY B b (bs++bn nl++(ms.take k).flatMap Gw.dA) w')/\Hid (Kp B b w w')) (λi _=>nl-(intOf i).toNat)
 case atStart=>exact⟨0,IP _,rfl,by simpa using oE,lD⟩
 case round=>
  obtain⟨k,hk,rfl,HW,HK⟩:=hrel;by_cases aX:k<nl
  .obtain⟨g,o,hp,du,hr⟩:∃b off,pa=AI ⟨b,off,be⟩/\b<w0.heap.size/\Gw.Row w0 b off ms:=by
    rcases HR.out with h|h
    .have:=iu.out;rw[h] at this;simp at this;omega
    .exact h
   subst hp;have iT:k<ms.length:=by rw[iu.out];exact aX
   obtain⟨c0,c1,c2⟩:=hr k iT;have aR:∀o,wr.cell? ⟨g,o,be⟩=w0.cell? ⟨g,o,be⟩:=λo=>(AU.out.trans HK.out.jH).cell (p:=⟨g,o,be⟩) (by have:=ee.out;show g<B;omega);have He:Hid (Gw.kE (ms.getD k Gw.dm)):=lC.out _ (by rw[show ms.getD k Gw.dm=ms[k] by simp[Ip,If iT]];exact IJ _);have rK:Hid ((ms.take (k+1)).flatMap Gw.dA=(ms.take k).flatMap Gw.dA++Gw.dA (ms.getD k Gw.dm)):=by
    show List.flatMap Gw.dA _=_;rw[IH iT,Qf];simp[Ip,If iT]
   have CX:Hid ((bs++bn nl++(ms.take k).flatMap Gw.dA).length<=700000):=by
    have h1:=Gw.dN (ms.take k) (λn hn=>lC.out n (Jd hn));have h2:(ms.take k).length<=k:=JL _ _;have h3:=qT.out;have h4:=dJ (cW (n:=nl) (by omega));show(bs++bn nl++(ms.take k).flatMap Gw.dA).length<=700000;rw[Ig,Ig];omega
   generalize ms.getD k Gw.dm=x at *;generalize(ms.take k).flatMap Gw.dA=L at *;obtain⟨W2,bJ⟩:∃W2,W2=wr.alloc (By #[Y x.aD,U O x.addr,U O x.version] 77):=⟨_,rfl⟩;have aK:Below wr.heap.size wr W2:=by rw[bJ];exact(Below.refl _ _).alloc (Ic _) _
   have yK:=Ir gW HK.out.size;have dS:W2.heap[wr.heap.size]?=AI (By #[Y x.aD,U O x.addr,U O x.version] 77 (0,0)):=by rw[bJ];exact Ih wr _
   have Bi:Hid _:=HK.out.trans (Kp.cj aK yK);have HC:Hid (aI _ _ _ _):=Gw.jX B b wb x _ W2 (HW.out.below aK) CX.out (Ir yK aK.size) (HT.out.below Bi.out.jH) (Bi.out.keeps RP.out aQ (by decide)) aQ He.out;generalize Gw.dA x=EX at *;obtain⟨x0,x1,x2⟩:=x;simp only at c0 c1 c2 dS bJ HC;have d0:=(aR _).trans c0;have d1:=(aR _).trans c1;have d2:=(aR _).trans c2;clear aR c0 c1 c2 hr iT aK He CX;have Md:(k:Int)<(nl:Int):=by omega
   go_upto_region 4 with fail
   rw[<- bJ];clear bJ d0 d1 d2;have z0:=ae dS 0;have z1:=ae dS 1;have z2:=ae dS 2;clear dS;go_wp2_with fail;refine HC.out.mono ?_;rintro e w3 ⟨rfl,h3,jY⟩;have zn:Hid (cY B b (bs++bn nl++(L++EX)) w3):=(show cY _ _ _ _ by rw[<- Io];exact h3);have uL:Hid _:=Bi.out.trans jY;clear h3 jY z0 z1 z2;go_wp2_with fail;go_roundw
   case rel=>exact⟨k+1,by omega,by go_num,by rw[rK.out];exact zn,uL⟩
   case measure=>simp[intOf];omega
  .have si:Hid (cY B b (bs++(bn nl++ms.flatMap Gw.dA)) wr):=by
    have h:=HW.out;rw[Jk (by rw[iu.out];omega),Io] at h;exact h
   have Md:¬ (k:Int)<(nl:Int):=by omega
   go_wp2_with fail;simp[JV,results,Tryz.results266];exact⟨si.out,HK.out⟩
theorem Wh.dN:∀(ms:List Wh.bK),(∀m∈ms,Wh.kE m)->(ms.flatMap Wh.dA).length<=2200*ms.length
 |[],_=>by simp
 |x::r,h=>by
  have h1:=Wh.lT (h x (by simp));have h2:=Wh.dN r (λm hm=>h m (by simp[hm]));rw[I2,Ig,Iw];omega
theorem Wh.iE(B b wb:Nat)(ms:List Wh.bK)(v:Value)(bs:List Value)(w0 w:World)(h:cY B b bs w)(hv:Wh.Sl w0 v ms)(hB:B=w0.heap.size)(pQ:Below B w0 w)(Bg:ms.length<=50)(hlen:bs.length+2200*ms.length<=600000)(gW:B<=w.heap.size)(hT:mw B w)(mN:w.heap[wb]?=AI (By #[Ie (AI ⟨b,0,be⟩)] 289 (0,0)))(aQ:wb≠b)(gR:∀m∈ms,Wh.kE m) :
 aI 268 #[Ie (AI ⟨b,0,be⟩),v,IT (.func 269) #[] #[Ie (AI ⟨wb,0,be⟩)]] w λe w'=>e=AT (Ik #[])/\cY B b (bs++(bn ms.length++ms.flatMap Wh.dA)) w'/\Kp B b w w':=by
 have eg:=enters_of Tryz.func269 (by kernel_rfl) rfl;obtain⟨pa,ca,rfl,_,cR⟩:=hv;have HR:Hid _:=cR;have AU:Hid _:=pQ;have RP:Hid _:=mN;have lC:Hid _:=gR;have HT:Hid (mw B w):=hT;have HI:Hid (cY B b bs w):=h;have ee:Hid _:=hB;clear cR pQ mN gR hT h hB;generalize oD:ms.length=nl at *;have iu:Hid _:=oD;have qT:Hid _:=hlen;clear oD hlen;have Bh:Hid (aI 263 #[Ie (AI ⟨b,0,be⟩),J (AI ⟨w.heap.size,0,be⟩) 1 1] (w.alloc (By #[U O (nl:Int)] 3)) λe w'=>e=AT (Ik #[])/\cY B b (bs++bn nl) w'/\Kp B b w w'):=by
  refine(gY B b [(nl:Int)] bs w HI.out (by have:=qT.out;simp only[Iw,IV];omega) gW HT.out (λn hn=>by simp at hn;rw[hn];exact cW (by omega))).mono ?_;rintro e w' ⟨rfl,h1,h2⟩;exact⟨rfl,by simpa using h1,h2⟩
 go_enter Tryz.func268,Tryz.ntmps268;go_wp2_with fail;refine Bh.out.mono ?_;rintro e w1 ⟨rfl,h1,jn⟩;have oE:Hid (cY _ _ _ _):=h1;have lD:Hid _:=jn;clear h1 jn Bh;go_wp2_with fail;go_loopw [15] (λi w'=>∃k:Nat,k<=nl/\i=U O k/\Hid (cY B b (bs++bn nl++(ms.take k).flatMap Wh.dA) w')/\Hid (Kp B b w w')) (λi _=>nl-(intOf i).toNat)
 case atStart=>exact⟨0,IP _,rfl,by simpa using oE,lD⟩
 case round=>
  obtain⟨k,hk,rfl,HW,HK⟩:=hrel;by_cases aX:k<nl
  .obtain⟨g,o,hp,du,hr⟩:∃b off,pa=AI ⟨b,off,be⟩/\b<w0.heap.size/\Wh.Row w0 b off ms:=by
    rcases HR.out with h|h
    .have:=iu.out;rw[h] at this;simp at this;omega
    .exact h
   subst hp;have iT:k<ms.length:=by rw[iu.out];exact aX
   obtain⟨c0,c1,c2,c3,c4,c5⟩:=hr k iT;have aR:∀o,wr.cell? ⟨g,o,be⟩=w0.cell? ⟨g,o,be⟩:=λo=>(AU.out.trans HK.out.jH).cell (p:=⟨g,o,be⟩) (by have:=ee.out;show g<B;omega);have He:Hid (Wh.kE (ms.getD k Wh.dm)):=lC.out _ (by rw[show ms.getD k Wh.dm=ms[k] by simp[Ip,If iT]];exact IJ _);have rK:Hid ((ms.take (k+1)).flatMap Wh.dA=(ms.take k).flatMap Wh.dA++Wh.dA (ms.getD k Wh.dm)):=by
    show List.flatMap Wh.dA _=_;rw[IH iT,Qf];simp[Ip,If iT]
   have CX:Hid ((bs++bn nl++(ms.take k).flatMap Wh.dA).length<=700000):=by
    have h1:=Wh.dN (ms.take k) (λn hn=>lC.out n (Jd hn));have h2:(ms.take k).length<=k:=JL _ _;have h3:=qT.out;have h4:=dJ (cW (n:=nl) (by omega));show(bs++bn nl++(ms.take k).flatMap Wh.dA).length<=700000;rw[Ig,Ig];omega
   generalize ms.getD k Wh.dm=x at *;generalize(ms.take k).flatMap Wh.dA=L at *;obtain⟨W2,bJ⟩:∃W2,W2=wr.alloc (By #[Y x.node,U O x.x,U O x.y,U O x.z,U O x.h,U O x.s] 116):=⟨_,rfl⟩;have aK:Below wr.heap.size wr W2:=by rw[bJ];exact(Below.refl _ _).alloc (Ic _) _
   have yK:=Ir gW HK.out.size;have dS:W2.heap[wr.heap.size]?=AI (By #[Y x.node,U O x.x,U O x.y,U O x.z,U O x.h,U O x.s] 116 (0,0)):=by rw[bJ];exact Ih wr _
   have Bi:Hid _:=HK.out.trans (Kp.cj aK yK);have HC:Hid (aI _ _ _ _):=Wh.jX B b wb x _ W2 (HW.out.below aK) CX.out (Ir yK aK.size) (HT.out.below Bi.out.jH) (Bi.out.keeps RP.out aQ (by decide)) aQ He.out;generalize Wh.dA x=EX at *;obtain⟨x0,x1,x2,x3,x4,x5⟩:=x;simp only at c0 c1 c2 c3 c4 c5 dS bJ HC;have d0:=(aR _).trans c0;have d1:=(aR _).trans c1;have d2:=(aR _).trans c2;have d3:=(aR _).trans c3;have d4:=(aR _).trans c4;have d5:=(aR _).trans c5;clear aR c0 c1 c2 c3 c4 c5 hr iT aK He CX;have Md:(k:Int)<(nl:Int):=by omega
   go_upto_region 4 with fail
   rw[<- bJ];clear bJ d0 d1 d2 d3 d4 d5;have z0:=ae dS 0;have z1:=ae dS 1;have z2:=ae dS 2;have z3:=ae dS 3;have z4:=ae dS 4;have z5:=ae dS 5;clear dS;go_wp2_with fail;refine HC.out.mono ?_;rintro e w3 ⟨rfl,h3,jY⟩;have zn:Hid (cY B b (bs++bn nl++(L++EX)) w3):=(show cY _ _ _ _ by rw[<- Io];exact h3);have uL:Hid _:=Bi.out.trans jY;clear h3 jY z0 z1 z2 z3 z4 z5;go_wp2_with fail;go_roundw
   case rel=>exact⟨k+1,by omega,by go_num,by rw[rK.out];exact zn,uL⟩
   case measure=>simp[intOf];omega
  .have si:Hid (cY B b (bs++(bn nl++ms.flatMap Wh.dA)) wr):=by
    have h:=HW.out;rw[Jk (by rw[iu.out];omega),Io] at h;exact h
   have Md:¬ (k:Int)<(nl:Int):=by omega
   go_wp2_with fail;simp[JV,results,Tryz.results268];exact⟨si.out,HK.out⟩
end Go.Proofs.YtfidhgjmifendaaGreatDoor
