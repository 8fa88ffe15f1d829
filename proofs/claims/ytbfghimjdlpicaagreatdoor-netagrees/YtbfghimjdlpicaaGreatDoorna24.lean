import Derived.Test.YtbfghimjdlpicaaGreatDoorna23
import Derived.Test.YtbfghimjdlpicaaGreatDoorna10
import Derived.Shelf.RegionOpen
import Derived.Lib.Split
set_option maxHeartbeats 6400000
set_option maxRecDepth 100000
open Go.Value renaming bool→Ia,int→U,tuple→Ip,pointer→If,func→IQ,slice→J,string→Y
open Go.IntKind renaming i64→O
open Go.Ending renaming returned→AT
open Go.Proofs.Tryz renaming prog→AS
open Go renaming bodyPost→J2,heap_alloc_new→Ij,bodyPost_ret→IL
open Option renaming some→AI,none→be
open Go.Obj renaming cells→By
open List renaming flatMap_cons→I4,length_append→Ii,length_cons→Iy,length_nil→IX,getD→Ir,getElem?_eq_getElem→Ic,getElem_mem→IK,take_succ_eq_append_getElem→IB,flatMap_append→Qr,mem_of_mem_take→Jf,length_take_le→JM,append_assoc→Iq,take_of_length_le→Ji,length→Jz
open Nat renaming zero_le→IF,le_refl→Ie,le_trans→Is,mul_le_mul_left→Ue
open Go.RowKit.Below renaming refl→Ib
open Go.Lib renaming itoa→QG,byteCells→Jv,indexByte→Jm
open Bool renaming and_eq_true→IG
open Array renaming getElem?_eq_some_iff→BY
namespace Go.Proofs.YtbfghimjdlpicaaGreatDoor
open Go.RowKit
theorem kx(e:Int)(w:World) :
 Calls AS 182 #[Ia true,U O e] w λx w'=>x=AT (Ip #[])/\w'=w:=by
 go_enter Tryz.func182,Tryz.ntmps182;go_wp2_with fail;simp[J2,results,Tryz.results182]
theorem Dy(p:Addr)(w:World) :
 CallsD AS 222 #[If (AI p)] .returning w λe u' w'=>e=AT (Ip #[])/\u'=.returning/\w'=w:=by
 refine callsD_of_wpS Tryz.func222 rfl λc₀ cs hu=>?_;apply wpS_seq;apply wpS_region;simp[wpOpsS,go_sem,recoverD,hu,Tryz.ntmps222,Exit.thenS,Array.replicate];refine wpS_of_wp ?_;go_wp2_with fail;cases c₀
 simp_all [bodyPostS,results,Tryz.results222]
theorem Dz(f:Nat)(WZ:Array Value)(w:World)(R:World->Prop)(ef:∀args W,(callFunc f args).run AS W=.ok (.enter f args) W)(hw:Calls AS f WZ (w.alloc (By #[U O 0] 32)) λr w'=>r=AT (Ip #[])/\R w'/\w'.cell? ⟨w.heap.size,0,be⟩=AI (U O 0)/\w'.frozen? ⟨w.heap.size,0,be⟩=false/\w.heap.size<w'.heap.size) :
 Calls AS 183 #[IQ (.func f) #[] WZ] w λr w'=>r=AT (U O 0)/\∃w1,R w1/\w.heap.size<w1.heap.size/\w'=w1.setCell ⟨w.heap.size,0,be⟩ (U O 0):=by
 have hmf:∀(fn:Fn) (first cap:Array Value) (w:World),(Instr.makeFunc fn first cap).run AS w=.ok (IQ fn first cap) w:=λ_ _ _ _=>rfl;have HW:Hid (Calls AS f WZ (w.alloc (By #[U O 0] 32)) λr w'=>r=AT (Ip #[])/\Hid (R w')/\w'.cell? ⟨w.heap.size,0,be⟩=AI (U O 0)/\w'.frozen? ⟨w.heap.size,0,be⟩=false/\w.heap.size<w'.heap.size):=hw;clear hw;go_enter_defers Tryz.func183,Tryz.ntmps183
 go_wp2_with fail;refine HW.out.mono ?_;rintro e w1 ⟨rfl,HR,h1,h2,h3⟩;go_wp2_with fail;refine leaves_cons (f:=222) (args:=#[If (AI ⟨w.heap.size,0,be⟩)]) (by simp) (by simp[go_sem]) ?_;refine(Dy ⟨w.heap.size,0,be⟩ _).mono ?_;rintro e u' fR ⟨rfl,rfl,rfl⟩;simp[Leaves,settle,results,Tryz.results183,go_sem,h1];exact⟨w1,HR.out,h3,rfl⟩
theorem ej:∀(ms:List Mem),(∀m∈ms,lK m)->(ms.flatMap dP).length<=3300*ms.length
 |[],_=>by simp
 |x::r,h=>by
  have h1:=nz (h x (by simp));have h2:=ej r (λm hm=>h m (by simp[hm]));rw[I4,Ii,Iy];omega
theorem jw(B b wb:Nat)(ms:List Mem)(v:Value)(bs:List Value)(w0 w:World)(h:dC B b bs w)(hv:Sl w0 v ms)(hB:B=w0.heap.size)(rS:Below B w0 w)(Mx:ms.length<=50)(hlen:bs.length+3300*ms.length<=600000)(iL:B<=w.heap.size)(hT:nN B w)(oB:w.heap[wb]?=AI (By #[If (AI ⟨b,0,be⟩)] 292 (0,0)))(aP:wb≠b)(gP:∀m∈ms,lK m) :
 aK 258 #[If (AI ⟨b,0,be⟩),v,IQ (.func 259) #[] #[If (AI ⟨wb,0,be⟩)]] w λe w'=>e=AT (Ip #[])/\dC B b (bs++(bq ms.length++ms.flatMap dP)) w'/\Kp B b w w':=by
 have eg:=enters_of Tryz.func259 (by kernel_rfl) rfl;obtain⟨pa,ca,rfl,_,cL⟩:=hv;have HR:Hid _:=cL;have Ct:Hid _:=rS;have Xa:Hid _:=oB;have mK:Hid _:=gP;have HT:Hid (nN B w):=hT;have HI:Hid (dC B b bs w):=h;have dF:Hid _:=hB;clear cL rS oB gP hT h hB;generalize tt:ms.length=nl at *;have lB:Hid _:=tt;have sQ:Hid _:=hlen;clear tt hlen;have CK:Hid (aK 260 #[If (AI ⟨b,0,be⟩),J (AI ⟨w.heap.size,0,be⟩) 1 1] (w.alloc (By #[U O (nl:Int)] 3)) λe w'=>e=AT (Ip #[])/\dC B b (bs++bq nl) w'/\Kp B b w w'):=by
  refine(iR B b [(nl:Int)] bs w HI.out (by have:=sQ.out;simp only[Iy,IX];omega) iL HT.out (λn hn=>by simp at hn;rw[hn];exact dB (by omega))).mono ?_;rintro e w' ⟨rfl,h1,h2⟩;exact⟨rfl,by simpa using h1,h2⟩
 go_enter Tryz.func258,Tryz.ntmps258;go_wp2_with fail;refine CK.out.mono ?_;rintro e w1 ⟨rfl,h1,kt⟩;have pD:Hid (dC _ _ _ _):=h1;have nS:Hid _:=kt;clear h1 kt CK;go_wp2_with fail;go_loopw [15] (λi w'=>∃k:Nat,k<=nl/\i=U O k/\Hid (dC B b (bs++bq nl++(ms.take k).flatMap dP) w')/\Hid (Kp B b w w')) (λi _=>nl-(intOf i).toNat)
 case atStart=>exact⟨0,IF _,rfl,by simpa using pD,nS⟩
 case round=>
  obtain⟨k,hk,rfl,HW,HK⟩:=hrel;by_cases aX:k<nl
  .obtain⟨g,o,hp,dv,hr⟩:∃b off,pa=AI ⟨b,off,be⟩/\b<w0.heap.size/\Row w0 b off ms:=by
    rcases HR.out with h|h
    .have:=lB.out;rw[h] at this;simp at this;omega
    .exact h
   subst hp;have ie:k<ms.length:=by rw[lB.out];exact aX
   obtain⟨c0,c1,c2,c3,c4⟩:=hr k ie;have aO:∀o,wr.cell? ⟨g,o,be⟩=w0.cell? ⟨g,o,be⟩:=λo=>(Ct.out.trans HK.out.lv).cell (p:=⟨g,o,be⟩) (by have:=dF.out;show g<B;omega);have M9:Hid (lK (ms.getD k dm)):=mK.out _ (by rw[show ms.getD k dm=ms[k] by simp[Ir,Ic ie]];exact IK _);have qB:Hid ((ms.take (k+1)).flatMap dP=(ms.take k).flatMap dP++dP (ms.getD k dm)):=by
    show List.flatMap dP _=_;rw[IB ie,Qr];simp[Ir,Ic ie]
   have Fp:Hid ((bs++bq nl++(ms.take k).flatMap dP).length<=700000):=by
    have h1:=ej (ms.take k) (λn hn=>mK.out n (Jf hn));have h2:(ms.take k).length<=k:=JM _ _;have h3:=sQ.out;have h4:=dZ (dB (n:=nl) (by omega));show(bs++bq nl++(ms.take k).flatMap dP).length<=700000;rw[Ii,Ii];omega
   generalize ms.getD k dm=x at *;generalize(ms.take k).flatMap dP=L at *;obtain⟨W2,bO⟩:∃W2,W2=wr.alloc (By #[Y x.name,U O x.state,U O x.aI,U O x.addr,Ia x.server] 52):=⟨_,rfl⟩;have aL:Below wr.heap.size wr W2:=by rw[bO];exact(Ib _ _).alloc (Ie _) _
   have AA:=Is iL HK.out.size;have dO:W2.heap[wr.heap.size]?=AI (By #[Y x.name,U O x.state,U O x.aI,U O x.addr,Ia x.server] 52 (0,0)):=by rw[bO];exact Ij wr _
   have DA:Hid _:=HK.out.trans (Kp.cG aL AA);have HC:Hid (aK _ _ _ _):=kZ B b wb x _ W2 (HW.out.below aL) Fp.out (Is AA aL.size) (HT.out.below DA.out.lv) (DA.out.keeps Xa.out aP (by decide)) aP M9.out;generalize dP x=EX at *;obtain⟨x0,x1,x2,x3,x4⟩:=x;simp only at c0 c1 c2 c3 c4 dO bO HC;have d0:=(aO _).trans c0;have d1:=(aO _).trans c1;have d2:=(aO _).trans c2;have d3:=(aO _).trans c3;have d4:=(aO _).trans c4;clear aO c0 c1 c2 c3 c4 hr ie aL M9 Fp;have Sn:(k:Int)<(nl:Int):=by omega
   go_upto_region 4 with fail
   rw[<- bO];clear bO d0 d1 d2 d3 d4;have z0:=ae dO 0;have z1:=ae dO 1;have z2:=ae dO 2;have z3:=ae dO 3;have z4:=ae dO 4;clear dO;go_wp2_with fail;refine HC.out.mono ?_;rintro e w3 ⟨rfl,h3,kV⟩;have yd:Hid (dC B b (bs++bq nl++(L++EX)) w3):=(show dC _ _ _ _ by rw[<- Iq];exact h3);have wK:Hid _:=DA.out.trans kV;clear h3 kV z0 z1 z2 z3 z4;go_wp2_with fail;go_roundw
   case rel=>exact⟨k+1,by omega,by go_num,by rw[qB.out];exact yd,wK⟩
   case measure=>simp[intOf];omega
  .have tP:Hid (dC B b (bs++(bq nl++ms.flatMap dP)) wr):=by
    have h:=HW.out;rw[Ji (by rw[lB.out];omega),Iq] at h;exact h
   have Sn:¬ (k:Int)<(nl:Int):=by omega
   go_wp2_with fail;simp[J2,results,Tryz.results258];exact⟨tP.out,HK.out⟩
theorem Sv.ej:∀(ms:List Sv.aV),(∀m∈ms,Sv.lK m)->(ms.flatMap Sv.dP).length<=8800*ms.length
 |[],_=>by simp
 |x::r,h=>by
  have h1:=Sv.nz (h x (by simp));have h2:=Sv.ej r (λm hm=>h m (by simp[hm]));rw[I4,Ii,Iy];omega
theorem Sv.jw(B b wb:Nat)(ms:List Sv.aV)(v:Value)(bs:List Value)(w0 w:World)(h:dC B b bs w)(hv:Sv.Sl w0 v ms)(hB:B=w0.heap.size)(rS:Below B w0 w)(Mx:ms.length<=50)(hlen:bs.length+8800*ms.length<=600000)(iL:B<=w.heap.size)(hT:nN B w)(oB:w.heap[wb]?=AI (By #[If (AI ⟨b,0,be⟩)] 292 (0,0)))(aP:wb≠b)(gP:∀m∈ms,Sv.lK m) :
 aK 261 #[If (AI ⟨b,0,be⟩),v,IQ (.func 262) #[] #[If (AI ⟨wb,0,be⟩)]] w λe w'=>e=AT (Ip #[])/\dC B b (bs++(bq ms.length++ms.flatMap Sv.dP)) w'/\Kp B b w w':=by
 have eg:=enters_of Tryz.func262 (by kernel_rfl) rfl;obtain⟨pa,ca,rfl,_,cL⟩:=hv;have HR:Hid _:=cL;have Ct:Hid _:=rS;have Xa:Hid _:=oB;have mK:Hid _:=gP;have HT:Hid (nN B w):=hT;have HI:Hid (dC B b bs w):=h;have dF:Hid _:=hB;clear cL rS oB gP hT h hB;generalize tt:ms.length=nl at *;have lB:Hid _:=tt;have sQ:Hid _:=hlen;clear tt hlen;have CK:Hid (aK 260 #[If (AI ⟨b,0,be⟩),J (AI ⟨w.heap.size,0,be⟩) 1 1] (w.alloc (By #[U O (nl:Int)] 3)) λe w'=>e=AT (Ip #[])/\dC B b (bs++bq nl) w'/\Kp B b w w'):=by
  refine(iR B b [(nl:Int)] bs w HI.out (by have:=sQ.out;simp only[Iy,IX];omega) iL HT.out (λn hn=>by simp at hn;rw[hn];exact dB (by omega))).mono ?_;rintro e w' ⟨rfl,h1,h2⟩;exact⟨rfl,by simpa using h1,h2⟩
 go_enter Tryz.func261,Tryz.ntmps261;go_wp2_with fail;refine CK.out.mono ?_;rintro e w1 ⟨rfl,h1,kt⟩;have pD:Hid (dC _ _ _ _):=h1;have nS:Hid _:=kt;clear h1 kt CK;go_wp2_with fail;go_loopw [15] (λi w'=>∃k:Nat,k<=nl/\i=U O k/\Hid (dC B b (bs++bq nl++(ms.take k).flatMap Sv.dP) w')/\Hid (Kp B b w w')) (λi _=>nl-(intOf i).toNat)
 case atStart=>exact⟨0,IF _,rfl,by simpa using pD,nS⟩
 case round=>
  obtain⟨k,hk,rfl,HW,HK⟩:=hrel;by_cases aX:k<nl
  .obtain⟨g,o,hp,dv,hr⟩:∃b off,pa=AI ⟨b,off,be⟩/\b<w0.heap.size/\Sv.Row w0 b off ms:=by
    rcases HR.out with h|h
    .have:=lB.out;rw[h] at this;simp at this;omega
    .exact h
   subst hp;have ie:k<ms.length:=by rw[lB.out];exact aX
   obtain⟨c0,c1,c2,c3,c4,c5,c6,c7,c8⟩:=hr k ie;have aO:∀o,wr.cell? ⟨g,o,be⟩=w0.cell? ⟨g,o,be⟩:=λo=>(Ct.out.trans HK.out.lv).cell (p:=⟨g,o,be⟩) (by have:=dF.out;show g<B;omega);have M9:Hid (Sv.lK (ms.getD k Sv.dm)):=mK.out _ (by rw[show ms.getD k Sv.dm=ms[k] by simp[Ir,Ic ie]];exact IK _);have qB:Hid ((ms.take (k+1)).flatMap Sv.dP=(ms.take k).flatMap Sv.dP++Sv.dP (ms.getD k Sv.dm)):=by
    show List.flatMap Sv.dP _=_;rw[IB ie,Qr];simp[Ir,Ic ie]
   have Fp:Hid ((bs++bq nl++(ms.take k).flatMap Sv.dP).length<=700000):=by
    have h1:=Sv.ej (ms.take k) (λn hn=>mK.out n (Jf hn));have h2:(ms.take k).length<=k:=JM _ _;have h3:=sQ.out;have h4:=dZ (dB (n:=nl) (by omega));show(bs++bq nl++(ms.take k).flatMap Sv.dP).length<=700000;rw[Ii,Ii];omega
   generalize ms.getD k Sv.dm=x at *;generalize(ms.take k).flatMap Sv.dP=L at *;obtain⟨W2,bO⟩:∃W2,W2=wr.alloc (By #[Y x.node,Y x.bf,Y x.name,Y x.tag,U O x.addr,U O x.port,Ia x.af,U O x.version,Ia x.gone] 38):=⟨_,rfl⟩;have aL:Below wr.heap.size wr W2:=by rw[bO];exact(Ib _ _).alloc (Ie _) _
   have AA:=Is iL HK.out.size;have dO:W2.heap[wr.heap.size]?=AI (By #[Y x.node,Y x.bf,Y x.name,Y x.tag,U O x.addr,U O x.port,Ia x.af,U O x.version,Ia x.gone] 38 (0,0)):=by rw[bO];exact Ij wr _
   have DA:Hid _:=HK.out.trans (Kp.cG aL AA);have HC:Hid (aK _ _ _ _):=Sv.kZ B b wb x _ W2 (HW.out.below aL) Fp.out (Is AA aL.size) (HT.out.below DA.out.lv) (DA.out.keeps Xa.out aP (by decide)) aP M9.out;generalize Sv.dP x=EX at *;obtain⟨x0,x1,x2,x3,x4,x5,x6,x7,x8⟩:=x;simp only at c0 c1 c2 c3 c4 c5 c6 c7 c8 dO bO HC;have d0:=(aO _).trans c0;have d1:=(aO _).trans c1;have d2:=(aO _).trans c2;have d3:=(aO _).trans c3;have d4:=(aO _).trans c4;have d5:=(aO _).trans c5;have d6:=(aO _).trans c6;have d7:=(aO _).trans c7;have d8:=(aO _).trans c8;clear aO c0 c1 c2 c3 c4 c5 c6 c7 c8 hr ie aL M9 Fp;have Sn:(k:Int)<(nl:Int):=by omega
   go_upto_region 4 with fail
   rw[<- bO];clear bO d0 d1 d2 d3 d4 d5 d6 d7 d8;have z0:=ae dO 0;have z1:=ae dO 1;have z2:=ae dO 2;have z3:=ae dO 3;have z4:=ae dO 4;have z5:=ae dO 5;have z6:=ae dO 6;have z7:=ae dO 7;have z8:=ae dO 8;clear dO;go_wp2_with fail;refine HC.out.mono ?_;rintro e w3 ⟨rfl,h3,kV⟩;have yd:Hid (dC B b (bs++bq nl++(L++EX)) w3):=(show dC _ _ _ _ by rw[<- Iq];exact h3);have wK:Hid _:=DA.out.trans kV;clear h3 kV z0 z1 z2 z3 z4 z5 z6 z7 z8;go_wp2_with fail;go_roundw
   case rel=>exact⟨k+1,by omega,by go_num,by rw[qB.out];exact yd,wK⟩
   case measure=>simp[intOf];omega
  .have tP:Hid (dC B b (bs++(bq nl++ms.flatMap Sv.dP)) wr):=by
    have h:=HW.out;rw[Ji (by rw[lB.out];omega),Iq] at h;exact h
   have Sn:¬ (k:Int)<(nl:Int):=by omega
   go_wp2_with fail;simp[J2,results,Tryz.results261];exact⟨tP.out,HK.out⟩
theorem Gw.ej:∀(ms:List Gw.bN),(∀m∈ms,Gw.lK m)->(ms.flatMap Gw.dP).length<=2200*ms.length
 |[],_=>by simp
 |x::r,h=>by
  have h1:=Gw.nz (h x (by simp));have h2:=Gw.ej r (λm hm=>h m (by simp[hm]));rw[I4,Ii,Iy];omega
theorem Gw.jw(B b wb:Nat)(ms:List Gw.bN)(v:Value)(bs:List Value)(w0 w:World)(h:dC B b bs w)(hv:Gw.Sl w0 v ms)(hB:B=w0.heap.size)(rS:Below B w0 w)(Mx:ms.length<=50)(hlen:bs.length+2200*ms.length<=600000)(iL:B<=w.heap.size)(hT:nN B w)(oB:w.heap[wb]?=AI (By #[If (AI ⟨b,0,be⟩)] 292 (0,0)))(aP:wb≠b)(gP:∀m∈ms,Gw.lK m) :
 aK 263 #[If (AI ⟨b,0,be⟩),v,IQ (.func 264) #[] #[If (AI ⟨wb,0,be⟩)]] w λe w'=>e=AT (Ip #[])/\dC B b (bs++(bq ms.length++ms.flatMap Gw.dP)) w'/\Kp B b w w':=by
 have eg:=enters_of Tryz.func264 (by kernel_rfl) rfl;obtain⟨pa,ca,rfl,_,cL⟩:=hv;have HR:Hid _:=cL;have Ct:Hid _:=rS;have Xa:Hid _:=oB;have mK:Hid _:=gP;have HT:Hid (nN B w):=hT;have HI:Hid (dC B b bs w):=h;have dF:Hid _:=hB;clear cL rS oB gP hT h hB;generalize tt:ms.length=nl at *;have lB:Hid _:=tt;have sQ:Hid _:=hlen;clear tt hlen;have CK:Hid (aK 260 #[If (AI ⟨b,0,be⟩),J (AI ⟨w.heap.size,0,be⟩) 1 1] (w.alloc (By #[U O (nl:Int)] 3)) λe w'=>e=AT (Ip #[])/\dC B b (bs++bq nl) w'/\Kp B b w w'):=by
  refine(iR B b [(nl:Int)] bs w HI.out (by have:=sQ.out;simp only[Iy,IX];omega) iL HT.out (λn hn=>by simp at hn;rw[hn];exact dB (by omega))).mono ?_;rintro e w' ⟨rfl,h1,h2⟩;exact⟨rfl,by simpa using h1,h2⟩
 go_enter Tryz.func263,Tryz.ntmps263;go_wp2_with fail;refine CK.out.mono ?_;rintro e w1 ⟨rfl,h1,kt⟩;have pD:Hid (dC _ _ _ _):=h1;have nS:Hid _:=kt;clear h1 kt CK;go_wp2_with fail;go_loopw [15] (λi w'=>∃k:Nat,k<=nl/\i=U O k/\Hid (dC B b (bs++bq nl++(ms.take k).flatMap Gw.dP) w')/\Hid (Kp B b w w')) (λi _=>nl-(intOf i).toNat)
 case atStart=>exact⟨0,IF _,rfl,by simpa using pD,nS⟩
 case round=>
  obtain⟨k,hk,rfl,HW,HK⟩:=hrel;by_cases aX:k<nl
  .obtain⟨g,o,hp,dv,hr⟩:∃b off,pa=AI ⟨b,off,be⟩/\b<w0.heap.size/\Gw.Row w0 b off ms:=by
    rcases HR.out with h|h
    .have:=lB.out;rw[h] at this;simp at this;omega
    .exact h
   subst hp;have ie:k<ms.length:=by rw[lB.out];exact aX
   obtain⟨c0,c1,c2⟩:=hr k ie;have aO:∀o,wr.cell? ⟨g,o,be⟩=w0.cell? ⟨g,o,be⟩:=λo=>(Ct.out.trans HK.out.lv).cell (p:=⟨g,o,be⟩) (by have:=dF.out;show g<B;omega);have M9:Hid (Gw.lK (ms.getD k Gw.dm)):=mK.out _ (by rw[show ms.getD k Gw.dm=ms[k] by simp[Ir,Ic ie]];exact IK _);have qB:Hid ((ms.take (k+1)).flatMap Gw.dP=(ms.take k).flatMap Gw.dP++Gw.dP (ms.getD k Gw.dm)):=by
    show List.flatMap Gw.dP _=_;rw[IB ie,Qr];simp[Ir,Ic ie]
   have Fp:Hid ((bs++bq nl++(ms.take k).flatMap Gw.dP).length<=700000):=by
    have h1:=Gw.ej (ms.take k) (λn hn=>mK.out n (Jf hn));have h2:(ms.take k).length<=k:=JM _ _;have h3:=sQ.out;have h4:=dZ (dB (n:=nl) (by omega));show(bs++bq nl++(ms.take k).flatMap Gw.dP).length<=700000;rw[Ii,Ii];omega
   generalize ms.getD k Gw.dm=x at *;generalize(ms.take k).flatMap Gw.dP=L at *;obtain⟨W2,bO⟩:∃W2,W2=wr.alloc (By #[Y x.av,U O x.addr,U O x.version] 102):=⟨_,rfl⟩;have aL:Below wr.heap.size wr W2:=by rw[bO];exact(Ib _ _).alloc (Ie _) _
   have AA:=Is iL HK.out.size;have dO:W2.heap[wr.heap.size]?=AI (By #[Y x.av,U O x.addr,U O x.version] 102 (0,0)):=by rw[bO];exact Ij wr _
   have DA:Hid _:=HK.out.trans (Kp.cG aL AA);have HC:Hid (aK _ _ _ _):=Gw.kZ B b wb x _ W2 (HW.out.below aL) Fp.out (Is AA aL.size) (HT.out.below DA.out.lv) (DA.out.keeps Xa.out aP (by decide)) aP M9.out;generalize Gw.dP x=EX at *;obtain⟨x0,x1,x2⟩:=x;simp only at c0 c1 c2 dO bO HC;have d0:=(aO _).trans c0;have d1:=(aO _).trans c1;have d2:=(aO _).trans c2;clear aO c0 c1 c2 hr ie aL M9 Fp;have Sn:(k:Int)<(nl:Int):=by omega
   go_upto_region 4 with fail
   rw[<- bO];clear bO d0 d1 d2;have z0:=ae dO 0;have z1:=ae dO 1;have z2:=ae dO 2;clear dO;go_wp2_with fail;refine HC.out.mono ?_;rintro e w3 ⟨rfl,h3,kV⟩;have yd:Hid (dC B b (bs++bq nl++(L++EX)) w3):=(show dC _ _ _ _ by rw[<- Iq];exact h3);have wK:Hid _:=DA.out.trans kV;clear h3 kV z0 z1 z2;go_wp2_with fail;go_roundw
   case rel=>exact⟨k+1,by omega,by go_num,by rw[qB.out];exact yd,wK⟩
   case measure=>simp[intOf];omega
  .have tP:Hid (dC B b (bs++(bq nl++ms.flatMap Gw.dP)) wr):=by
    have h:=HW.out;rw[Ji (by rw[lB.out];omega),Iq] at h;exact h
   have Sn:¬ (k:Int)<(nl:Int):=by omega
   go_wp2_with fail;simp[J2,results,Tryz.results263];exact⟨tP.out,HK.out⟩
theorem Wh.ej:∀(ms:List Wh.bT),(∀m∈ms,Wh.lK m)->(ms.flatMap Wh.dP).length<=2200*ms.length
 |[],_=>by simp
 |x::r,h=>by
  have h1:=Wh.nz (h x (by simp));have h2:=Wh.ej r (λm hm=>h m (by simp[hm]));rw[I4,Ii,Iy];omega
theorem Wh.jw(B b wb:Nat)(ms:List Wh.bT)(v:Value)(bs:List Value)(w0 w:World)(h:dC B b bs w)(hv:Wh.Sl w0 v ms)(hB:B=w0.heap.size)(rS:Below B w0 w)(Mx:ms.length<=50)(hlen:bs.length+2200*ms.length<=600000)(iL:B<=w.heap.size)(hT:nN B w)(oB:w.heap[wb]?=AI (By #[If (AI ⟨b,0,be⟩)] 292 (0,0)))(aP:wb≠b)(gP:∀m∈ms,Wh.lK m) :
 aK 265 #[If (AI ⟨b,0,be⟩),v,IQ (.func 266) #[] #[If (AI ⟨wb,0,be⟩)]] w λe w'=>e=AT (Ip #[])/\dC B b (bs++(bq ms.length++ms.flatMap Wh.dP)) w'/\Kp B b w w':=by
 have eg:=enters_of Tryz.func266 (by kernel_rfl) rfl;obtain⟨pa,ca,rfl,_,cL⟩:=hv;have HR:Hid _:=cL;have Ct:Hid _:=rS;have Xa:Hid _:=oB;have mK:Hid _:=gP;have HT:Hid (nN B w):=hT;have HI:Hid (dC B b bs w):=h;have dF:Hid _:=hB;clear cL rS oB gP hT h hB;generalize tt:ms.length=nl at *;have lB:Hid _:=tt;have sQ:Hid _:=hlen;clear tt hlen;have CK:Hid (aK 260 #[If (AI ⟨b,0,be⟩),J (AI ⟨w.heap.size,0,be⟩) 1 1] (w.alloc (By #[U O (nl:Int)] 3)) λe w'=>e=AT (Ip #[])/\dC B b (bs++bq nl) w'/\Kp B b w w'):=by
  refine(iR B b [(nl:Int)] bs w HI.out (by have:=sQ.out;simp only[Iy,IX];omega) iL HT.out (λn hn=>by simp at hn;rw[hn];exact dB (by omega))).mono ?_;rintro e w' ⟨rfl,h1,h2⟩;exact⟨rfl,by simpa using h1,h2⟩
 go_enter Tryz.func265,Tryz.ntmps265;go_wp2_with fail;refine CK.out.mono ?_;rintro e w1 ⟨rfl,h1,kt⟩;have pD:Hid (dC _ _ _ _):=h1;have nS:Hid _:=kt;clear h1 kt CK;go_wp2_with fail;go_loopw [15] (λi w'=>∃k:Nat,k<=nl/\i=U O k/\Hid (dC B b (bs++bq nl++(ms.take k).flatMap Wh.dP) w')/\Hid (Kp B b w w')) (λi _=>nl-(intOf i).toNat)
 case atStart=>exact⟨0,IF _,rfl,by simpa using pD,nS⟩
 case round=>
  obtain⟨k,hk,rfl,HW,HK⟩:=hrel;by_cases aX:k<nl
  .obtain⟨g,o,hp,dv,hr⟩:∃b off,pa=AI ⟨b,off,be⟩/\b<w0.heap.size/\Wh.Row w0 b off ms:=by
    rcases HR.out with h|h
    .have:=lB.out;rw[h] at this;simp at this;omega
    .exact h
   subst hp;have ie:k<ms.length:=by rw[lB.out];exact aX
   obtain⟨c0,c1,c2,c3,c4,c5⟩:=hr k ie;have aO:∀o,wr.cell? ⟨g,o,be⟩=w0.cell? ⟨g,o,be⟩:=λo=>(Ct.out.trans HK.out.lv).cell (p:=⟨g,o,be⟩) (by have:=dF.out;show g<B;omega);have M9:Hid (Wh.lK (ms.getD k Wh.dm)):=mK.out _ (by rw[show ms.getD k Wh.dm=ms[k] by simp[Ir,Ic ie]];exact IK _);have qB:Hid ((ms.take (k+1)).flatMap Wh.dP=(ms.take k).flatMap Wh.dP++Wh.dP (ms.getD k Wh.dm)):=by
    show List.flatMap Wh.dP _=_;rw[IB ie,Qr];simp[Ir,Ic ie]
   have Fp:Hid ((bs++bq nl++(ms.take k).flatMap Wh.dP).length<=700000):=by
    have h1:=Wh.ej (ms.take k) (λn hn=>mK.out n (Jf hn));have h2:(ms.take k).length<=k:=JM _ _;have h3:=sQ.out;have h4:=dZ (dB (n:=nl) (by omega));show(bs++bq nl++(ms.take k).flatMap Wh.dP).length<=700000;rw[Ii,Ii];omega
   generalize ms.getD k Wh.dm=x at *;generalize(ms.take k).flatMap Wh.dP=L at *;obtain⟨W2,bO⟩:∃W2,W2=wr.alloc (By #[Y x.node,U O x.x,U O x.y,U O x.z,U O x.h,U O x.s] 116):=⟨_,rfl⟩;have aL:Below wr.heap.size wr W2:=by rw[bO];exact(Ib _ _).alloc (Ie _) _
   have AA:=Is iL HK.out.size;have dO:W2.heap[wr.heap.size]?=AI (By #[Y x.node,U O x.x,U O x.y,U O x.z,U O x.h,U O x.s] 116 (0,0)):=by rw[bO];exact Ij wr _
   have DA:Hid _:=HK.out.trans (Kp.cG aL AA);have HC:Hid (aK _ _ _ _):=Wh.kZ B b wb x _ W2 (HW.out.below aL) Fp.out (Is AA aL.size) (HT.out.below DA.out.lv) (DA.out.keeps Xa.out aP (by decide)) aP M9.out;generalize Wh.dP x=EX at *;obtain⟨x0,x1,x2,x3,x4,x5⟩:=x;simp only at c0 c1 c2 c3 c4 c5 dO bO HC;have d0:=(aO _).trans c0;have d1:=(aO _).trans c1;have d2:=(aO _).trans c2;have d3:=(aO _).trans c3;have d4:=(aO _).trans c4;have d5:=(aO _).trans c5;clear aO c0 c1 c2 c3 c4 c5 hr ie aL M9 Fp;have Sn:(k:Int)<(nl:Int):=by omega
   go_upto_region 4 with fail
   rw[<- bO];clear bO d0 d1 d2 d3 d4 d5;have z0:=ae dO 0;have z1:=ae dO 1;have z2:=ae dO 2;have z3:=ae dO 3;have z4:=ae dO 4;have z5:=ae dO 5;clear dO;go_wp2_with fail;refine HC.out.mono ?_;rintro e w3 ⟨rfl,h3,kV⟩;have yd:Hid (dC B b (bs++bq nl++(L++EX)) w3):=(show dC _ _ _ _ by rw[<- Iq];exact h3);have wK:Hid _:=DA.out.trans kV;clear h3 kV z0 z1 z2 z3 z4 z5;go_wp2_with fail;go_roundw
   case rel=>exact⟨k+1,by omega,by go_num,by rw[qB.out];exact yd,wK⟩
   case measure=>simp[intOf];omega
  .have tP:Hid (dC B b (bs++(bq nl++ms.flatMap Wh.dP)) wr):=by
    have h:=HW.out;rw[Ji (by rw[lB.out];omega),Iq] at h;exact h
   have Sn:¬ (k:Int)<(nl:Int):=by omega
   go_wp2_with fail;simp[J2,results,Tryz.results265];exact⟨tP.out,HK.out⟩
def gL(n:Int):List UInt8:=QG n++[59]
def nT(s:ByteArray):List UInt8:=gL s.size++s.data.toList
def zx(y:Bool):List UInt8:=gL (if y=true then 1 else 0)
theorem oC(a b:List UInt8):Jv (a++b)=Jv a++Jv b:=by simp[Jv]
theorem ui(n:Int):bq n=Jv (gL n):=by
 unfold bq gL nM;rw[oC,Lib.strCells_toArray];rfl
theorem rT(s:ByteArray):bj s=Jv (nT s):=by
 unfold bj nT;rw[oC,ui];rfl
theorem zy(y:Bool):fA y=Jv (zx y):=ui _
theorem o8{α:Type}(f:α->List Value)(g:α->List UInt8)(h:∀x,f x=Jv (g x)):∀l:List α,l.flatMap f=Jv (l.flatMap g)
 |[]=>rfl
 |x::r=>by rw[I4,I4,oC,h,o8 f g h r]
theorem uj(l:List Int):l.flatMap bq=Jv (l.flatMap gL):=o8 bq gL ui l
def iI(m:Mem):List UInt8:=nT m.name++[m.state,m.aI,m.addr].flatMap gL++zx m.server
theorem qJ(m:Mem):dP m=Jv (iI m):=by
 unfold dP iI;simp only[oC,rT,zy,uj]
def Sv.iI(m:Sv.aV):List UInt8:=nT m.node++nT m.bf++nT m.name++nT m.tag++[m.addr,m.port].flatMap gL++zx m.af++[m.version].flatMap gL++zx m.gone
theorem Sv.qJ(m:Sv.aV):Sv.dP m=Jv (Sv.iI m):=by
 unfold Sv.dP Sv.iI;simp only[oC,rT,zy,uj]
def Gw.iI(m:Gw.bN):List UInt8:=nT m.av++[m.addr,m.version].flatMap gL
theorem Gw.qJ(m:Gw.bN):Gw.dP m=Jv (Gw.iI m):=by
 unfold Gw.dP Gw.iI;simp only[oC,rT,uj]
def Wh.iI(m:Wh.bT):List UInt8:=nT m.node++[m.x,m.y,m.z,m.h,m.s].flatMap gL
theorem Wh.qJ(m:Wh.bT):Wh.dP m=Jv (Wh.iI m):=by
 unfold Wh.dP Wh.iI;simp only[oC,rT,uj]
def Pk.L(p:Pk):List Value:=bj p.du++fA p.whole++(bq p.ms.length++p.ms.flatMap dP)++(bq p.sv.length++p.sv.flatMap Sv.dP)++(bq p.gw.length++p.gw.flatMap Gw.dP)++(bq p.wh.length++p.wh.flatMap Wh.dP)
def Pk.B(p:Pk):List UInt8:=nT p.du++zx p.whole++(gL p.ms.length++p.ms.flatMap iI)++(gL p.sv.length++p.sv.flatMap Sv.iI)++(gL p.gw.length++p.gw.flatMap Gw.iI)++(gL p.wh.length++p.wh.flatMap Wh.iI)
theorem Pk.aca(p:Pk):p.L=Jv p.B:=by
 unfold Pk.L Pk.B;simp only[oC,rT,zy,ui,o8 dP iI qJ,o8 Sv.dP Sv.iI Sv.qJ,o8 Gw.dP Gw.iI Gw.qJ,o8 Wh.dP Wh.iI Wh.qJ]
structure Pk.Wok(p:Pk):Prop where
 du:p.du.size<=1000
 ms:p.ms.length<=20/\∀m∈p.ms,lK m
 sv:p.sv.length<=40/\∀m∈p.sv,Sv.lK m
 gw:p.gw.length<=6/\∀m∈p.gw,Gw.lK m
 wh:p.wh.length<=20/\∀m∈p.wh,Wh.lK m
theorem Bv(B b:Nat)(p:Pk)(zm zs zg zw:Value)(w0 w:World)(h:dC B b [] w)(hx:lz w0 p zm zs zg zw)(hB:B=w0.heap.size)(rS:Below B w0 w)(iL:B<=w.heap.size)(hT:nN B w)(gP:p.Wok) :
 Calls AS 223 #[If (AI ⟨b,0,be⟩),.agg #[Y p.du,Ia p.whole,zm,zs,zg,zw]] w λe w'=>e=AT (Ip #[])/\dC B b p.L w'/\Kp B b w w':=by
 have Vl:Hid (p.L=bj p.du++fA p.whole++(bq p.ms.length++p.ms.flatMap dP)++(bq p.sv.length++p.sv.flatMap Sv.dP)++(bq p.gw.length++p.gw.flatMap Gw.dP)++(bq p.wh.length++p.wh.flatMap Wh.dP)):=rfl;have LJ:Hid (lz w0 p zm zs zg zw):=hx;have mK:Hid p.Wok:=gP;obtain⟨du,whole,ms,sv,gw,wh⟩:=p;obtain⟨⟨pm,cm,rfl,_,_⟩,⟨ps,cs,rfl,_,_⟩,⟨pg,cg,rfl,_,_⟩,⟨ph,ch,rfl,_,_⟩,_,_⟩:=hx;simp only at Vl LJ ⊢;generalize Pk.L ⟨du,whole,ms,sv,gw,wh⟩=PL at *;have lH:=h.lt;obtain⟨W0,bP⟩:∃W0,W0=(w.alloc (By #[If (AI ⟨b,0,be⟩)] 292)).alloc (By #[Y du,Ia whole,J pm ms.length cm,J ps sv.length cs,J pg gw.length cg,J ph wh.length ch] 61):=⟨_,rfl⟩;have bK:Below w.heap.size w W0:=by rw[bP];exact((Ib _ _).alloc (Ie _) _).alloc (by simp) _
 have vp:Hid (dC B b [] W0):=h.below bK;have uh:Hid (Kp B b w W0):=Kp.cG bK iL;have df:Hid (W0.heap[w.heap.size]?=AI (By #[If (AI ⟨b,0,be⟩)] 292 (0,0))):=by rw[bP,Below.heap_alloc _ _ _ (by simp)];exact Ij w _
 have yf:W0.heap[w.heap.size+1]?=AI (By #[Y du,Ia whole,J pm ms.length cm,J ps sv.length cs,J pg gw.length cg,J ph wh.length ch] 61 (0,0)):=by
  have h:=Ij (w.alloc (By #[If (AI ⟨b,0,be⟩)] 292)) (By #[Y du,Ia whole,J pm ms.length cm,J ps sv.length cs,J pg gw.length cg,J ph wh.length ch] 61);rw[bP];simpa using h
 have Fq:Hid _:=yf;have Fs:Hid (([]:List Value).length<=0):=Ie _;have HT:Hid (nN B w):=hT;have Ct:Hid (Below B w0 w):=rS;clear h bK hT rS gP yf;have HFZ:=mK.out.du;simp only at HFZ;have HCM:Hid (∀W bs,Kp B b w W->dC B b bs W->bs.length+66000<=600000->W.heap[w.heap.size]?=AI (By #[If (AI ⟨b,0,be⟩)] 292 (0,0))->Calls AS 258 #[If (AI ⟨b,0,be⟩),J pm ms.length cm,IQ (.func 259) #[] #[If (AI ⟨w.heap.size,0,be⟩)]] W λe w'=>e=AT (Ip #[])/\dC B b (bs++(bq ms.length++ms.flatMap dP)) w'/\Kp B b W w'):=λW bs hK hW hl oB=>
  jw B b w.heap.size ms _ bs w0 W hW LJ.out.ms hB (Ct.out.trans hK.lv) (by have:=mK.out.ms.1;simp only at this;omega) (by have:=mK.out.ms.1;simp only at this;omega) (Is iL hK.size) (HT.out.below hK.lv) oB (by omega) mK.out.ms.2
 have ahK:Hid ((bq ms.length++ms.flatMap dP).length<=21+3300*20):=by
  have g1:=ej ms mK.out.ms.2;have g2:=dZ (dB (n:=ms.length) (by have:=mK.out.ms.1;simp only at this;omega));have g3:=mK.out.ms.1;simp only at g3;show(bq ms.length++ms.flatMap dP).length<=21+3300*20;rw[Ii];have g4:3300*ms.length<=3300*20:=Ue _ g3;omega
 generalize(bq ms.length++ms.flatMap dP)=EM at *;have HCS:Hid (∀W bs,Kp B b w W->dC B b bs W->bs.length+352000<=600000->W.heap[w.heap.size]?=AI (By #[If (AI ⟨b,0,be⟩)] 292 (0,0))->Calls AS 261 #[If (AI ⟨b,0,be⟩),J ps sv.length cs,IQ (.func 262) #[] #[If (AI ⟨w.heap.size,0,be⟩)]] W λe w'=>e=AT (Ip #[])/\dC B b (bs++(bq sv.length++sv.flatMap Sv.dP)) w'/\Kp B b W w'):=λW bs hK hW hl oB=>
  Sv.jw B b w.heap.size sv _ bs w0 W hW LJ.out.sv hB (Ct.out.trans hK.lv) (by have:=mK.out.sv.1;simp only at this;omega) (by have:=mK.out.sv.1;simp only at this;omega) (Is iL hK.size) (HT.out.below hK.lv) oB (by omega) mK.out.sv.2
 have ahL:Hid ((bq sv.length++sv.flatMap Sv.dP).length<=21+8800*40):=by
  have g1:=Sv.ej sv mK.out.sv.2;have g2:=dZ (dB (n:=sv.length) (by have:=mK.out.sv.1;simp only at this;omega));have g3:=mK.out.sv.1;simp only at g3;show(bq sv.length++sv.flatMap Sv.dP).length<=21+8800*40;rw[Ii];have g4:8800*sv.length<=8800*40:=Ue _ g3;omega
 generalize(bq sv.length++sv.flatMap Sv.dP)=ES at *;have HCG:Hid (∀W bs,Kp B b w W->dC B b bs W->bs.length+13200<=600000->W.heap[w.heap.size]?=AI (By #[If (AI ⟨b,0,be⟩)] 292 (0,0))->Calls AS 263 #[If (AI ⟨b,0,be⟩),J pg gw.length cg,IQ (.func 264) #[] #[If (AI ⟨w.heap.size,0,be⟩)]] W λe w'=>e=AT (Ip #[])/\dC B b (bs++(bq gw.length++gw.flatMap Gw.dP)) w'/\Kp B b W w'):=λW bs hK hW hl oB=>
  Gw.jw B b w.heap.size gw _ bs w0 W hW LJ.out.gw hB (Ct.out.trans hK.lv) (by have:=mK.out.gw.1;simp only at this;omega) (by have:=mK.out.gw.1;simp only at this;omega) (Is iL hK.size) (HT.out.below hK.lv) oB (by omega) mK.out.gw.2
 have ahM:Hid ((bq gw.length++gw.flatMap Gw.dP).length<=21+2200*6):=by
  have g1:=Gw.ej gw mK.out.gw.2;have g2:=dZ (dB (n:=gw.length) (by have:=mK.out.gw.1;simp only at this;omega));have g3:=mK.out.gw.1;simp only at g3;show(bq gw.length++gw.flatMap Gw.dP).length<=21+2200*6;rw[Ii];have g4:2200*gw.length<=2200*6:=Ue _ g3;omega
 generalize(bq gw.length++gw.flatMap Gw.dP)=EG at *;have HCW:Hid (∀W bs,Kp B b w W->dC B b bs W->bs.length+44000<=600000->W.heap[w.heap.size]?=AI (By #[If (AI ⟨b,0,be⟩)] 292 (0,0))->Calls AS 265 #[If (AI ⟨b,0,be⟩),J ph wh.length ch,IQ (.func 266) #[] #[If (AI ⟨w.heap.size,0,be⟩)]] W λe w'=>e=AT (Ip #[])/\dC B b (bs++(bq wh.length++wh.flatMap Wh.dP)) w'/\Kp B b W w'):=λW bs hK hW hl oB=>
  Wh.jw B b w.heap.size wh _ bs w0 W hW LJ.out.wh hB (Ct.out.trans hK.lv) (by have:=mK.out.wh.1;simp only at this;omega) (by have:=mK.out.wh.1;simp only at this;omega) (Is iL hK.size) (HT.out.below hK.lv) oB (by omega) mK.out.wh.2
 have ahN:Hid ((bq wh.length++wh.flatMap Wh.dP).length<=21+2200*20):=by
  have g1:=Wh.ej wh mK.out.wh.2;have g2:=dZ (dB (n:=wh.length) (by have:=mK.out.wh.1;simp only at this;omega));have g3:=mK.out.wh.1;simp only at g3;show(bq wh.length++wh.flatMap Wh.dP).length<=21+2200*20;rw[Ii];have g4:2200*wh.length<=2200*20:=Ue _ g3;omega
 generalize(bq wh.length++wh.flatMap Wh.dP)=EW at *;clear mK LJ Ct;generalize ms.length=nm at *;generalize sv.length=ns at *;generalize gw.length=ng at *;generalize wh.length=nh at *;go_enter Tryz.func223,Tryz.ntmps223;go_upto_region 1 with fail
 rw[<- bP];clear bP;have y0:W0.cell? ⟨w.heap.size,0,be⟩=AI (If (AI ⟨b,0,be⟩)):=ae df.out 0;have z0:W0.cell? ⟨w.heap.size+1,0,be⟩=AI (Y du):=ae Fq.out 0;go_wp2_with fail;refine(iz B b du ([]) W0 vp.out (by have:=Fs.out;omega) (Is iL uh.out.size) (HT.out.below uh.out.lv)).mono ?_;rintro e W1 ⟨rfl,hw,hk⟩;have pD:Hid (dC B b ([]++bj du) W1):=hw;have nS:Hid (Kp B b w W1):=uh.out.trans hk;have lx:Hid (W1.heap[w.heap.size+1]?=AI (By #[Y du,Ia whole,J pm nm cm,J ps ns cs,J pg ng cg,J ph nh ch] 61 (0,0))):=hk.keeps Fq.out (by omega) (by decide);have aZ:Hid (W1.heap[w.heap.size]?=AI (By #[If (AI ⟨b,0,be⟩)] 292 (0,0))):=hk.keeps df.out (by omega) (by decide);have ye:Hid (([]++bj du).length<=1100):=by
  have g1:=Fs.out;have g2:=eb HFZ;show Jz ([]++bj du)<=_;rw[Ii];omega
 clear hw hk y0 z0;have y0:W1.cell? ⟨w.heap.size,0,be⟩=AI (If (AI ⟨b,0,be⟩)):=ae aZ.out 0;have z0:=ae lx.out 1;go_wp2_with fail;refine(o7 B b whole ([]++bj du) W1 pD.out (by have:=ye.out;omega) (Is iL nS.out.size) (HT.out.below nS.out.lv)).mono ?_;rintro e W2 ⟨rfl,hw,hk⟩;have Ho:Hid (dC _ _ _ _):=hw;have rm:Hid _:=nS.out.trans hk;have Dx:Hid _:=hk.keeps lx.out (by omega) (by decide);have bA:Hid _:=hk.keeps aZ.out (by omega) (by decide);have xh:Hid (([]++bj du++fA whole).length<=2200):=by
  have g1:=ye.out;have g2:=jN whole;show Jz ([]++bj du++fA whole)<=_;rw[Ii];omega
 clear hw hk y0 z0;have y0:=ae bA.out 0;have z0:=ae Dx.out 2;go_wp2_with fail;refine(HCM.out W2 ([]++bj du++fA whole) rm.out Ho.out (by have:=xh.out;omega) bA.out).mono ?_;rintro e W3 ⟨rfl,hw,hk⟩;have yd:Hid (dC _ _ _ _):=hw;have wK:Hid _:=rm.out.trans hk;have HX3:Hid _:=hk.keeps Dx.out (by omega) (by decide);have cF:Hid _:=hk.keeps bA.out (by omega) (by decide);have HL3:Hid (([]++bj du++fA whole++EM).length<=68221):=by
  have g1:=xh.out;have g2:=ahK.out;show Jz ([]++bj du++fA whole++EM)<=_;rw[Ii];omega
 clear hw hk y0 z0;have y0:=ae cF.out 0;have z0:=ae HX3.out 3;go_wp2_with fail;refine(HCS.out W3 ([]++bj du++fA whole++EM) wK.out yd.out (by have:=HL3.out;omega) cF.out).mono ?_;rintro e W4 ⟨rfl,hw,hk⟩;have HW4:Hid (dC _ _ _ _):=hw;have GW:Hid _:=wK.out.trans hk;have HX4:Hid _:=hk.keeps HX3.out (by omega) (by decide);have gC:Hid _:=hk.keeps cF.out (by omega) (by decide);have WY:Hid (([]++bj du++fA whole++EM++ES).length<=420242):=by
  have g1:=HL3.out;have g2:=ahL.out;show Jz ([]++bj du++fA whole++EM++ES)<=_;rw[Ii];omega
 clear hw hk y0 z0;have y0:=ae gC.out 0;have z0:=ae HX4.out 4;go_wp2_with fail;refine(HCG.out W4 ([]++bj du++fA whole++EM++ES) GW.out HW4.out (by have:=WY.out;omega) gC.out).mono ?_;rintro e W5 ⟨rfl,hw,hk⟩;have Vg:Hid (dC _ _ _ _):=hw;have Dh:Hid _:=GW.out.trans hk;have HX5:Hid _:=hk.keeps HX4.out (by omega) (by decide);have jd:Hid _:=hk.keeps gC.out (by omega) (by decide);have HL5:Hid (([]++bj du++fA whole++EM++ES++EG).length<=433463):=by
  have g1:=WY.out;have g2:=ahM.out;show Jz ([]++bj du++fA whole++EM++ES++EG)<=_;rw[Ii];omega
 clear hw hk y0 z0;have y0:=ae jd.out 0;have z0:=ae HX5.out 5;go_wp2_with fail;refine(HCW.out W5 ([]++bj du++fA whole++EM++ES++EG) Dh.out Vg.out (by have:=HL5.out;omega) jd.out).mono ?_;rintro e W6 ⟨rfl,hw,hk⟩;have HW6:Hid (dC _ _ _ _):=hw;have HK6:Hid _:=Dh.out.trans hk;have HX6:Hid _:=hk.keeps HX5.out (by omega) (by decide);have tL:Hid _:=hk.keeps jd.out (by omega) (by decide);have HL6:Hid (([]++bj du++fA whole++EM++ES++EG++EW).length<=477484):=by
  have g1:=HL5.out;have g2:=ahN.out;show Jz ([]++bj du++fA whole++EM++ES++EG++EW)<=_;rw[Ii];omega
 clear hw hk y0 z0;have tP:Hid (dC B b PL W6):=by
  have h:=HW6.out;rw[Vl.out];simp only[Iq,List.nil_append] at h ⊢;exact h
 go_wp2_with fail;simp[J2,results,Tryz.results223];exact⟨tP.out,HK6.out⟩
def gG(l:List UInt8):ByteArray:=⟨l.toArray⟩
theorem kD(l:List UInt8):(gG l).size=l.length:=by simp[gG,ByteArray.size]
end Go.Proofs.YtbfghimjdlpicaaGreatDoor
namespace Go.Proofs
open Go.Shelf
def Tryz.zz:Go.Shelf.Ren:=⟨fun|172=>254|244=>278|245=>279|247=>289|279=>290|280=>291|281=>292|282=>293|287=>301|316=>276|171=>255|205=>302|321=>310|322=>311|243=>280|246=>294|283=>303|284=>304|285=>305|286=>306|129=>166|317=>312|318=>313|319=>314|320=>315|337=>316|338=>317|n=>n,fun|9=>9|3=>3|75=>288|76=>289|4=>4|5=>5|167=>317|37=>258|0=>0|85=>318|2=>2|168=>320|53=>202|175=>326|46=>161|210=>329|127=>304|145=>342|143=>340|21=>21|171=>331|173=>333|212=>344|51=>200|20=>20|213=>345|232=>346|233=>347|80=>243|n=>n,fun|15=>1|16=>2|17=>3|18=>4|19=>5|n=>n⟩
theorem Tryz.Na:Go.Proofs.LaysC.n172 AS Tryz.zz:={
 mixed:=by kernel_rfl
 f129:=Tryz.func166.trans (congrArg AI (by kernel_rfl))
 f171:=Tryz.func255.trans (congrArg AI (by kernel_rfl))
 f172:=Tryz.func254.trans (congrArg AI (by kernel_rfl))
 f205:=Tryz.func302.trans (congrArg AI (by kernel_rfl))
 f243:=Tryz.func280.trans (congrArg AI (by kernel_rfl))
 f244:=Tryz.func278.trans (congrArg AI (by kernel_rfl))
 f245:=Tryz.func279.trans (congrArg AI (by kernel_rfl))
 f246:=Tryz.func294.trans (congrArg AI (by kernel_rfl))
 f247:=Tryz.func289.trans (congrArg AI (by kernel_rfl))
 f279:=Tryz.func290.trans (congrArg AI (by kernel_rfl))
 f280:=Tryz.func291.trans (congrArg AI (by kernel_rfl))
 f281:=Tryz.func292.trans (congrArg AI (by kernel_rfl))
 f282:=Tryz.func293.trans (congrArg AI (by kernel_rfl))
 f283:=Tryz.func303.trans (congrArg AI (by kernel_rfl))
 f284:=Tryz.func304.trans (congrArg AI (by kernel_rfl))
 f285:=Tryz.func305.trans (congrArg AI (by kernel_rfl))
 f286:=Tryz.func306.trans (congrArg AI (by kernel_rfl))
 f287:=Tryz.func301.trans (congrArg AI (by kernel_rfl))
 f316:=Tryz.func276.trans (congrArg AI (by kernel_rfl))
 f317:=Tryz.func312.trans (congrArg AI (by kernel_rfl))
 f318:=Tryz.func313.trans (congrArg AI (by kernel_rfl))
 f319:=Tryz.func314.trans (congrArg AI (by kernel_rfl))
 f320:=Tryz.func315.trans (congrArg AI (by kernel_rfl))
 f321:=Tryz.func310.trans (congrArg AI (by kernel_rfl))
 f322:=Tryz.func311.trans (congrArg AI (by kernel_rfl))
 f337:=Tryz.func316.trans (congrArg AI (by kernel_rfl))
 f338:=Tryz.func317.trans (congrArg AI (by kernel_rfl))
 t0:=Tryz.underlying0
 a0:=Tryz.isAgg0
 z0:=Tryz.sizeOf0
 v0:=Tryz.zeroValue0
 t2:=Tryz.underlying2
 a2:=Tryz.isAgg2
 z2:=Tryz.sizeOf2
 v2:=Tryz.zeroValue2
 t3:=Tryz.underlying3
 a3:=Tryz.isAgg3
 z3:=Tryz.sizeOf3
 v3:=Tryz.zeroValue3
 t4:=Tryz.underlying4
 a4:=Tryz.isAgg4
 z4:=Tryz.sizeOf4
 v4:=Tryz.zeroValue4
 t5:=Tryz.underlying5
 a5:=Tryz.isAgg5
 z5:=Tryz.sizeOf5
 v5:=Tryz.zeroValue5
 t9:=Tryz.underlying9
 a9:=Tryz.isAgg9
 z9:=Tryz.sizeOf9
 v9:=Tryz.zeroValue9
 t20:=Tryz.underlying20
 a20:=Tryz.isAgg20
 z20:=Tryz.sizeOf20
 v20:=Tryz.zeroValue20
 t21:=Tryz.underlying21
 a21:=Tryz.isAgg21
 z21:=Tryz.sizeOf21
 v21:=Tryz.zeroValue21
 t37:=Tryz.underlying258
 a37:=Tryz.isAgg258
 z37:=Tryz.sizeOf258
 v37:=Tryz.zeroValue258
 t46:=Tryz.underlying161
 a46:=Tryz.isAgg161
 z46:=Tryz.sizeOf161
 v46:=Tryz.zeroValue161
 t51:=Tryz.underlying200
 a51:=Tryz.isAgg200
 z51:=Tryz.sizeOf200
 v51:=Tryz.zeroValue200
 t53:=Tryz.underlying202
 a53:=Tryz.isAgg202
 z53:=Tryz.sizeOf202
 v53:=Tryz.zeroValue202
 t75:=Tryz.underlying288
 a75:=Tryz.isAgg288
 z75:=Tryz.sizeOf288
 v75:=Tryz.zeroValue288
 t76:=Tryz.underlying289
 a76:=Tryz.isAgg289
 z76:=Tryz.sizeOf289
 v76:=Tryz.zeroValue289
 t85:=Tryz.underlying318
 a85:=Tryz.isAgg318
 z85:=Tryz.sizeOf318
 v85:=Tryz.zeroValue318
 t127:=Tryz.underlying304
 a127:=Tryz.isAgg304
 z127:=Tryz.sizeOf304
 v127:=Tryz.zeroValue304
 t143:=Tryz.underlying340
 a143:=Tryz.isAgg340
 z143:=Tryz.sizeOf340
 v143:=Tryz.zeroValue340
 t145:=Tryz.underlying342
 a145:=Tryz.isAgg342
 z145:=Tryz.sizeOf342
 v145:=Tryz.zeroValue342
 t167:=Tryz.underlying317
 a167:=Tryz.isAgg317
 z167:=Tryz.sizeOf317
 v167:=Tryz.zeroValue317
 t168:=Tryz.underlying320
 a168:=Tryz.isAgg320
 z168:=Tryz.sizeOf320
 v168:=Tryz.zeroValue320
 t171:=Tryz.underlying331
 a171:=Tryz.isAgg331
 z171:=Tryz.sizeOf331
 v171:=Tryz.zeroValue331
 t173:=Tryz.underlying333
 a173:=Tryz.isAgg333
 z173:=Tryz.sizeOf333
 v173:=Tryz.zeroValue333
 t175:=Tryz.underlying326
 a175:=Tryz.isAgg326
 z175:=Tryz.sizeOf326
 v175:=Tryz.zeroValue326
 t210:=Tryz.underlying329
 a210:=Tryz.isAgg329
 z210:=Tryz.sizeOf329
 v210:=Tryz.zeroValue329
 t212:=Tryz.underlying344
 a212:=Tryz.isAgg344
 z212:=Tryz.sizeOf344
 v212:=Tryz.zeroValue344
 t213:=Tryz.underlying345
 a213:=Tryz.isAgg345
 z213:=Tryz.sizeOf345
 t232:=Tryz.underlying346
 a232:=Tryz.isAgg346
 z232:=Tryz.sizeOf346
 v232:=Tryz.zeroValue346
 t233:=Tryz.underlying347
 a233:=Tryz.isAgg347
 z233:=Tryz.sizeOf347
 v233:=Tryz.zeroValue347
 g15:=by kernel_rfl
 g16:=by kernel_rfl
 g17:=by kernel_rfl
 g18:=by kernel_rfl
 g19:=by kernel_rfl
 t80:=Tryz.underlying243
 a80:=Tryz.isAgg243
 z80:=Tryz.sizeOf243
 v80:=Tryz.zeroValue243
 i0:=by kernel_rfl
 i2:=by kernel_rfl
 i3:=by kernel_rfl
 i4:=by kernel_rfl
 i5:=by kernel_rfl
 i9:=by kernel_rfl
 i20:=by kernel_rfl
 i21:=by kernel_rfl
 i37:=by kernel_rfl
 i46:=by kernel_rfl
 i51:=by kernel_rfl
 i53:=by kernel_rfl
 i75:=by kernel_rfl
 i76:=by kernel_rfl
 i80:=by kernel_rfl
 i85:=by kernel_rfl
 i127:=by kernel_rfl
 i143:=by kernel_rfl
 i145:=by kernel_rfl
 i167:=by kernel_rfl
 i168:=by kernel_rfl
 i171:=by kernel_rfl
 i173:=by kernel_rfl
 i175:=by kernel_rfl
 i210:=by kernel_rfl
 i212:=by kernel_rfl
 i232:=by kernel_rfl
 i233:=by kernel_rfl
 m15:=by kernel_rfl
 m16:=by kernel_rfl
 m17:=by kernel_rfl
 m18:=by kernel_rfl
 m19:=by kernel_rfl
 c0:=by kernel_rfl
 c2:=by kernel_rfl
 c3:=by kernel_rfl
 c4:=by kernel_rfl
 c5:=by kernel_rfl
 c9:=by kernel_rfl
 c20:=by kernel_rfl
 c21:=by kernel_rfl
 c37:=by kernel_rfl
 c46:=by kernel_rfl
 c51:=by kernel_rfl
 c53:=by kernel_rfl
 c75:=by kernel_rfl
 c76:=by kernel_rfl
 c80:=by kernel_rfl
 c85:=by kernel_rfl
 c127:=by kernel_rfl
 c143:=by kernel_rfl
 c145:=by kernel_rfl
 c167:=by kernel_rfl
 c168:=by kernel_rfl
 c171:=by kernel_rfl
 c173:=by kernel_rfl
 c175:=by kernel_rfl
 c210:=by kernel_rfl
 c212:=by kernel_rfl
 c213:=by kernel_rfl
 c232:=by kernel_rfl
 c233:=by kernel_rfl }
open Go.RowKit in
theorem Tryz.strconv_Atoi_ok(s:ByteArray)(ahO:s.size<=9223372036854775806)(v:Int)(h:Lib.atoiAll s.data.toList=.ok v)(w:World) :
 Calls AS 254 #[Y s] w λe w'=>e=AT (Ip #[U O v,.nilIface])/\(w'=w\/∃t,w'=Lib.bytesWorld w 5 t):=Any.strconv_Atoi_ok Tryz.Na s ahO v h w
end Go.Proofs
namespace Go.Proofs.YtbfghimjdlpicaaGreatDoor
open Go.RowKit
theorem Ft(c:UInt8):∀{l:List UInt8} {i:Nat},Jm l c=(i:Int)->i<l.length
 |[],i,h=>by unfold Jm at h;omega
 |x::r,i,h=>by
  unfold Jm at h;split at h
  .simp;omega
  .split at h
   .omega
   .rename_i h2
    have hg:=Lib.indexByte_ge r c
    obtain⟨j,rfl⟩:∃j,i=j+1:=⟨i-1,by have:Jm r c ≠ -1:=by simpa using h2
                                    omega⟩
    have:=Ft c (l:=r) (i:=j) (by omega);simp;omega
theorem mu(l:List UInt8):(gG l).data.toList=l:=by simp[gG]
theorem Fu(s:ByteArray):gG s.data.toList=s:=rfl
theorem Fv(l:List UInt8)(i:Nat):(gG l).extract 0 i=gG (l.take i):=by
 rw[<- Fu ((gG l).extract 0 i),Lib.extract_from_zero,mu]
theorem yh(l:List UInt8)(i:Nat):(gG l).extract i (gG l).size=gG (l.drop i):=by
 rw[<- Fu ((gG l).extract i (gG l).size),Lib.extract_to_end,mu]
theorem below_drewN{B:Nat}{w w1:World}(h:Below B w w1)(m:Nat):Below B w (w1.drewN m):=⟨h.os,h.tape,h.output,h.size,h.block⟩
theorem DB(s:ByteArray)(i:Nat)(w:World)(h:Jm s.data.toList 59=(i:Int))(hs:s.size<=140737488355328) :
 aK 277 #[Y s,Y ⟨#[59]⟩] w λe w'=>e=AT (Ip #[Y (s.extract 0 i),Y (s.extract (i+1) s.size),Ia true])/\∃n,w'=w.drewN n:=by
 have hi:i<s.size:=by have:=Ft 59 h;simpa using this
 have h0:((i:Int)).toNat=i:=by omega
 have h1:IntKind.i64.wrap ((i:Int)+1)=((i+1:Nat):Int):=by rw[IntKind.wrap_i64];omega
 have h2:(((i+1:Nat):Int)).toNat=i+1:=by omega
 have h3:((s.size:Int)).toNat=s.size:=by omega
 go_enter Tryz.func277,Tryz.ntmps277;go_wp2_with (go_at_call 288;refine(Tryz.stringslite_Index_one s 59 _).mono ?_;rintro e w' ⟨rfl,rfl⟩;rw[h]);go_quiet (fail)
 go_wp2_with fail;go_ret3
 exact⟨rfl,⟨_,rfl⟩⟩
theorem Hp(l:List UInt8)(i:Nat)(w:World)(h:Jm l 59=(i:Int))(hs:l.length<=140737488355328) :
 ly 253 #[Y (gG l),Y ⟨#[59]⟩] w (Ip #[Y (gG (l.take i)),Y (gG (l.drop (i+1))),Ia true]):=by
 have h':Jm (gG l).data.toList 59=i:=by rw[mu];exact h
 have hs':(gG l).size<=140737488355328:=by rw[kD];exact hs
 rw[<- Fv,<- yh];generalize gG l=s at *;go_enter Tryz.func253,Tryz.ntmps253;go_wp2_with (go_at_call 277;refine(DB s i _ h' hs').mono ?_;rintro e w' ⟨rfl,n,rfl⟩);go_ret3
 exact⟨rfl,below_drewN (Ib _ _) _⟩
def Er(w:World):Prop:=∃a b p q,w.cell? ⟨1,0,be⟩=AI (.iface a p)/\w.cell? ⟨2,0,be⟩=AI (.iface b q)
theorem Er.below{B:Nat}{w w':World}(h:Er w)(hb:Below B w w')(h1:1<B)(h2:2<B):Er w':=by
 obtain⟨a,b,p,q,e1,e2⟩:=h;exact⟨a,b,p,q,(hb.cell (p:=⟨1,0,be⟩) h1).trans e1,(hb.cell (p:=⟨2,0,be⟩) h2).trans e2⟩
theorem Sq(l:List UInt8)(v:Int)(w:World)(hs:l.length<=140737488355328)(h:Lib.atoiAll l=.ok v) :
 ly 254 #[Y (gG l)] w (Ip #[U O v,.nilIface]):=by
 refine(Tryz.strconv_Atoi_ok (gG l) (by rw[kD];omega) v (by rw[mu];exact h) w).mono ?_;rintro e w' ⟨rfl,rfl|⟨t,rfl⟩⟩
 .exact⟨rfl,Ib _ _⟩
 .exact⟨rfl,Lib.bytesWorld_below _ _ _⟩
def oD(l:List UInt8):Option (Int×List UInt8):=
 if Jm l 59 = -1 then be
 else match Lib.atoiAll (l.take (Jm l 59).toNat) with
  | .ok n=>if QG n=l.take (Jm l 59).toNat then AI (n,l.drop ((Jm l 59).toNat+1)) else be
  |_=>be
theorem Tryz.cellsByte:Tryz.prog.cellsOf 5=1:=by kernel_rfl
theorem DC(B b:Nat)(l:List UInt8)(w:World)(h:dC B b (Jv l) w)(h0:l≠[]) :
 aK 224 #[If (AI ⟨b,0,be⟩)] w λe w'=>e=AT (Y ⟨l.toArray⟩)/\Below B w w':=by
 obtain⟨p,hB,v,EI,hown,aP⟩:∃p,P5 B b p (Jv l) w:=by
  rcases h with h|h
  .exact⟨_,h⟩
  .exact⟨_,h⟩
 have Vm:l.length≠0:=by simpa using h0
 rw[Lib.byteCells_length] at hown;obtain⟨g,cap,cur,rfl,eX,hg,gK,et,cE,bo⟩:∃g cap cur,v=J (AI ⟨g,0,be⟩) l.length cap/\B<=g/\w.heap[g]?=AI (By cur 5 (0,0))/\l.length<=cap/\cap<=maxLen/\cur.size=cap*1/\cur.toList.take (l.length*1)=Jv l:=by
  rcases hown.2 with⟨_,hz⟩|⟨g,cap,cur,hv,r⟩
  .exact absurd hz Vm
  .exact⟨g,cap,cur,hv,r⟩
 have c1:w.drew.cell? ⟨b,1,be⟩=AI (J (AI ⟨g,0,be⟩) l.length cap):=by
  have:w.drew.heap[b]?=AI (By #[p,J (AI ⟨g,0,be⟩) l.length cap] 262 (0,0)):=EI
  rw[Lib.cell_of_heap this];rfl
 have hSD:(Builtin.unsafeSliceData_ #[258] 304 #[J (AI ⟨g,0,be⟩) l.length cap]).run AS w.drew=.ok (If (AI ⟨g,0,be⟩)) w.drew:=
  Lib.run_unsafeSliceData_row _ _ _ _ _ _ (by omega)
 have hUS:(Builtin.unsafeString_ #[304,3] 9 #[If (AI ⟨g,0,be⟩),U O l.length]).run AS w.drew=.ok (Y ⟨l.toArray⟩) (w.drew.freeze ⟨g,0,be⟩ l.length):=by
  refine Lib.run_unsafeString_row w.drew 304 3 9 5 Tryz.underlying304 Tryz.cellsByte g cur.size (by have xd:w.drew.heap[g]?=AI (By cur 5 (0,0)):=hg;simp[World.shape?,xd]) l h0 (by omega) (by unfold maxLen at et;omega) ?_;intro j x hx;have:=hown.cells (g:=g) rfl j (U .u8 x.toNat) (by simp[Jv,hx]);exact this
 have mixed:Tryz.prog.follows .mixedOrders=true:=by kernel_rfl
 go_enter Tryz.func224,Tryz.ntmps224;go_wp2_with fail;go_region_o
 all_goals (go_wp2;go_ret;exact⟨rfl,Lib.below_freeze (Below.drew (Ib B w)) (p:=⟨g,0,be⟩) eX _⟩)
theorem jO{s:ByteArray}(h:bl s=true):s.size<=1000:=by
 unfold bl at h;simp only[IG,decide_eq_true_eq] at h;have:=h.1.2;omega
theorem Nb{s:ByteArray}(h:Sv.nu s=true):s.size<=1000:=by
 unfold Sv.nu at h;rw[Bool.or_eq_true,decide_eq_true_eq] at h;rcases h with rfl|h
 .show 0<=1000;omega
 .exact jO h
theorem iA{n a b:Int}(h:within n a b=true)(ha : -9223372036854775808<=a)(hb:b<=9223372036854775807):gR n:=by
 unfold within at h;rw[IG,decide_eq_true_eq,decide_eq_true_eq] at h;exact⟨by omega,by omega⟩
theorem acd{m:Mem}(h:m.e=0):lK m:=by
 unfold Mem.e uY at h;split at h
 .rename_i h1
  split at h
  .rename_i h2
   split at h
   .rename_i h3
    split at h
    .rename_i h4
     exact⟨jO h1,iA h2 (by omega) (by omega),iA h3 (by omega) (by omega),iA h4 (by omega) (by omega)⟩
    .cases h
   .cases h
  .cases h
 .cases h
theorem ahP{m:Sv.aV}(h:m.e=0):Sv.lK m:=by
 unfold Sv.aV.e at h;split at h
 .rename_i h1
  split at h
  .rename_i h2
   simp only[IG] at h1 h2;exact⟨jO h1.1,jO h1.2.1,jO h1.2.2.1,Nb h1.2.2.2,iA h2.1 (by omega) (by omega),iA h2.2.1 (by omega) (by omega),iA h2.2.2 (by omega) (by omega)⟩
  .cases h
 .cases h
theorem ahQ{m:Gw.bN}(h:m.e=0):Gw.lK m:=by
 unfold Gw.bN.e at h;split at h
 .rename_i h1
  split at h
  .rename_i h2
   split at h
   .rename_i h3
    exact⟨jO h1,iA h2 (by omega) (by omega),iA h3 (by omega) (by omega)⟩
   .cases h
  .cases h
 .cases h
theorem ahR{m:Wh.bT}(h:m.e=0):Wh.lK m:=by
 unfold Wh.bT.e at h;split at h
 .rename_i h1
  obtain⟨a0,a1,a2,a3,a4,a5,a6,a7,a8,a9⟩:=(o9 _).1 h;simp only at a0 a1 a2 a3 a4 a5 a6 a7 a8 a9;exact⟨jO h1,⟨by omega,by omega⟩,⟨by omega,by omega⟩,⟨by omega,by omega⟩,⟨by omega,by omega⟩,⟨by omega,by omega⟩⟩
 .cases h
theorem DD{ms:List Mem}(h:bp ms=0):ba ms=0:=(aj h).2.2
theorem qK{p:Pk}(h:p.e=0):p.Wok:=by
 unfold Pk.e at h;split at h
 .rename_i h0
  rw[IG] at h0;split at h
  .rename_i h1
   have hm:p.ms.length<=20/\∀m∈p.ms,lK m:=by
    unfold Pk.mE at h1;split at h1
    .exact⟨(aj h1).1,λm hm=>acd (bn _ (DD h1) m hm)⟩
    .obtain⟨a,b,_⟩:=yc h1
     exact⟨by omega,λm hm=>acd (bn _ b m hm)⟩
   split at h
   .rename_i h2
    split at h
    .rename_i h3
     exact⟨jO h0.1,hm,⟨(Sv.aj h2).1,λm hm=>ahP (Sv.bn _ (Sv.aj h2).2.2 m hm)⟩,⟨(Gw.aj h3).1,λm hm=>ahQ (Gw.bn _ (Gw.aj h3).2.2 m hm)⟩,⟨(Wh.aj h).1,λm hm=>ahR (Wh.bn _ (Wh.aj h).2.2 m hm)⟩⟩
    .rename_i h3;exact absurd h h3
   .rename_i h2;exact absurd h h2
  .rename_i h1;exact absurd h h1
 .cases h
def Pk.T(p:Pk):ByteArray:=if p.e=0 then⟨p.B.toArray⟩ else⟨#[]⟩
theorem Pk.ahS(p:Pk):p.B≠[]:=by
 unfold Pk.B nT gL;simp
theorem qL(p:Pk)(zm zs zg zw:Value)(w:World)(hx:lz w p zm zs zg zw)(hlen:p.whole=true\/p.sv.length+p.gw.length+p.wh.length<=4611686018427387904)(hT:nN w.heap.size w) :
 ly 184 #[.agg #[Y p.du,Ia p.whole,zm,zs,zg,zw]] w (Ip #[Y p.T,U O p.e]):=by
 have od:Hid (∀W,Below w.heap.size w W->aK _ _ _ _):=λW hW=>mU p zm zs zg zw W (hx.below hW) hlen;have HWP:Hid (p.e=0->∀W b,Below w.heap.size w W->dC w.heap.size b [] W->aK 223 #[If (AI ⟨b,0,be⟩),.agg #[Y p.du,Ia p.whole,zm,zs,zg,zw]] W λe w'=>e=AT (Ip #[])/\dC w.heap.size b (Jv p.B) w'/\Kp w.heap.size b W w'):=λh0 W b hW hI=>by
  have h:=Bv w.heap.size b p zm zs zg zw w W hI hx rfl hW hW.size (hT.below hW) (qK h0);rw[p.aca] at h;exact h
 have Aw:Hid (p.T=if p.e=0 then⟨p.B.toArray⟩ else⟨#[]⟩):=rfl;have Vb:Hid _:=p.ahS;generalize p.B=PB at *;generalize p.T=PT at *;generalize p.e=pe at *;obtain⟨du,whole,ms,sv,gw,wh⟩:=p;obtain⟨⟨pm,cm,rfl,_,_⟩,⟨ps,cs,rfl,_,_⟩,⟨pg,cg,rfl,_,_⟩,⟨ph,ch,rfl,_,_⟩,_,_⟩:=hx;simp only at od HWP ⊢;generalize ms.length=nm at *;generalize sv.length=ns at *;generalize gw.length=ng at *;generalize wh.length=nh at *;clear hlen hT;obtain⟨W0,bP,bK,-,dX⟩:=bV w #[Y du,Ia whole,J pm nm cm,J ps ns cs,J pg ng cg,J ph nh ch] 61;have df:Hid _:=bK;have Aq:Hid _:=dX;have p0:=ae dX 0;have p1:=ae dX 1;have p2:=ae dX 2;have p3:=ae dX 3;have p4:=ae dX 4;have p5:=ae dX 5;clear bK dX;go_enter Tryz.func184,Tryz.ntmps184;go_upto_region 1 with fail
 rw[<- bP];clear bP;go_wp2_with fail;refine(od.out W0 df.out).mono ?_;rintro e w1 ⟨rfl,aC⟩;have aZ:Hid _:=df.out.trans (aC.mono df.out.size);have cI:=(aC.block _ (BY.1 Aq.out).1).trans Aq.out;have xf:Hid _:=cI;clear aC cI p0 p1 p2 p3 p4 p5;by_cases h0:pe=0;rotate_left
 .have zn:Hid _:=Aw.out.trans (if_neg h0)
  have h1:(pe !=0)=true:=by simpa using h0
  clear h0;go_wp2_with fail;refine IL (v:=Ip #[Y ⟨#[]⟩,U O pe]) ?_ rfl ?_
  .simp[results,Tryz.results184,go_sem]
  .exact⟨by rw[zn.out],aZ.out⟩
 .subst h0
  have zn:Hid _:=Aw.out.trans (if_pos rfl);have HWQ:=HWP.out rfl;have Vn:Hid _:=HWQ;clear HWQ HWP Aw;obtain⟨W2,bO,aL,-,uS⟩:=bV w1 #[If be,J be 0 0] 262;have HI2:Hid (dC w.heap.size w1.heap.size [] W2):=.inl ⟨aZ.out.size,J be 0 0,uS,⟨by simp,.inl ⟨rfl,rfl⟩⟩,by simp[Value.ownBlock]⟩;have wX:=aZ.out.trans (aL.mono aZ.out.size);have rq:Hid _:=wX;have dO:=(aL.block _ (BY.1 xf.out).1).trans xf.out;have p0:=ae dO 0;have p1:=ae dO 1;have p2:=ae dO 2;have p3:=ae dO 3;have p4:=ae dO 4;have p5:=ae dO 5;clear aL uS dO wX;go_upto_region 5 with fail
  rw[<- bO];clear bO;go_wp2_with fail;refine(Vn.out W2 w1.heap.size rq.out HI2.out).mono ?_;rintro e w3 ⟨rfl,h3,kV⟩;have HI3:Hid (dC _ _ _ _):=h3;have cF:Hid _:=rq.out.trans kV.lv;clear h3 kV p0 p1 p2 p3 p4 p5;go_wp2_with fail;refine(DC w.heap.size w1.heap.size PB w3 HI3.out Vb.out).mono ?_;rintro e w4 ⟨rfl,eV⟩;have gC:Hid _:=cF.out.trans eV;clear eV;go_wp2_with fail;refine IL (v:=Ip #[Y ⟨PB.toArray⟩,U O 0]) ?_ rfl ?_
  .simp[results,Tryz.results184,go_sem]
  .exact⟨by rw[zn.out],gC.out⟩
end Go.Proofs.YtbfghimjdlpicaaGreatDoor
