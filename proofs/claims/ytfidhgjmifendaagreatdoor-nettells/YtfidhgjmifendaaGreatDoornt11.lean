import Derived.Test.YtfidhgjmifendaaGreatDoornt3
set_option maxHeartbeats 6400000
set_option maxRecDepth 100000
open List renaming flatMap_cons→I0,length_append→Ig,length_cons→Iy,length_nil→IW,getD→Ip,getElem?_eq_getElem→If,getElem_mem→IH,take_succ_eq_append_getElem→IF,flatMap_append→Qg,mem_of_mem_take→Jf,length_take_le→JM,append_assoc→Im,take_of_length_le→Jl
open Go.Obj renaming cells→AT
open Go.Value renaming pointer→Ie,func→IQ,tuple→Ik,slice→J,int→U,string→Y,bool→Ia
open Option renaming some→AI,none→be
open Go.Ending renaming returned→By
open Go.IntKind renaming i64→O
open Nat renaming zero_le→II,le_refl→Ic,le_trans→Iq
open Go renaming heap_alloc_new→Ih,bodyPost→JT
namespace Go.Proofs.YtfidhgjmifendaaGreatDoor
open Go.RowKit
theorem dK:∀(ms:List Mem),(∀m∈ms,kb m)->(ms.flatMap dy).length<=3300*ms.length
 |[],_=>by simp
 |x::r,h=>by
  have h1:=lE (h x (by simp));have h2:=dK r (λm hm=>h m (by simp[hm]));rw[I0,Ig,Iy];omega
theorem ie(B b wb:Nat)(ms:List Mem)(v:Value)(bs:List Value)(w0 w:World)(h:cY B b bs w)(hv:Sl w0 v ms)(hB:B=w0.heap.size)(oZ:Below B w0 w)(Pf:ms.length<=50)(hlen:bs.length+3300*ms.length<=600000)(gK:B<=w.heap.size)(hT:ma B w)(mF:w.heap[wb]?=AI (AT #[Ie (AI ⟨b,0,be⟩)] 289 (0,0)))(aM:wb≠b)(hU:∀m∈ms,kb m) :
 aF 261 #[Ie (AI ⟨b,0,be⟩),v,IQ (.func 262) #[] #[Ie (AI ⟨wb,0,be⟩)]] w λe w'=>e=By (Ik #[])/\cY B b (bs++(bk ms.length++ms.flatMap dy)) w'/\Kp B b w w':=by
 have eg:=enters_of Tryz.func262 (by kernel_rfl) rfl;obtain⟨pa,ca,rfl,_,cQ⟩:=hv;have HR:Hid _:=cQ;have Ar:Hid _:=oZ;have Rm:Hid _:=mF;have lg:Hid _:=hU;have HT:Hid (ma B w):=hT;have HI:Hid (cY B b bs w):=h;have ed:Hid _:=hB;clear cQ oZ mF hU hT h hB;generalize ri:ms.length=nl at *;have jZ:Hid _:=ri;have qm:Hid _:=hlen;clear ri hlen;have AN:Hid (aF 263 #[Ie (AI ⟨b,0,be⟩),J (AI ⟨w.heap.size,0,be⟩) 1 1] (w.alloc (AT #[U O (nl:Int)] 3)) λe w'=>e=By (Ik #[])/\cY B b (bs++bk nl) w'/\Kp B b w w'):=by
  refine(gM B b [(nl:Int)] bs w HI.out (by have:=qm.out;simp only[Iy,IW];omega) gK HT.out (λn hn=>by simp at hn;rw[hn];exact cW (by omega))).mono ?_;rintro e w' ⟨rfl,h1,h2⟩;exact⟨rfl,by simpa using h1,h2⟩
 go_enter Tryz.func261,Tryz.ntmps261;go_wp2_with fail;refine AN.out.mono ?_;rintro e w1 ⟨rfl,h1,jq⟩;have nZ:Hid (cY _ _ _ _):=h1;have mo:Hid _:=jq;clear h1 jq AN;go_wp2_with fail;go_loopw [15] (λi w'=>∃k:Nat,k<=nl/\i=U O k/\Hid (cY B b (bs++bk nl++(ms.take k).flatMap dy) w')/\Hid (Kp B b w w')) (λi _=>nl-(intOf i).toNat)
 case atStart=>exact⟨0,II _,rfl,by simpa using nZ,mo⟩
 case round=>
  obtain⟨k,hk,rfl,HW,HK⟩:=hrel;by_cases aW:k<nl
  .obtain⟨g,o,hp,dn,hr⟩:∃b off,pa=AI ⟨b,off,be⟩/\b<w0.heap.size/\Row w0 b off ms:=by
    rcases HR.out with h|h
    .have:=jZ.out;rw[h] at this;simp at this;omega
    .exact h
   subst hp;have iH:k<ms.length:=by rw[jZ.out];exact aW
   obtain⟨c0,c1,c2,c3,c4⟩:=hr k iH;have aN:∀o,wr.cell? ⟨g,o,be⟩=w0.cell? ⟨g,o,be⟩:=λo=>(Ar.out.trans HK.out.jX).cell (p:=⟨g,o,be⟩) (by have:=ed.out;show g<B;omega);have GD:Hid (kb (ms.getD k dm)):=lg.out _ (by rw[show ms.getD k dm=ms[k] by simp[Ip,If iH]];exact IH _);have sI:Hid ((ms.take (k+1)).flatMap dy=(ms.take k).flatMap dy++dy (ms.getD k dm)):=by
    show List.flatMap dy _=_;rw[IF iH,Qg];simp[Ip,If iH]
   have CF:Hid ((bs++bk nl++(ms.take k).flatMap dy).length<=700000):=by
    have h1:=dK (ms.take k) (λn hn=>lg.out n (Jf hn));have h2:(ms.take k).length<=k:=JM _ _;have h3:=qm.out;have h4:=dH (cW (n:=nl) (by omega));show(bs++bk nl++(ms.take k).flatMap dy).length<=700000;rw[Ig,Ig];omega
   generalize ms.getD k dm=x at *;generalize(ms.take k).flatMap dy=L at *;obtain⟨W2,bF⟩:∃W2,W2=wr.alloc (AT #[Y x.name,U O x.state,U O x.aI,U O x.addr,Ia x.server] 50):=⟨_,rfl⟩;have aJ:Below wr.heap.size wr W2:=by rw[bF];exact(Below.refl _ _).alloc (Ic _) _
   have yk:=Iq gK HK.out.size;have dQ:W2.heap[wr.heap.size]?=AI (AT #[Y x.name,U O x.state,U O x.aI,U O x.addr,Ia x.server] 50 (0,0)):=by rw[bF];exact Ih wr _
   have AO:Hid _:=HK.out.trans (Kp.cd aJ yk);have HC:Hid (aF _ _ _ _):=jN B b wb x _ W2 (HW.out.below aJ) CF.out (Iq yk aJ.size) (HT.out.below AO.out.jX) (AO.out.keeps Rm.out aM (by decide)) aM GD.out;generalize dy x=EX at *;obtain⟨x0,x1,x2,x3,x4⟩:=x;simp only at c0 c1 c2 c3 c4 dQ bF HC;have d0:=(aN _).trans c0;have d1:=(aN _).trans c1;have d2:=(aN _).trans c2;have d3:=(aN _).trans c3;have d4:=(aN _).trans c4;clear aN c0 c1 c2 c3 c4 hr iH aJ GD CF;have L5:(k:Int)<(nl:Int):=by omega
   go_upto_region 4 with fail
   rw[<- bF];clear bF d0 d1 d2 d3 d4;have z0:=ae dQ 0;have z1:=ae dQ 1;have z2:=ae dQ 2;have z3:=ae dQ 3;have z4:=ae dQ 4;clear dQ;go_wp2_with fail;refine HC.out.mono ?_;rintro e w3 ⟨rfl,h3,jO⟩;have yQ:Hid (cY B b (bs++bk nl++(L++EX)) w3):=(show cY _ _ _ _ by rw[<- Im];exact h3);have ui:Hid _:=AO.out.trans jO;clear h3 jO z0 z1 z2 z3 z4;go_wp2_with fail;go_roundw
   case rel=>exact⟨k+1,by omega,by go_num,by rw[sI.out];exact yQ,ui⟩
   case measure=>simp[intOf];omega
  .have rJ:Hid (cY B b (bs++(bk nl++ms.flatMap dy)) wr):=by
    have h:=HW.out;rw[Jl (by rw[jZ.out];omega),Im] at h;exact h
   have L5:¬ (k:Int)<(nl:Int):=by omega
   go_wp2_with fail;simp[JT,results,Tryz.results261];exact⟨rJ.out,HK.out⟩
theorem Sv.dK:∀(ms:List Sv.aT),(∀m∈ms,Sv.kb m)->(ms.flatMap Sv.dy).length<=8800*ms.length
 |[],_=>by simp
 |x::r,h=>by
  have h1:=Sv.lE (h x (by simp));have h2:=Sv.dK r (λm hm=>h m (by simp[hm]));rw[I0,Ig,Iy];omega
theorem Sv.ie(B b wb:Nat)(ms:List Sv.aT)(v:Value)(bs:List Value)(w0 w:World)(h:cY B b bs w)(hv:Sv.Sl w0 v ms)(hB:B=w0.heap.size)(oZ:Below B w0 w)(Pf:ms.length<=50)(hlen:bs.length+8800*ms.length<=600000)(gK:B<=w.heap.size)(hT:ma B w)(mF:w.heap[wb]?=AI (AT #[Ie (AI ⟨b,0,be⟩)] 289 (0,0)))(aM:wb≠b)(hU:∀m∈ms,Sv.kb m) :
 aF 264 #[Ie (AI ⟨b,0,be⟩),v,IQ (.func 265) #[] #[Ie (AI ⟨wb,0,be⟩)]] w λe w'=>e=By (Ik #[])/\cY B b (bs++(bk ms.length++ms.flatMap Sv.dy)) w'/\Kp B b w w':=by
 have eg:=enters_of Tryz.func265 (by kernel_rfl) rfl;obtain⟨pa,ca,rfl,_,cQ⟩:=hv;have HR:Hid _:=cQ;have Ar:Hid _:=oZ;have Rm:Hid _:=mF;have lg:Hid _:=hU;have HT:Hid (ma B w):=hT;have HI:Hid (cY B b bs w):=h;have ed:Hid _:=hB;clear cQ oZ mF hU hT h hB;generalize ri:ms.length=nl at *;have jZ:Hid _:=ri;have qm:Hid _:=hlen;clear ri hlen;have AN:Hid (aF 263 #[Ie (AI ⟨b,0,be⟩),J (AI ⟨w.heap.size,0,be⟩) 1 1] (w.alloc (AT #[U O (nl:Int)] 3)) λe w'=>e=By (Ik #[])/\cY B b (bs++bk nl) w'/\Kp B b w w'):=by
  refine(gM B b [(nl:Int)] bs w HI.out (by have:=qm.out;simp only[Iy,IW];omega) gK HT.out (λn hn=>by simp at hn;rw[hn];exact cW (by omega))).mono ?_;rintro e w' ⟨rfl,h1,h2⟩;exact⟨rfl,by simpa using h1,h2⟩
 go_enter Tryz.func264,Tryz.ntmps264;go_wp2_with fail;refine AN.out.mono ?_;rintro e w1 ⟨rfl,h1,jq⟩;have nZ:Hid (cY _ _ _ _):=h1;have mo:Hid _:=jq;clear h1 jq AN;go_wp2_with fail;go_loopw [15] (λi w'=>∃k:Nat,k<=nl/\i=U O k/\Hid (cY B b (bs++bk nl++(ms.take k).flatMap Sv.dy) w')/\Hid (Kp B b w w')) (λi _=>nl-(intOf i).toNat)
 case atStart=>exact⟨0,II _,rfl,by simpa using nZ,mo⟩
 case round=>
  obtain⟨k,hk,rfl,HW,HK⟩:=hrel;by_cases aW:k<nl
  .obtain⟨g,o,hp,dn,hr⟩:∃b off,pa=AI ⟨b,off,be⟩/\b<w0.heap.size/\Sv.Row w0 b off ms:=by
    rcases HR.out with h|h
    .have:=jZ.out;rw[h] at this;simp at this;omega
    .exact h
   subst hp;have iH:k<ms.length:=by rw[jZ.out];exact aW
   obtain⟨c0,c1,c2,c3,c4,c5,c6,c7,c8⟩:=hr k iH;have aN:∀o,wr.cell? ⟨g,o,be⟩=w0.cell? ⟨g,o,be⟩:=λo=>(Ar.out.trans HK.out.jX).cell (p:=⟨g,o,be⟩) (by have:=ed.out;show g<B;omega);have GD:Hid (Sv.kb (ms.getD k Sv.dm)):=lg.out _ (by rw[show ms.getD k Sv.dm=ms[k] by simp[Ip,If iH]];exact IH _);have sI:Hid ((ms.take (k+1)).flatMap Sv.dy=(ms.take k).flatMap Sv.dy++Sv.dy (ms.getD k Sv.dm)):=by
    show List.flatMap Sv.dy _=_;rw[IF iH,Qg];simp[Ip,If iH]
   have CF:Hid ((bs++bk nl++(ms.take k).flatMap Sv.dy).length<=700000):=by
    have h1:=Sv.dK (ms.take k) (λn hn=>lg.out n (Jf hn));have h2:(ms.take k).length<=k:=JM _ _;have h3:=qm.out;have h4:=dH (cW (n:=nl) (by omega));show(bs++bk nl++(ms.take k).flatMap Sv.dy).length<=700000;rw[Ig,Ig];omega
   generalize ms.getD k Sv.dm=x at *;generalize(ms.take k).flatMap Sv.dy=L at *;obtain⟨W2,bF⟩:∃W2,W2=wr.alloc (AT #[Y x.node,Y x.bu,Y x.name,Y x.tag,U O x.addr,U O x.port,Ia x.aj,U O x.version,Ia x.gone] 46):=⟨_,rfl⟩;have aJ:Below wr.heap.size wr W2:=by rw[bF];exact(Below.refl _ _).alloc (Ic _) _
   have yk:=Iq gK HK.out.size;have dQ:W2.heap[wr.heap.size]?=AI (AT #[Y x.node,Y x.bu,Y x.name,Y x.tag,U O x.addr,U O x.port,Ia x.aj,U O x.version,Ia x.gone] 46 (0,0)):=by rw[bF];exact Ih wr _
   have AO:Hid _:=HK.out.trans (Kp.cd aJ yk);have HC:Hid (aF _ _ _ _):=Sv.jN B b wb x _ W2 (HW.out.below aJ) CF.out (Iq yk aJ.size) (HT.out.below AO.out.jX) (AO.out.keeps Rm.out aM (by decide)) aM GD.out;generalize Sv.dy x=EX at *;obtain⟨x0,x1,x2,x3,x4,x5,x6,x7,x8⟩:=x;simp only at c0 c1 c2 c3 c4 c5 c6 c7 c8 dQ bF HC;have d0:=(aN _).trans c0;have d1:=(aN _).trans c1;have d2:=(aN _).trans c2;have d3:=(aN _).trans c3;have d4:=(aN _).trans c4;have d5:=(aN _).trans c5;have d6:=(aN _).trans c6;have d7:=(aN _).trans c7;have d8:=(aN _).trans c8;clear aN c0 c1 c2 c3 c4 c5 c6 c7 c8 hr iH aJ GD CF;have L5:(k:Int)<(nl:Int):=by omega
   go_upto_region 4 with fail
   rw[<- bF];clear bF d0 d1 d2 d3 d4 d5 d6 d7 d8;have z0:=ae dQ 0;have z1:=ae dQ 1;have z2:=ae dQ 2;have z3:=ae dQ 3;have z4:=ae dQ 4;have z5:=ae dQ 5;have z6:=ae dQ 6;have z7:=ae dQ 7;have z8:=ae dQ 8;clear dQ;go_wp2_with fail;refine HC.out.mono ?_;rintro e w3 ⟨rfl,h3,jO⟩;have yQ:Hid (cY B b (bs++bk nl++(L++EX)) w3):=(show cY _ _ _ _ by rw[<- Im];exact h3);have ui:Hid _:=AO.out.trans jO;clear h3 jO z0 z1 z2 z3 z4 z5 z6 z7 z8;go_wp2_with fail;go_roundw
   case rel=>exact⟨k+1,by omega,by go_num,by rw[sI.out];exact yQ,ui⟩
   case measure=>simp[intOf];omega
  .have rJ:Hid (cY B b (bs++(bk nl++ms.flatMap Sv.dy)) wr):=by
    have h:=HW.out;rw[Jl (by rw[jZ.out];omega),Im] at h;exact h
   have L5:¬ (k:Int)<(nl:Int):=by omega
   go_wp2_with fail;simp[JT,results,Tryz.results264];exact⟨rJ.out,HK.out⟩
theorem Gw.dK:∀(ms:List Gw.bK),(∀m∈ms,Gw.kb m)->(ms.flatMap Gw.dy).length<=2200*ms.length
 |[],_=>by simp
 |x::r,h=>by
  have h1:=Gw.lE (h x (by simp));have h2:=Gw.dK r (λm hm=>h m (by simp[hm]));rw[I0,Ig,Iy];omega
theorem Gw.ie(B b wb:Nat)(ms:List Gw.bK)(v:Value)(bs:List Value)(w0 w:World)(h:cY B b bs w)(hv:Gw.Sl w0 v ms)(hB:B=w0.heap.size)(oZ:Below B w0 w)(Pf:ms.length<=50)(hlen:bs.length+2200*ms.length<=600000)(gK:B<=w.heap.size)(hT:ma B w)(mF:w.heap[wb]?=AI (AT #[Ie (AI ⟨b,0,be⟩)] 289 (0,0)))(aM:wb≠b)(hU:∀m∈ms,Gw.kb m) :
 aF 266 #[Ie (AI ⟨b,0,be⟩),v,IQ (.func 267) #[] #[Ie (AI ⟨wb,0,be⟩)]] w λe w'=>e=By (Ik #[])/\cY B b (bs++(bk ms.length++ms.flatMap Gw.dy)) w'/\Kp B b w w':=by
 have eg:=enters_of Tryz.func267 (by kernel_rfl) rfl;obtain⟨pa,ca,rfl,_,cQ⟩:=hv;have HR:Hid _:=cQ;have Ar:Hid _:=oZ;have Rm:Hid _:=mF;have lg:Hid _:=hU;have HT:Hid (ma B w):=hT;have HI:Hid (cY B b bs w):=h;have ed:Hid _:=hB;clear cQ oZ mF hU hT h hB;generalize ri:ms.length=nl at *;have jZ:Hid _:=ri;have qm:Hid _:=hlen;clear ri hlen;have AN:Hid (aF 263 #[Ie (AI ⟨b,0,be⟩),J (AI ⟨w.heap.size,0,be⟩) 1 1] (w.alloc (AT #[U O (nl:Int)] 3)) λe w'=>e=By (Ik #[])/\cY B b (bs++bk nl) w'/\Kp B b w w'):=by
  refine(gM B b [(nl:Int)] bs w HI.out (by have:=qm.out;simp only[Iy,IW];omega) gK HT.out (λn hn=>by simp at hn;rw[hn];exact cW (by omega))).mono ?_;rintro e w' ⟨rfl,h1,h2⟩;exact⟨rfl,by simpa using h1,h2⟩
 go_enter Tryz.func266,Tryz.ntmps266;go_wp2_with fail;refine AN.out.mono ?_;rintro e w1 ⟨rfl,h1,jq⟩;have nZ:Hid (cY _ _ _ _):=h1;have mo:Hid _:=jq;clear h1 jq AN;go_wp2_with fail;go_loopw [15] (λi w'=>∃k:Nat,k<=nl/\i=U O k/\Hid (cY B b (bs++bk nl++(ms.take k).flatMap Gw.dy) w')/\Hid (Kp B b w w')) (λi _=>nl-(intOf i).toNat)
 case atStart=>exact⟨0,II _,rfl,by simpa using nZ,mo⟩
 case round=>
  obtain⟨k,hk,rfl,HW,HK⟩:=hrel;by_cases aW:k<nl
  .obtain⟨g,o,hp,dn,hr⟩:∃b off,pa=AI ⟨b,off,be⟩/\b<w0.heap.size/\Gw.Row w0 b off ms:=by
    rcases HR.out with h|h
    .have:=jZ.out;rw[h] at this;simp at this;omega
    .exact h
   subst hp;have iH:k<ms.length:=by rw[jZ.out];exact aW
   obtain⟨c0,c1,c2⟩:=hr k iH;have aN:∀o,wr.cell? ⟨g,o,be⟩=w0.cell? ⟨g,o,be⟩:=λo=>(Ar.out.trans HK.out.jX).cell (p:=⟨g,o,be⟩) (by have:=ed.out;show g<B;omega);have GD:Hid (Gw.kb (ms.getD k Gw.dm)):=lg.out _ (by rw[show ms.getD k Gw.dm=ms[k] by simp[Ip,If iH]];exact IH _);have sI:Hid ((ms.take (k+1)).flatMap Gw.dy=(ms.take k).flatMap Gw.dy++Gw.dy (ms.getD k Gw.dm)):=by
    show List.flatMap Gw.dy _=_;rw[IF iH,Qg];simp[Ip,If iH]
   have CF:Hid ((bs++bk nl++(ms.take k).flatMap Gw.dy).length<=700000):=by
    have h1:=Gw.dK (ms.take k) (λn hn=>lg.out n (Jf hn));have h2:(ms.take k).length<=k:=JM _ _;have h3:=qm.out;have h4:=dH (cW (n:=nl) (by omega));show(bs++bk nl++(ms.take k).flatMap Gw.dy).length<=700000;rw[Ig,Ig];omega
   generalize ms.getD k Gw.dm=x at *;generalize(ms.take k).flatMap Gw.dy=L at *;obtain⟨W2,bF⟩:∃W2,W2=wr.alloc (AT #[Y x.aD,U O x.addr,U O x.version] 77):=⟨_,rfl⟩;have aJ:Below wr.heap.size wr W2:=by rw[bF];exact(Below.refl _ _).alloc (Ic _) _
   have yk:=Iq gK HK.out.size;have dQ:W2.heap[wr.heap.size]?=AI (AT #[Y x.aD,U O x.addr,U O x.version] 77 (0,0)):=by rw[bF];exact Ih wr _
   have AO:Hid _:=HK.out.trans (Kp.cd aJ yk);have HC:Hid (aF _ _ _ _):=Gw.jN B b wb x _ W2 (HW.out.below aJ) CF.out (Iq yk aJ.size) (HT.out.below AO.out.jX) (AO.out.keeps Rm.out aM (by decide)) aM GD.out;generalize Gw.dy x=EX at *;obtain⟨x0,x1,x2⟩:=x;simp only at c0 c1 c2 dQ bF HC;have d0:=(aN _).trans c0;have d1:=(aN _).trans c1;have d2:=(aN _).trans c2;clear aN c0 c1 c2 hr iH aJ GD CF;have L5:(k:Int)<(nl:Int):=by omega
   go_upto_region 4 with fail
   rw[<- bF];clear bF d0 d1 d2;have z0:=ae dQ 0;have z1:=ae dQ 1;have z2:=ae dQ 2;clear dQ;go_wp2_with fail;refine HC.out.mono ?_;rintro e w3 ⟨rfl,h3,jO⟩;have yQ:Hid (cY B b (bs++bk nl++(L++EX)) w3):=(show cY _ _ _ _ by rw[<- Im];exact h3);have ui:Hid _:=AO.out.trans jO;clear h3 jO z0 z1 z2;go_wp2_with fail;go_roundw
   case rel=>exact⟨k+1,by omega,by go_num,by rw[sI.out];exact yQ,ui⟩
   case measure=>simp[intOf];omega
  .have rJ:Hid (cY B b (bs++(bk nl++ms.flatMap Gw.dy)) wr):=by
    have h:=HW.out;rw[Jl (by rw[jZ.out];omega),Im] at h;exact h
   have L5:¬ (k:Int)<(nl:Int):=by omega
   go_wp2_with fail;simp[JT,results,Tryz.results266];exact⟨rJ.out,HK.out⟩
theorem Wh.dK:∀(ms:List Wh.bE),(∀m∈ms,Wh.kb m)->(ms.flatMap Wh.dy).length<=2200*ms.length
 |[],_=>by simp
 |x::r,h=>by
  have h1:=Wh.lE (h x (by simp));have h2:=Wh.dK r (λm hm=>h m (by simp[hm]));rw[I0,Ig,Iy];omega
theorem Wh.ie(B b wb:Nat)(ms:List Wh.bE)(v:Value)(bs:List Value)(w0 w:World)(h:cY B b bs w)(hv:Wh.Sl w0 v ms)(hB:B=w0.heap.size)(oZ:Below B w0 w)(Pf:ms.length<=50)(hlen:bs.length+2200*ms.length<=600000)(gK:B<=w.heap.size)(hT:ma B w)(mF:w.heap[wb]?=AI (AT #[Ie (AI ⟨b,0,be⟩)] 289 (0,0)))(aM:wb≠b)(hU:∀m∈ms,Wh.kb m) :
 aF 268 #[Ie (AI ⟨b,0,be⟩),v,IQ (.func 269) #[] #[Ie (AI ⟨wb,0,be⟩)]] w λe w'=>e=By (Ik #[])/\cY B b (bs++(bk ms.length++ms.flatMap Wh.dy)) w'/\Kp B b w w':=by
 have eg:=enters_of Tryz.func269 (by kernel_rfl) rfl;obtain⟨pa,ca,rfl,_,cQ⟩:=hv;have HR:Hid _:=cQ;have Ar:Hid _:=oZ;have Rm:Hid _:=mF;have lg:Hid _:=hU;have HT:Hid (ma B w):=hT;have HI:Hid (cY B b bs w):=h;have ed:Hid _:=hB;clear cQ oZ mF hU hT h hB;generalize ri:ms.length=nl at *;have jZ:Hid _:=ri;have qm:Hid _:=hlen;clear ri hlen;have AN:Hid (aF 263 #[Ie (AI ⟨b,0,be⟩),J (AI ⟨w.heap.size,0,be⟩) 1 1] (w.alloc (AT #[U O (nl:Int)] 3)) λe w'=>e=By (Ik #[])/\cY B b (bs++bk nl) w'/\Kp B b w w'):=by
  refine(gM B b [(nl:Int)] bs w HI.out (by have:=qm.out;simp only[Iy,IW];omega) gK HT.out (λn hn=>by simp at hn;rw[hn];exact cW (by omega))).mono ?_;rintro e w' ⟨rfl,h1,h2⟩;exact⟨rfl,by simpa using h1,h2⟩
 go_enter Tryz.func268,Tryz.ntmps268;go_wp2_with fail;refine AN.out.mono ?_;rintro e w1 ⟨rfl,h1,jq⟩;have nZ:Hid (cY _ _ _ _):=h1;have mo:Hid _:=jq;clear h1 jq AN;go_wp2_with fail;go_loopw [15] (λi w'=>∃k:Nat,k<=nl/\i=U O k/\Hid (cY B b (bs++bk nl++(ms.take k).flatMap Wh.dy) w')/\Hid (Kp B b w w')) (λi _=>nl-(intOf i).toNat)
 case atStart=>exact⟨0,II _,rfl,by simpa using nZ,mo⟩
 case round=>
  obtain⟨k,hk,rfl,HW,HK⟩:=hrel;by_cases aW:k<nl
  .obtain⟨g,o,hp,dn,hr⟩:∃b off,pa=AI ⟨b,off,be⟩/\b<w0.heap.size/\Wh.Row w0 b off ms:=by
    rcases HR.out with h|h
    .have:=jZ.out;rw[h] at this;simp at this;omega
    .exact h
   subst hp;have iH:k<ms.length:=by rw[jZ.out];exact aW
   obtain⟨c0,c1,c2,c3,c4,c5⟩:=hr k iH;have aN:∀o,wr.cell? ⟨g,o,be⟩=w0.cell? ⟨g,o,be⟩:=λo=>(Ar.out.trans HK.out.jX).cell (p:=⟨g,o,be⟩) (by have:=ed.out;show g<B;omega);have GD:Hid (Wh.kb (ms.getD k Wh.dm)):=lg.out _ (by rw[show ms.getD k Wh.dm=ms[k] by simp[Ip,If iH]];exact IH _);have sI:Hid ((ms.take (k+1)).flatMap Wh.dy=(ms.take k).flatMap Wh.dy++Wh.dy (ms.getD k Wh.dm)):=by
    show List.flatMap Wh.dy _=_;rw[IF iH,Qg];simp[Ip,If iH]
   have CF:Hid ((bs++bk nl++(ms.take k).flatMap Wh.dy).length<=700000):=by
    have h1:=Wh.dK (ms.take k) (λn hn=>lg.out n (Jf hn));have h2:(ms.take k).length<=k:=JM _ _;have h3:=qm.out;have h4:=dH (cW (n:=nl) (by omega));show(bs++bk nl++(ms.take k).flatMap Wh.dy).length<=700000;rw[Ig,Ig];omega
   generalize ms.getD k Wh.dm=x at *;generalize(ms.take k).flatMap Wh.dy=L at *;obtain⟨W2,bF⟩:∃W2,W2=wr.alloc (AT #[Y x.node,U O x.x,U O x.y,U O x.z,U O x.h,U O x.s] 116):=⟨_,rfl⟩;have aJ:Below wr.heap.size wr W2:=by rw[bF];exact(Below.refl _ _).alloc (Ic _) _
   have yk:=Iq gK HK.out.size;have dQ:W2.heap[wr.heap.size]?=AI (AT #[Y x.node,U O x.x,U O x.y,U O x.z,U O x.h,U O x.s] 116 (0,0)):=by rw[bF];exact Ih wr _
   have AO:Hid _:=HK.out.trans (Kp.cd aJ yk);have HC:Hid (aF _ _ _ _):=Wh.jN B b wb x _ W2 (HW.out.below aJ) CF.out (Iq yk aJ.size) (HT.out.below AO.out.jX) (AO.out.keeps Rm.out aM (by decide)) aM GD.out;generalize Wh.dy x=EX at *;obtain⟨x0,x1,x2,x3,x4,x5⟩:=x;simp only at c0 c1 c2 c3 c4 c5 dQ bF HC;have d0:=(aN _).trans c0;have d1:=(aN _).trans c1;have d2:=(aN _).trans c2;have d3:=(aN _).trans c3;have d4:=(aN _).trans c4;have d5:=(aN _).trans c5;clear aN c0 c1 c2 c3 c4 c5 hr iH aJ GD CF;have L5:(k:Int)<(nl:Int):=by omega
   go_upto_region 4 with fail
   rw[<- bF];clear bF d0 d1 d2 d3 d4 d5;have z0:=ae dQ 0;have z1:=ae dQ 1;have z2:=ae dQ 2;have z3:=ae dQ 3;have z4:=ae dQ 4;have z5:=ae dQ 5;clear dQ;go_wp2_with fail;refine HC.out.mono ?_;rintro e w3 ⟨rfl,h3,jO⟩;have yQ:Hid (cY B b (bs++bk nl++(L++EX)) w3):=(show cY _ _ _ _ by rw[<- Im];exact h3);have ui:Hid _:=AO.out.trans jO;clear h3 jO z0 z1 z2 z3 z4 z5;go_wp2_with fail;go_roundw
   case rel=>exact⟨k+1,by omega,by go_num,by rw[sI.out];exact yQ,ui⟩
   case measure=>simp[intOf];omega
  .have rJ:Hid (cY B b (bs++(bk nl++ms.flatMap Wh.dy)) wr):=by
    have h:=HW.out;rw[Jl (by rw[jZ.out];omega),Im] at h;exact h
   have L5:¬ (k:Int)<(nl:Int):=by omega
   go_wp2_with fail;simp[JT,results,Tryz.results268];exact⟨rJ.out,HK.out⟩
end Go.Proofs.YtfidhgjmifendaaGreatDoor
