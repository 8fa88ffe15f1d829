import Derived.Test.YtfidhgjmifendaaGreatDoorns11
import Derived.Test.YtfidhgjmifendaaGreatDoorns10
import Derived.Shelf.RegionOpen
import Derived.Lib.Split
set_option maxHeartbeats 6400000
set_option maxRecDepth 100000
open Go.Lib renaming itoa→Qt,byteCells→Jp,indexByte→Je,indexByte_ge→QT
open List renaming flatMap_cons→I2,length_append→Ig,length→Jt
open Go.Value renaming pointer→Ie,string→Y,bool→Ia,tuple→Ik,slice→J,func→IT,int→U
open Go.Ending renaming returned→AT
open Option renaming some→AI,none→be
open Go.Proofs.Tryz renaming prog→AS
open Go.Obj renaming cells→By
open Nat renaming le_refl→Ic,le_trans→Ir,mul_le_mul_left→QX,lt_of_lt_of_le→IL
open Bool renaming and_eq_true→IF
open Array renaming getElem?_eq_some_iff→BY
namespace Go.Proofs.YtfidhgjmifendaaGreatDoor
open Go.RowKit
def fQ(n:Int):List UInt8:=Qt n++[59]
def mF(s:ByteArray):List UInt8:=fQ s.size++s.data.toList
def xh(y:Bool):List UInt8:=fQ (if y=true then 1 else 0)
theorem mO(a b:List UInt8):Jp (a++b)=Jp a++Jp b:=by simp[Jp]
theorem sJ(n:Int):bn n=Jp (fQ n):=by
 unfold bn fQ mA;rw[mO,Lib.strCells_toArray];rfl
theorem pR(s:ByteArray):aZ s=Jp (mF s):=by
 unfold aZ mF;rw[mO,sJ];rfl
theorem xi(y:Bool):eO y=Jp (xh y):=sJ _
theorem nH{α:Type}(f:α->List Value)(g:α->List UInt8)(h:∀x,f x=Jp (g x)):∀l:List α,l.flatMap f=Jp (l.flatMap g)
 |[]=>rfl
 |x::r=>by rw[I2,I2,mO,h,nH f g h r]
theorem sK(l:List Int):l.flatMap bn=Jp (l.flatMap fQ):=nH bn fQ sJ l
def gU(m:Mem):List UInt8:=mF m.name++[m.state,m.aJ,m.addr].flatMap fQ++xh m.server
theorem oF(m:Mem):dA m=Jp (gU m):=by
 unfold dA gU;simp only[mO,pR,xi,sK]
def Sv.gU(m:Sv.aY):List UInt8:=mF m.node++mF m.bP++mF m.name++mF m.tag++[m.addr,m.port].flatMap fQ++xh m.an++[m.version].flatMap fQ++xh m.gone
theorem Sv.oF(m:Sv.aY):Sv.dA m=Jp (Sv.gU m):=by
 unfold Sv.dA Sv.gU;simp only[mO,pR,xi,sK]
def Gw.gU(m:Gw.bL):List UInt8:=mF m.aD++[m.addr,m.version].flatMap fQ
theorem Gw.oF(m:Gw.bL):Gw.dA m=Jp (Gw.gU m):=by
 unfold Gw.dA Gw.gU;simp only[mO,pR,sK]
def Wh.gU(m:Wh.bK):List UInt8:=mF m.node++[m.x,m.y,m.z,m.h,m.s].flatMap fQ
theorem Wh.oF(m:Wh.bK):Wh.dA m=Jp (Wh.gU m):=by
 unfold Wh.dA Wh.gU;simp only[mO,pR,sK]
def Pk.L(p:Pk):List Value:=aZ p.cV++eO p.whole++(bn p.ms.length++p.ms.flatMap dA)++(bn p.sv.length++p.sv.flatMap Sv.dA)++(bn p.gw.length++p.gw.flatMap Gw.dA)++(bn p.wh.length++p.wh.flatMap Wh.dA)
def Pk.B(p:Pk):List UInt8:=mF p.cV++xh p.whole++(fQ p.ms.length++p.ms.flatMap gU)++(fQ p.sv.length++p.sv.flatMap Sv.gU)++(fQ p.gw.length++p.gw.flatMap Gw.gU)++(fQ p.wh.length++p.wh.flatMap Wh.gU)
theorem Pk.VQ(p:Pk):p.L=Jp p.B:=by
 unfold Pk.L Pk.B;simp only[mO,pR,xi,sJ,nH dA gU oF,nH Sv.dA Sv.gU Sv.oF,nH Gw.dA Gw.gU Gw.oF,nH Wh.dA Wh.gU Wh.oF]
structure Pk.VR(p:Pk):Prop where
 cV:p.cV.size<=1000
 ms:p.ms.length<=20/\∀m∈p.ms,kE m
 sv:p.sv.length<=40/\∀m∈p.sv,Sv.kE m
 gw:p.gw.length<=6/\∀m∈p.gw,Gw.kE m
 wh:p.wh.length<=20/\∀m∈p.wh,Wh.kE m
theorem zo(B b:Nat)(p:Pk)(zm zs zg zw:Value)(w0 w:World)(h:cY B b [] w)(hx:kz w0 p zm zs zg zw)(hB:B=w0.heap.size)(pQ:Below B w0 w)(gW:B<=w.heap.size)(hT:mw B w)(gR:p.VR) :
 Calls AS 231 #[Ie (AI ⟨b,0,be⟩),.agg #[Y p.cV,Ia p.whole,zm,zs,zg,zw]] w λe w'=>e=AT (Ik #[])/\cY B b p.L w'/\Kp B b w w':=by
 have T9:Hid (p.L=aZ p.cV++eO p.whole++(bn p.ms.length++p.ms.flatMap dA)++(bn p.sv.length++p.sv.flatMap Sv.dA)++(bn p.gw.length++p.gw.flatMap Gw.dA)++(bn p.wh.length++p.wh.flatMap Wh.dA)):=rfl;have Gz:Hid (kz w0 p zm zs zg zw):=hx;have lC:Hid p.VR:=gR;obtain⟨cV,whole,ms,sv,gw,wh⟩:=p;obtain⟨⟨pm,cm,rfl,_,_⟩,⟨ps,cs,rfl,_,_⟩,⟨pg,cg,rfl,_,_⟩,⟨ph,ch,rfl,_,_⟩,_,_⟩:=hx;simp only at T9 Gz ⊢;generalize Pk.L ⟨cV,whole,ms,sv,gw,wh⟩=PL at *;have kA:=h.lt;obtain⟨W0,bN⟩:∃W0,W0=(w.alloc (By #[Ie (AI ⟨b,0,be⟩)] 289)).alloc (By #[Y cV,Ia whole,J pm ms.length cm,J ps sv.length cs,J pg gw.length cg,J ph wh.length ch] 53):=⟨_,rfl⟩;have bO:Below w.heap.size w W0:=by rw[bN];exact((Below.refl _ _).alloc (Ic _) _).alloc (by simp) _
 have tj:Hid (cY B b [] W0):=h.below bO;have xj:Hid (Kp B b w W0):=Kp.cj bO gW;have db:Hid (W0.heap[w.heap.size]?=AI (By #[Ie (AI ⟨b,0,be⟩)] 289 (0,0))):=by rw[bN,Below.heap_alloc _ _ _ (by simp)];exact heap_alloc_new w _
 have vR:W0.heap[w.heap.size+1]?=AI (By #[Y cV,Ia whole,J pm ms.length cm,J ps sv.length cs,J pg gw.length cg,J ph wh.length ch] 53 (0,0)):=by
  have h:=heap_alloc_new (w.alloc (By #[Ie (AI ⟨b,0,be⟩)] 289)) (By #[Y cV,Ia whole,J pm ms.length cm,J ps sv.length cs,J pg gw.length cg,J ph wh.length ch] 53);rw[bN];simpa using h
 have CY:Hid _:=vR;have CZ:Hid (([]:List Value).length<=0):=Ic _;have HT:Hid (mw B w):=hT;have AU:Hid (Below B w0 w):=pQ;clear h bO hT pQ gR vR;have Va:=lC.out.cV;simp only at Va;have HCM:Hid (∀W bs,Kp B b w W->cY B b bs W->bs.length+66000<=600000->W.heap[w.heap.size]?=AI (By #[Ie (AI ⟨b,0,be⟩)] 289 (0,0))->Calls AS 261 #[Ie (AI ⟨b,0,be⟩),J pm ms.length cm,IT (.func 262) #[] #[Ie (AI ⟨w.heap.size,0,be⟩)]] W λe w'=>e=AT (Ik #[])/\cY B b (bs++(bn ms.length++ms.flatMap dA)) w'/\Kp B b W w'):=λW bs hK hW hl mN=>
  iE B b w.heap.size ms _ bs w0 W hW Gz.out.ms hB (AU.out.trans hK.jH) (by have:=lC.out.ms.1;simp only at this;omega) (by have:=lC.out.ms.1;simp only at this;omega) (Ir gW hK.size) (HT.out.below hK.jH) mN (by omega) lC.out.ms.2
 have ada:Hid ((bn ms.length++ms.flatMap dA).length<=21+3300*20):=by
  have g1:=dN ms lC.out.ms.2;have g2:=dJ (cW (n:=ms.length) (by have:=lC.out.ms.1;simp only at this;omega));have g3:=lC.out.ms.1;simp only at g3;show(bn ms.length++ms.flatMap dA).length<=21+3300*20;rw[Ig];have g4:3300*ms.length<=3300*20:=QX _ g3;omega
 generalize(bn ms.length++ms.flatMap dA)=EM at *;have HCS:Hid (∀W bs,Kp B b w W->cY B b bs W->bs.length+352000<=600000->W.heap[w.heap.size]?=AI (By #[Ie (AI ⟨b,0,be⟩)] 289 (0,0))->Calls AS 264 #[Ie (AI ⟨b,0,be⟩),J ps sv.length cs,IT (.func 265) #[] #[Ie (AI ⟨w.heap.size,0,be⟩)]] W λe w'=>e=AT (Ik #[])/\cY B b (bs++(bn sv.length++sv.flatMap Sv.dA)) w'/\Kp B b W w'):=λW bs hK hW hl mN=>
  Sv.iE B b w.heap.size sv _ bs w0 W hW Gz.out.sv hB (AU.out.trans hK.jH) (by have:=lC.out.sv.1;simp only at this;omega) (by have:=lC.out.sv.1;simp only at this;omega) (Ir gW hK.size) (HT.out.below hK.jH) mN (by omega) lC.out.sv.2
 have ade:Hid ((bn sv.length++sv.flatMap Sv.dA).length<=21+8800*40):=by
  have g1:=Sv.dN sv lC.out.sv.2;have g2:=dJ (cW (n:=sv.length) (by have:=lC.out.sv.1;simp only at this;omega));have g3:=lC.out.sv.1;simp only at g3;show(bn sv.length++sv.flatMap Sv.dA).length<=21+8800*40;rw[Ig];have g4:8800*sv.length<=8800*40:=QX _ g3;omega
 generalize(bn sv.length++sv.flatMap Sv.dA)=ES at *;have HCG:Hid (∀W bs,Kp B b w W->cY B b bs W->bs.length+13200<=600000->W.heap[w.heap.size]?=AI (By #[Ie (AI ⟨b,0,be⟩)] 289 (0,0))->Calls AS 266 #[Ie (AI ⟨b,0,be⟩),J pg gw.length cg,IT (.func 267) #[] #[Ie (AI ⟨w.heap.size,0,be⟩)]] W λe w'=>e=AT (Ik #[])/\cY B b (bs++(bn gw.length++gw.flatMap Gw.dA)) w'/\Kp B b W w'):=λW bs hK hW hl mN=>
  Gw.iE B b w.heap.size gw _ bs w0 W hW Gz.out.gw hB (AU.out.trans hK.jH) (by have:=lC.out.gw.1;simp only at this;omega) (by have:=lC.out.gw.1;simp only at this;omega) (Ir gW hK.size) (HT.out.below hK.jH) mN (by omega) lC.out.gw.2
 have adf:Hid ((bn gw.length++gw.flatMap Gw.dA).length<=21+2200*6):=by
  have g1:=Gw.dN gw lC.out.gw.2;have g2:=dJ (cW (n:=gw.length) (by have:=lC.out.gw.1;simp only at this;omega));have g3:=lC.out.gw.1;simp only at g3;show(bn gw.length++gw.flatMap Gw.dA).length<=21+2200*6;rw[Ig];have g4:2200*gw.length<=2200*6:=QX _ g3;omega
 generalize(bn gw.length++gw.flatMap Gw.dA)=EG at *;have HCW:Hid (∀W bs,Kp B b w W->cY B b bs W->bs.length+44000<=600000->W.heap[w.heap.size]?=AI (By #[Ie (AI ⟨b,0,be⟩)] 289 (0,0))->Calls AS 268 #[Ie (AI ⟨b,0,be⟩),J ph wh.length ch,IT (.func 269) #[] #[Ie (AI ⟨w.heap.size,0,be⟩)]] W λe w'=>e=AT (Ik #[])/\cY B b (bs++(bn wh.length++wh.flatMap Wh.dA)) w'/\Kp B b W w'):=λW bs hK hW hl mN=>
  Wh.iE B b w.heap.size wh _ bs w0 W hW Gz.out.wh hB (AU.out.trans hK.jH) (by have:=lC.out.wh.1;simp only at this;omega) (by have:=lC.out.wh.1;simp only at this;omega) (Ir gW hK.size) (HT.out.below hK.jH) mN (by omega) lC.out.wh.2
 have adg:Hid ((bn wh.length++wh.flatMap Wh.dA).length<=21+2200*20):=by
  have g1:=Wh.dN wh lC.out.wh.2;have g2:=dJ (cW (n:=wh.length) (by have:=lC.out.wh.1;simp only at this;omega));have g3:=lC.out.wh.1;simp only at g3;show(bn wh.length++wh.flatMap Wh.dA).length<=21+2200*20;rw[Ig];have g4:2200*wh.length<=2200*20:=QX _ g3;omega
 generalize(bn wh.length++wh.flatMap Wh.dA)=EW at *;clear lC Gz AU;generalize ms.length=nm at *;generalize sv.length=ns at *;generalize gw.length=ng at *;generalize wh.length=nh at *;go_enter Tryz.func231,Tryz.ntmps231;go_upto_region 1 with fail
 rw[<- bN];clear bN;have y0:W0.cell? ⟨w.heap.size,0,be⟩=AI (Ie (AI ⟨b,0,be⟩)):=ae db.out 0;have z0:W0.cell? ⟨w.heap.size+1,0,be⟩=AI (Y cV):=ae CY.out 0;go_wp2_with fail;refine(gG B b cV ([]) W0 tj.out (by have:=CZ.out;omega) (Ir gW xj.out.size) (HT.out.below xj.out.jH)).mono ?_;rintro e W1 ⟨rfl,hw,hk⟩;have oE:Hid (cY B b ([]++aZ cV) W1):=hw;have lD:Hid (Kp B b w W1):=xj.out.trans hk;have ky:Hid (W1.heap[w.heap.size+1]?=AI (By #[Y cV,Ia whole,J pm nm cm,J ps ns cs,J pg ng cg,J ph nh ch] 53 (0,0))):=hk.keeps CY.out (by omega) (by decide);have ba:Hid (W1.heap[w.heap.size]?=AI (By #[Ie (AI ⟨b,0,be⟩)] 289 (0,0))):=hk.keeps db.out (by omega) (by decide);have vS:Hid (([]++aZ cV).length<=1100):=by
  have g1:=CZ.out;have g2:=dK Va;show Jt ([]++aZ cV)<=_;rw[Ig];omega
 clear hw hk y0 z0;have y0:W1.cell? ⟨w.heap.size,0,be⟩=AI (Ie (AI ⟨b,0,be⟩)):=ae ba.out 0;have z0:=ae ky.out 1;go_wp2_with fail;refine(nI B b whole ([]++aZ cV) W1 oE.out (by have:=vS.out;omega) (Ir gW lD.out.size) (HT.out.below lD.out.jH)).mono ?_;rintro e W2 ⟨rfl,hw,hk⟩;have Ea:Hid (cY _ _ _ _):=hw;have pM:Hid _:=lD.out.trans hk;have Bj:Hid _:=hk.keeps ky.out (by omega) (by decide);have bu:Hid _:=hk.keeps ba.out (by omega) (by decide);have vi:Hid (([]++aZ cV++eO whole).length<=2200):=by
  have g1:=vS.out;have g2:=ja whole;show Jt ([]++aZ cV++eO whole)<=_;rw[Ig];omega
 clear hw hk y0 z0;have y0:=ae bu.out 0;have z0:=ae Bj.out 2;go_wp2_with fail;refine(HCM.out W2 ([]++aZ cV++eO whole) pM.out Ea.out (by have:=vi.out;omega) bu.out).mono ?_;rintro e W3 ⟨rfl,hw,hk⟩;have zn:Hid (cY _ _ _ _):=hw;have uL:Hid _:=pM.out.trans hk;have Vb:Hid _:=hk.keeps Bj.out (by omega) (by decide);have cJ:Hid _:=hk.keeps bu.out (by omega) (by decide);have Vc:Hid (([]++aZ cV++eO whole++EM).length<=68221):=by
  have g1:=vi.out;have g2:=ada.out;show Jt ([]++aZ cV++eO whole++EM)<=_;rw[Ig];omega
 clear hw hk y0 z0;have y0:=ae cJ.out 0;have z0:=ae Vb.out 3;go_wp2_with fail;refine(HCS.out W3 ([]++aZ cV++eO whole++EM) uL.out zn.out (by have:=Vc.out;omega) cJ.out).mono ?_;rintro e W4 ⟨rfl,hw,hk⟩;have HW4:Hid (cY _ _ _ _):=hw;have Eb:Hid _:=uL.out.trans hk;have Vd:Hid _:=hk.keeps Vb.out (by omega) (by decide);have fO:Hid _:=hk.keeps cJ.out (by omega) (by decide);have RQ:Hid (([]++aZ cV++eO whole++EM++ES).length<=420242):=by
  have g1:=Vc.out;have g2:=ade.out;show Jt ([]++aZ cV++eO whole++EM++ES)<=_;rw[Ig];omega
 clear hw hk y0 z0;have y0:=ae fO.out 0;have z0:=ae Vd.out 4;go_wp2_with fail;refine(HCG.out W4 ([]++aZ cV++eO whole++EM++ES) Eb.out HW4.out (by have:=RQ.out;omega) fO.out).mono ?_;rintro e W5 ⟨rfl,hw,hk⟩;have PH:Hid (cY _ _ _ _):=hw;have zp:Hid _:=Eb.out.trans hk;have VS:Hid _:=hk.keeps Vd.out (by omega) (by decide);have iy:Hid _:=hk.keeps fO.out (by omega) (by decide);have VT:Hid (([]++aZ cV++eO whole++EM++ES++EG).length<=433463):=by
  have g1:=RQ.out;have g2:=adf.out;show Jt ([]++aZ cV++eO whole++EM++ES++EG)<=_;rw[Ig];omega
 clear hw hk y0 z0;have y0:=ae iy.out 0;have z0:=ae VS.out 5;go_wp2_with fail;refine(HCW.out W5 ([]++aZ cV++eO whole++EM++ES++EG) zp.out PH.out (by have:=VT.out;omega) iy.out).mono ?_;rintro e W6 ⟨rfl,hw,hk⟩;have HW6:Hid (cY _ _ _ _):=hw;have MF:Hid _:=zp.out.trans hk;have HX6:Hid _:=hk.keeps VS.out (by omega) (by decide);have pD:Hid _:=hk.keeps iy.out (by omega) (by decide);have HL6:Hid (([]++aZ cV++eO whole++EM++ES++EG++EW).length<=477484):=by
  have g1:=VT.out;have g2:=adg.out;show Jt ([]++aZ cV++eO whole++EM++ES++EG++EW)<=_;rw[Ig];omega
 clear hw hk y0 z0;have si:Hid (cY B b PL W6):=by
  have h:=HW6.out;rw[T9.out];simp only[List.append_assoc,List.nil_append] at h ⊢;exact h
 go_wp2_with fail;simp[bodyPost,results,Tryz.results231];exact⟨si.out,MF.out⟩
def fM(l:List UInt8):ByteArray:=⟨l.toArray⟩
theorem jI(l:List UInt8):(fM l).size=l.length:=by simp[fM,ByteArray.size]
end Go.Proofs.YtfidhgjmifendaaGreatDoor
namespace Go.Proofs
open Go.Shelf
def Tryz.xk:Go.Shelf.Ren:=⟨fun|172=>220|244=>253|245=>254|247=>277|279=>278|280=>279|281=>280|282=>281|287=>294|316=>251|171=>221|205=>295|321=>304|322=>305|243=>255|246=>282|283=>296|284=>297|285=>298|286=>299|129=>124|317=>306|318=>307|319=>308|320=>309|337=>311|338=>312|n=>n,fun|9=>9|3=>3|75=>253|76=>254|4=>4|5=>5|167=>306|37=>266|0=>0|85=>307|2=>2|168=>309|53=>167|175=>319|46=>129|210=>322|127=>301|145=>334|143=>332|21=>21|171=>324|173=>326|212=>336|51=>165|20=>20|213=>337|232=>340|233=>341|80=>210|n=>n,fun|15=>1|16=>2|17=>3|18=>4|19=>5|n=>n⟩
theorem Tryz.Hf:Go.Proofs.LaysC.n172 AS Tryz.xk:={
 mixed:=by kernel_rfl
 f129:=Tryz.func124.trans (congrArg AI (by kernel_rfl))
 f171:=Tryz.func221.trans (congrArg AI (by kernel_rfl))
 f172:=Tryz.func220.trans (congrArg AI (by kernel_rfl))
 f205:=Tryz.func295.trans (congrArg AI (by kernel_rfl))
 f243:=Tryz.func255.trans (congrArg AI (by kernel_rfl))
 f244:=Tryz.func253.trans (congrArg AI (by kernel_rfl))
 f245:=Tryz.func254.trans (congrArg AI (by kernel_rfl))
 f246:=Tryz.func282.trans (congrArg AI (by kernel_rfl))
 f247:=Tryz.func277.trans (congrArg AI (by kernel_rfl))
 f279:=Tryz.func278.trans (congrArg AI (by kernel_rfl))
 f280:=Tryz.func279.trans (congrArg AI (by kernel_rfl))
 f281:=Tryz.func280.trans (congrArg AI (by kernel_rfl))
 f282:=Tryz.func281.trans (congrArg AI (by kernel_rfl))
 f283:=Tryz.func296.trans (congrArg AI (by kernel_rfl))
 f284:=Tryz.func297.trans (congrArg AI (by kernel_rfl))
 f285:=Tryz.func298.trans (congrArg AI (by kernel_rfl))
 f286:=Tryz.func299.trans (congrArg AI (by kernel_rfl))
 f287:=Tryz.func294.trans (congrArg AI (by kernel_rfl))
 f316:=Tryz.func251.trans (congrArg AI (by kernel_rfl))
 f317:=Tryz.func306.trans (congrArg AI (by kernel_rfl))
 f318:=Tryz.func307.trans (congrArg AI (by kernel_rfl))
 f319:=Tryz.func308.trans (congrArg AI (by kernel_rfl))
 f320:=Tryz.func309.trans (congrArg AI (by kernel_rfl))
 f321:=Tryz.func304.trans (congrArg AI (by kernel_rfl))
 f322:=Tryz.func305.trans (congrArg AI (by kernel_rfl))
 f337:=Tryz.func311.trans (congrArg AI (by kernel_rfl))
 f338:=Tryz.func312.trans (congrArg AI (by kernel_rfl))
 t0:=Tryz.underlying0
 a0:=Tryz.isAgg0
 z0:=Tryz.sizeOf0
 v0:=Tryz.zeroValue0
 t2:=Tryz.underlying2
 a2:=Tryz.isAgg2
 z2:=Tryz.sizeOf2
 v2:=Tryz.zeroValue2
 t3:=Tryz.underlying3
 a3:=Tryz.isAgg3
 z3:=Tryz.sizeOf3
 v3:=Tryz.zeroValue3
 t4:=Tryz.underlying4
 a4:=Tryz.isAgg4
 z4:=Tryz.sizeOf4
 v4:=Tryz.zeroValue4
 t5:=Tryz.underlying5
 a5:=Tryz.isAgg5
 z5:=Tryz.sizeOf5
 v5:=Tryz.zeroValue5
 t9:=Tryz.underlying9
 a9:=Tryz.isAgg9
 z9:=Tryz.sizeOf9
 v9:=Tryz.zeroValue9
 t20:=Tryz.underlying20
 a20:=Tryz.isAgg20
 z20:=Tryz.sizeOf20
 v20:=Tryz.zeroValue20
 t21:=Tryz.underlying21
 a21:=Tryz.isAgg21
 z21:=Tryz.sizeOf21
 v21:=Tryz.zeroValue21
 t37:=Tryz.underlying266
 a37:=Tryz.isAgg266
 z37:=Tryz.sizeOf266
 v37:=Tryz.zeroValue266
 t46:=Tryz.underlying129
 a46:=Tryz.isAgg129
 z46:=Tryz.sizeOf129
 v46:=Tryz.zeroValue129
 t51:=Tryz.underlying165
 a51:=Tryz.isAgg165
 z51:=Tryz.sizeOf165
 v51:=Tryz.zeroValue165
 t53:=Tryz.underlying167
 a53:=Tryz.isAgg167
 z53:=Tryz.sizeOf167
 v53:=Tryz.zeroValue167
 t75:=Tryz.underlying253
 a75:=Tryz.isAgg253
 z75:=Tryz.sizeOf253
 v75:=Tryz.zeroValue253
 t76:=Tryz.underlying254
 a76:=Tryz.isAgg254
 z76:=Tryz.sizeOf254
 v76:=Tryz.zeroValue254
 t85:=Tryz.underlying307
 a85:=Tryz.isAgg307
 z85:=Tryz.sizeOf307
 v85:=Tryz.zeroValue307
 t127:=Tryz.underlying301
 a127:=Tryz.isAgg301
 z127:=Tryz.sizeOf301
 v127:=Tryz.zeroValue301
 t143:=Tryz.underlying332
 a143:=Tryz.isAgg332
 z143:=Tryz.sizeOf332
 v143:=Tryz.zeroValue332
 t145:=Tryz.underlying334
 a145:=Tryz.isAgg334
 z145:=Tryz.sizeOf334
 v145:=Tryz.zeroValue334
 t167:=Tryz.underlying306
 a167:=Tryz.isAgg306
 z167:=Tryz.sizeOf306
 v167:=Tryz.zeroValue306
 t168:=Tryz.underlying309
 a168:=Tryz.isAgg309
 z168:=Tryz.sizeOf309
 v168:=Tryz.zeroValue309
 t171:=Tryz.underlying324
 a171:=Tryz.isAgg324
 z171:=Tryz.sizeOf324
 v171:=Tryz.zeroValue324
 t173:=Tryz.underlying326
 a173:=Tryz.isAgg326
 z173:=Tryz.sizeOf326
 v173:=Tryz.zeroValue326
 t175:=Tryz.underlying319
 a175:=Tryz.isAgg319
 z175:=Tryz.sizeOf319
 v175:=Tryz.zeroValue319
 t210:=Tryz.underlying322
 a210:=Tryz.isAgg322
 z210:=Tryz.sizeOf322
 v210:=Tryz.zeroValue322
 t212:=Tryz.underlying336
 a212:=Tryz.isAgg336
 z212:=Tryz.sizeOf336
 v212:=Tryz.zeroValue336
 t213:=Tryz.underlying337
 a213:=Tryz.isAgg337
 z213:=Tryz.sizeOf337
 t232:=Tryz.underlying340
 a232:=Tryz.isAgg340
 z232:=Tryz.sizeOf340
 v232:=Tryz.zeroValue340
 t233:=Tryz.underlying341
 a233:=Tryz.isAgg341
 z233:=Tryz.sizeOf341
 v233:=Tryz.zeroValue341
 g15:=by kernel_rfl
 g16:=by kernel_rfl
 g17:=by kernel_rfl
 g18:=by kernel_rfl
 g19:=by kernel_rfl
 t80:=Tryz.underlying210
 a80:=Tryz.isAgg210
 z80:=Tryz.sizeOf210
 v80:=Tryz.zeroValue210
 i0:=by kernel_rfl
 i2:=by kernel_rfl
 i3:=by kernel_rfl
 i4:=by kernel_rfl
 i5:=by kernel_rfl
 i9:=by kernel_rfl
 i20:=by kernel_rfl
 i21:=by kernel_rfl
 i37:=by kernel_rfl
 i46:=by kernel_rfl
 i51:=by kernel_rfl
 i53:=by kernel_rfl
 i75:=by kernel_rfl
 i76:=by kernel_rfl
 i80:=by kernel_rfl
 i85:=by kernel_rfl
 i127:=by kernel_rfl
 i143:=by kernel_rfl
 i145:=by kernel_rfl
 i167:=by kernel_rfl
 i168:=by kernel_rfl
 i171:=by kernel_rfl
 i173:=by kernel_rfl
 i175:=by kernel_rfl
 i210:=by kernel_rfl
 i212:=by kernel_rfl
 i232:=by kernel_rfl
 i233:=by kernel_rfl
 m15:=by kernel_rfl
 m16:=by kernel_rfl
 m17:=by kernel_rfl
 m18:=by kernel_rfl
 m19:=by kernel_rfl
 c0:=by kernel_rfl
 c2:=by kernel_rfl
 c3:=by kernel_rfl
 c4:=by kernel_rfl
 c5:=by kernel_rfl
 c9:=by kernel_rfl
 c20:=by kernel_rfl
 c21:=by kernel_rfl
 c37:=by kernel_rfl
 c46:=by kernel_rfl
 c51:=by kernel_rfl
 c53:=by kernel_rfl
 c75:=by kernel_rfl
 c76:=by kernel_rfl
 c80:=by kernel_rfl
 c85:=by kernel_rfl
 c127:=by kernel_rfl
 c143:=by kernel_rfl
 c145:=by kernel_rfl
 c167:=by kernel_rfl
 c168:=by kernel_rfl
 c171:=by kernel_rfl
 c173:=by kernel_rfl
 c175:=by kernel_rfl
 c210:=by kernel_rfl
 c212:=by kernel_rfl
 c213:=by kernel_rfl
 c232:=by kernel_rfl
 c233:=by kernel_rfl }
open Go.RowKit in
theorem Tryz.strconv_Atoi_ok(s:ByteArray)(adl:s.size<=9223372036854775806)(v:Int)(h:Lib.atoiAll s.data.toList=.ok v)(w:World) :
 Calls AS 220 #[Y s] w λe w'=>e=AT (Ik #[U .i64 v,.nilIface])/\(w'=w\/∃t,w'=Lib.bytesWorld w 5 t):=Any.strconv_Atoi_ok Tryz.Hf s adl v h w
end Go.Proofs
namespace Go.Proofs.YtfidhgjmifendaaGreatDoor
open Go.RowKit
theorem C5(c:UInt8):∀{l:List UInt8} {i:Nat},Je l c=(i:Int)->i<l.length
 |[],i,h=>by unfold Je at h;omega
 |x::r,i,h=>by
  unfold Je at h;split at h
  .simp;omega
  .split at h
   .omega
   .rename_i h2
    have hg:=QT r c
    obtain⟨j,rfl⟩:∃j,i=j+1:=⟨i-1,by have:Je r c ≠ -1:=by simpa using h2
                                    omega⟩
    have:=C5 c (l:=r) (i:=j) (by omega);simp;omega
theorem kZ(l:List UInt8):(fM l).data.toList=l:=by simp[fM]
theorem C8(s:ByteArray):fM s.data.toList=s:=rfl
theorem C9(l:List UInt8)(i:Nat):(fM l).extract 0 i=fM (l.take i):=by
 rw[<- C8 ((fM l).extract 0 i),Lib.extract_from_zero,kZ]
theorem vT(l:List UInt8)(i:Nat):(fM l).extract i (fM l).size=fM (l.drop i):=by
 rw[<- C8 ((fM l).extract i (fM l).size),Lib.extract_to_end,kZ]
theorem below_drewN{B:Nat}{w w1:World}(h:Below B w w1)(m:Nat):Below B w (w1.drewN m):=⟨h.os,h.tape,h.output,h.size,h.block⟩
theorem Bk(s:ByteArray)(i:Nat)(w:World)(h:Je s.data.toList 59=(i:Int))(hs:s.size<=140737488355328) :
 aI 252 #[Y s,Y ⟨#[59]⟩] w λe w'=>e=AT (Ik #[Y (s.extract 0 i),Y (s.extract (i+1) s.size),Ia true])/\∃n,w'=w.drewN n:=by
 have hi:i<s.size:=by have:=C5 59 h;simpa using this
 have h0:((i:Int)).toNat=i:=by omega
 have h1:IntKind.i64.wrap ((i:Int)+1)=((i+1:Nat):Int):=by rw[IntKind.wrap_i64];omega
 have h2:(((i+1:Nat):Int)).toNat=i+1:=by omega
 have h3:((s.size:Int)).toNat=s.size:=by omega
 go_enter Tryz.func252,Tryz.ntmps252;go_wp2_with (go_at_call 276;refine(Tryz.stringslite_Index_one s 59 _).mono ?_;rintro e w' ⟨rfl,rfl⟩;rw[h]);go_quiet (fail)
 go_wp2_with fail;go_ret3
 exact⟨rfl,⟨_,rfl⟩⟩
theorem Ec(l:List UInt8)(i:Nat)(w:World)(h:Je l 59=(i:Int))(hs:l.length<=140737488355328) :
 kL 219 #[Y (fM l),Y ⟨#[59]⟩] w (Ik #[Y (fM (l.take i)),Y (fM (l.drop (i+1))),Ia true]):=by
 have h':Je (fM l).data.toList 59=i:=by rw[kZ];exact h
 have hs':(fM l).size<=140737488355328:=by rw[jI];exact hs
 rw[<- C9,<- vT];generalize fM l=s at *;go_enter Tryz.func219,Tryz.ntmps219;go_wp2_with (go_at_call 252;refine(Bk s i _ h' hs').mono ?_;rintro e w' ⟨rfl,n,rfl⟩);go_ret3
 exact⟨rfl,below_drewN (Below.refl _ _) _⟩
def Er(w:World):Prop:=∃a b p q,w.cell? ⟨1,0,be⟩=AI (.iface a p)/\w.cell? ⟨2,0,be⟩=AI (.iface b q)
theorem Er.below{B:Nat}{w w':World}(h:Er w)(hb:Below B w w')(h1:1<B)(h2:2<B):Er w':=by
 obtain⟨a,b,p,q,e1,e2⟩:=h;exact⟨a,b,p,q,(hb.cell (p:=⟨1,0,be⟩) h1).trans e1,(hb.cell (p:=⟨2,0,be⟩) h2).trans e2⟩
theorem MG(l:List UInt8)(v:Int)(w:World)(hs:l.length<=140737488355328)(h:Lib.atoiAll l=.ok v) :
 kL 220 #[Y (fM l)] w (Ik #[U .i64 v,.nilIface]):=by
 refine(Tryz.strconv_Atoi_ok (fM l) (by rw[jI];omega) v (by rw[kZ];exact h) w).mono ?_;rintro e w' ⟨rfl,rfl|⟨t,rfl⟩⟩
 .exact⟨rfl,Below.refl _ _⟩
 .exact⟨rfl,Lib.bytesWorld_below _ _ _⟩
def mP(l:List UInt8):Option (Int×List UInt8):=
 if Je l 59 = -1 then be
 else match Lib.atoiAll (l.take (Je l 59).toNat) with
  | .ok n=>if Qt n=l.take (Je l 59).toNat then AI (n,l.drop ((Je l 59).toNat+1)) else be
  |_=>be
structure kF(g:Nat)(l:List UInt8)(w:World):Prop where
 c0:w.cell? ⟨g,0,be⟩=AI (Y (fM l))
 hz:w.frozen? ⟨g,0,be⟩=false
 hg:g<w.heap.size
structure Rp(g:Nat)(w w':World):Prop where
 os:w'.os=w.os
 tape:w'.tape=w.tape
 output:w'.output=w.output
 size:w.heap.size<=w'.heap.size
 block:∀k:Nat,k<w.heap.size->k≠g->w'.heap[k]?=w.heap[k]?
theorem Rp.refl(g:Nat)(w:World):Rp g w w:=⟨rfl,rfl,rfl,Ic _,λ_ _ _=>rfl⟩
theorem Rp.trans{g:Nat}{w w1 w2:World}(h:Rp g w w1)(h2:Rp g w1 w2):Rp g w w2:=
 ⟨h2.os.trans h.os,h2.tape.trans h.tape,h2.output.trans h.output,Ir h.size h2.size,λk hk hg=>(h2.block k (IL hk h.size) hg).trans (h.block k hk hg)⟩
theorem Rp.below{g B:Nat}{w w':World}(h:Rp g w w')(hb:B<=g)(hB:B<=w.heap.size):Below B w w':=
 ⟨h.os,h.tape,h.output,h.size,λk hk=>h.block k (by omega) (by omega)⟩
theorem Rp.cj{g B:Nat}{w w':World}(h:Below B w w')(hb:w.heap.size<=B):Rp g w w':=
 ⟨h.os,h.tape,h.output,h.size,λk hk _=>h.block k (by omega)⟩
theorem Rp.set(g:Nat)(w:World)(v:Value):Rp g w (w.setCell ⟨g,0,be⟩ v):=
 ⟨rfl,rfl,rfl,by simp,λk _ hg=>Below.heap_setCell w _ _ k hg⟩
theorem kF.below{g:Nat}{l:List UInt8}{w w':World}(h:kF g l w)(hx:Below w.heap.size w w'):kF g l w' where
 c0:=(hx.cell (p:=⟨g,0,be⟩) h.hg).trans h.c0
 hz:=by have:=h.hz;simp only[World.frozen?,hx.block g h.hg] at this ⊢;exact this
 hg:=IL h.hg hx.size
theorem Ed(g B:Nat)(l r:List UInt8)(n:Int)(w:World)(h:kF g l w)(hs:l.length<=140737488355328)(hl:mP l=AI (n,r))(hT:mw B w)(hB:B<=w.heap.size) :
 aI 183 #[Ie (AI ⟨g,0,be⟩)] w λe w'=>e=AT (U .i64 n)/\kF g r w'/\Rp g w w':=by
 unfold mP at hl;split at hl
 .simp at hl
 rename_i aQ;obtain⟨i,hi⟩:∃i:Nat,Je l 59=(i:Int):=⟨(Je l 59).toNat,by have:=QT l 59;omega⟩;have aX:=C5 59 hi;rw[hi] at hl;simp only[Int.toNat_natCast] at hl;split at hl
 case h_2=>simp at hl
 rename_i m hm;split at hl
 case isFalse=>simp at hl
 rename_i hd;simp only[Option.some.injEq,Prod.mk.injEq] at hl;obtain⟨rfl,rfl⟩:=hl;have adm:=Lib.atoiAll_bounds hm;have HC:Hid (aI _ _ _ _):=Ec l i w hi hs;have HA:Hid (∀W,aI _ _ _ _):=λW=>MG _ m W (by rw[List.length_take];omega) hm;have HI:Hid (∀W,Below w.heap.size w W->kL 221 #[U .i64 m] W (Y (fM (l.take i)))):=λW hW=>by
  have:=zq m B W adm (hT.below (hW.mono hB));rw[show mA m=fM (l.take i) by rw[<- hd];rfl] at this;exact this
 have HP:Hid _:=h;have hc:=h.c0;clear h hT hd hm hi aQ aX hs;generalize fM (l.take i)=D at *;have HR:Hid (∃R,R=fM (l.drop (i+1))):=⟨_,rfl⟩;go_enter Tryz.func183,Tryz.ntmps183;go_wp2_with fail;refine HC.out.mono ?_;rintro e w1 ⟨rfl,aB⟩;have ba:Hid _:=aB;clear aB;go_wp2_with fail;refine(HA.out w1).mono ?_;rintro e w2 ⟨rfl,aK⟩;have bu:Hid _:=ba.out.trans (aK.mono ba.out.size);clear aK;go_wp2_with fail;refine(HI.out w2 bu.out).mono ?_;rintro e w3 ⟨rfl,bX⟩;have cJ:Hid _:=bu.out.trans (bX.mono bu.out.size);clear bX;have hP3:=HP.out.below cJ.out;obtain⟨c3,z3,g3⟩:=hP3;clear hc;go_wp2_with (go_at_call 118;refine(jB _ _).mono ?_;rintro e w' ⟨rfl,rfl⟩);go_ret;refine⟨rfl,⟨World.cell?_setCell_same _ _ _ c3,by simpa using z3,by simpa using g3⟩,(Rp.cj cJ.out (Ic _)).trans (Rp.set g _ _)⟩
theorem Tryz.cellsByte:Tryz.prog.cellsOf 5=1:=by kernel_rfl
theorem Bl(B b:Nat)(l:List UInt8)(w:World)(h:cY B b (Jp l) w)(h0:l≠[]) :
 aI 232 #[Ie (AI ⟨b,0,be⟩)] w λe w'=>e=AT (Y ⟨l.toArray⟩)/\Below B w w':=by
 obtain⟨p,hB,v,CU,hown,aQ⟩:∃p,Mb B b p (Jp l) w:=by
  rcases h with h|h
  .exact⟨_,h⟩
  .exact⟨_,h⟩
 have PI:l.length≠0:=by simpa using h0
 rw[Lib.byteCells_length] at hown;obtain⟨g,cap,cur,rfl,eD,hg,fP,dR,cf,bj⟩:∃g cap cur,v=J (AI ⟨g,0,be⟩) l.length cap/\B<=g/\w.heap[g]?=AI (By cur 5 (0,0))/\l.length<=cap/\cap<=maxLen/\cur.size=cap*1/\cur.toList.take (l.length*1)=Jp l:=by
  rcases hown.2 with⟨_,hz⟩|⟨g,cap,cur,hv,r⟩
  .exact absurd hz PI
  .exact⟨g,cap,cur,hv,r⟩
 have c1:w.drew.cell? ⟨b,1,be⟩=AI (J (AI ⟨g,0,be⟩) l.length cap):=by
  have:w.drew.heap[b]?=AI (By #[p,J (AI ⟨g,0,be⟩) l.length cap] 270 (0,0)):=CU
  rw[Lib.cell_of_heap this];rfl
 have hSD:(Builtin.unsafeSliceData_ #[266] 301 #[J (AI ⟨g,0,be⟩) l.length cap]).run AS w.drew=.ok (Ie (AI ⟨g,0,be⟩)) w.drew:=
  Lib.run_unsafeSliceData_row _ _ _ _ _ _ (by omega)
 have hUS:(Builtin.unsafeString_ #[301,3] 9 #[Ie (AI ⟨g,0,be⟩),U .i64 l.length]).run AS w.drew=.ok (Y ⟨l.toArray⟩) (w.drew.freeze ⟨g,0,be⟩ l.length):=by
  refine Lib.run_unsafeString_row w.drew 301 3 9 5 Tryz.underlying301 Tryz.cellsByte g cur.size (by have vj:w.drew.heap[g]?=AI (By cur 5 (0,0)):=hg;simp[World.shape?,vj]) l h0 (by omega) (by unfold maxLen at dR;omega) ?_;intro j x hx;have:=hown.cells (g:=g) rfl j (U .u8 x.toNat) (by simp[Jp,hx]);exact this
 have mixed:Tryz.prog.follows .mixedOrders=true:=by kernel_rfl
 go_enter Tryz.func232,Tryz.ntmps232;go_wp2_with fail;go_region_o
 all_goals (go_wp2;go_ret;exact⟨rfl,Lib.below_freeze (Below.drew (Below.refl B w)) (p:=⟨g,0,be⟩) eD _⟩)
theorem jb{s:ByteArray}(h:bc s=true):s.size<=1000:=by
 unfold bc at h;simp only[IF,decide_eq_true_eq] at h;have:=h.1.2;omega
theorem Hi{s:ByteArray}(h:Sv.lU s=true):s.size<=1000:=by
 unfold Sv.lU at h;rw[Bool.or_eq_true,decide_eq_true_eq] at h;rcases h with rfl|h
 .show 0<=1000;omega
 .exact jb h
theorem gH{n a b:Int}(h:within n a b=true)(ha : -9223372036854775808<=a)(hb:b<=9223372036854775807):fU n:=by
 unfold within at h;rw[IF,decide_eq_true_eq,decide_eq_true_eq] at h;exact⟨by omega,by omega⟩
theorem VU{m:Mem}(h:m.e=0):kE m:=by
 unfold Mem.e vo at h;split at h
 .rename_i h1
  split at h
  .rename_i h2
   split at h
   .rename_i h3
    split at h
    .rename_i h4
     exact⟨jb h1,gH h2 (by omega) (by omega),gH h3 (by omega) (by omega),gH h4 (by omega) (by omega)⟩
    .cases h
   .cases h
  .cases h
 .cases h
theorem adn{m:Sv.aY}(h:m.e=0):Sv.kE m:=by
 unfold Sv.aY.e at h;split at h
 .rename_i h1
  split at h
  .rename_i h2
   simp only[IF] at h1 h2;exact⟨jb h1.1,jb h1.2.1,jb h1.2.2.1,Hi h1.2.2.2,gH h2.1 (by omega) (by omega),gH h2.2.1 (by omega) (by omega),gH h2.2.2 (by omega) (by omega)⟩
  .cases h
 .cases h
theorem ado{m:Gw.bL}(h:m.e=0):Gw.kE m:=by
 unfold Gw.bL.e at h;split at h
 .rename_i h1
  split at h
  .rename_i h2
   split at h
   .rename_i h3
    exact⟨jb h1,gH h2 (by omega) (by omega),gH h3 (by omega) (by omega)⟩
   .cases h
  .cases h
 .cases h
theorem adp{m:Wh.bK}(h:m.e=0):Wh.kE m:=by
 unfold Wh.bK.e at h;split at h
 .rename_i h1
  obtain⟨a0,a1,a2,a3,a4,a5,a6,a7,a8,a9⟩:=(nJ _).1 h;simp only at a0 a1 a2 a3 a4 a5 a6 a7 a8 a9;exact⟨jb h1,⟨by omega,by omega⟩,⟨by omega,by omega⟩,⟨by omega,by omega⟩,⟨by omega,by omega⟩,⟨by omega,by omega⟩⟩
 .cases h
theorem Bm{ms:List Mem}(h:bl ms=0):aU ms=0:=(af h).2.2
theorem oG{p:Pk}(h:p.e=0):p.VR:=by
 unfold Pk.e at h;split at h
 .rename_i h0
  rw[IF] at h0;split at h
  .rename_i h1
   have hm:p.ms.length<=20/\∀m∈p.ms,kE m:=by
    unfold Pk.mE at h1;split at h1
    .exact⟨(af h1).1,λm hm=>VU (bf _ (Bm h1) m hm)⟩
    .obtain⟨a,b,_⟩:=vU h1
     exact⟨by omega,λm hm=>VU (bf _ b m hm)⟩
   split at h
   .rename_i h2
    split at h
    .rename_i h3
     exact⟨jb h0.1,hm,⟨(Sv.af h2).1,λm hm=>adn (Sv.bf _ (Sv.af h2).2.2 m hm)⟩,⟨(Gw.af h3).1,λm hm=>ado (Gw.bf _ (Gw.af h3).2.2 m hm)⟩,⟨(Wh.af h).1,λm hm=>adp (Wh.bf _ (Wh.af h).2.2 m hm)⟩⟩
    .rename_i h3;exact absurd h h3
   .rename_i h2;exact absurd h h2
  .rename_i h1;exact absurd h h1
 .cases h
def Pk.T(p:Pk):ByteArray:=if p.e=0 then⟨p.B.toArray⟩ else⟨#[]⟩
theorem Pk.adq(p:Pk):p.B≠[]:=by
 unfold Pk.B mF fQ;simp
theorem oH(p:Pk)(zm zs zg zw:Value)(w:World)(hx:kz w p zm zs zg zw)(hlen:p.whole=true\/p.sv.length+p.gw.length+p.wh.length<=4611686018427387904)(hT:mw w.heap.size w) :
 kL 199 #[.agg #[Y p.cV,Ia p.whole,zm,zs,zg,zw]] w (Ik #[Y p.T,U .i64 p.e]):=by
 have oq:Hid (∀W,Below w.heap.size w W->aI _ _ _ _):=λW hW=>lR p zm zs zg zw W (hx.below hW) hlen;have HWP:Hid (p.e=0->∀W b,Below w.heap.size w W->cY w.heap.size b [] W->aI 231 #[Ie (AI ⟨b,0,be⟩),.agg #[Y p.cV,Ia p.whole,zm,zs,zg,zw]] W λe w'=>e=AT (Ik #[])/\cY w.heap.size b (Jp p.B) w'/\Kp w.heap.size b W w'):=λh0 W b hW hI=>by
  have h:=zo w.heap.size b p zm zs zg zw w W hI hx rfl hW hW.size (hT.below hW) (oG h0);rw[p.VQ] at h;exact h
 have yL:Hid (p.T=if p.e=0 then⟨p.B.toArray⟩ else⟨#[]⟩):=rfl;have HNE:Hid _:=p.adq;generalize p.B=PB at *;generalize p.T=PT at *;generalize p.e=pe at *;obtain⟨cV,whole,ms,sv,gw,wh⟩:=p;obtain⟨⟨pm,cm,rfl,_,_⟩,⟨ps,cs,rfl,_,_⟩,⟨pg,cg,rfl,_,_⟩,⟨ph,ch,rfl,_,_⟩,_,_⟩:=hx;simp only at oq HWP ⊢;generalize ms.length=nm at *;generalize sv.length=ns at *;generalize gw.length=ng at *;generalize wh.length=nh at *;clear hlen hT;obtain⟨W0,bN,bO,-,dI⟩:=bY w #[Y cV,Ia whole,J pm nm cm,J ps ns cs,J pg ng cg,J ph nh ch] 53;have db:Hid _:=bO;have Bf:Hid _:=dI;have p0:=ae dI 0;have p1:=ae dI 1;have p2:=ae dI 2;have p3:=ae dI 3;have p4:=ae dI 4;have p5:=ae dI 5;clear bO dI;go_enter Tryz.func199,Tryz.ntmps199;go_upto_region 1 with fail
 rw[<- bN];clear bN;go_wp2_with fail;refine(oq.out W0 db.out).mono ?_;rintro e w1 ⟨rfl,aB⟩;have ba:Hid _:=db.out.trans (aB.mono db.out.size);have cO:=(aB.block _ (BY.1 Bf.out).1).trans Bf.out;have vp:Hid _:=cO;clear aB cO p0 p1 p2 p3 p4 p5;by_cases h0:pe=0;rotate_left
 .have xl:Hid _:=yL.out.trans (if_neg h0)
  have h1:(pe !=0)=true:=by simpa using h0
  clear h0;go_wp2_with fail;refine bodyPost_ret (v:=Ik #[Y ⟨#[]⟩,U .i64 pe]) ?_ rfl ?_
  .simp[results,Tryz.results199,go_sem]
  .exact⟨by rw[xl.out],ba.out⟩
 .subst h0
  have xl:Hid _:=yL.out.trans (if_pos rfl);have HWQ:=HWP.out rfl;have PJ:Hid _:=HWQ;clear HWQ HWP yL;obtain⟨W2,bJ,aK,-,tl⟩:=bY w1 #[Ie be,J be 0 0] 270;have Ve:Hid (cY w.heap.size w1.heap.size [] W2):=.inl ⟨ba.out.size,J be 0 0,tl,⟨by simp,.inl ⟨rfl,rfl⟩⟩,by simp[Value.ownBlock]⟩;have zj:=ba.out.trans (aK.mono ba.out.size);have pO:Hid _:=zj;have dS:=(aK.block _ (BY.1 vp.out).1).trans vp.out;have p0:=ae dS 0;have p1:=ae dS 1;have p2:=ae dS 2;have p3:=ae dS 3;have p4:=ae dS 4;have p5:=ae dS 5;clear aK tl dS zj;go_upto_region 5 with fail
  rw[<- bJ];clear bJ;go_wp2_with fail;refine(PJ.out W2 w1.heap.size pO.out Ve.out).mono ?_;rintro e w3 ⟨rfl,h3,jY⟩;have HI3:Hid (cY _ _ _ _):=h3;have cJ:Hid _:=pO.out.trans jY.jH;clear h3 jY p0 p1 p2 p3 p4 p5;go_wp2_with fail;refine(Bl w.heap.size w1.heap.size PB w3 HI3.out HNE.out).mono ?_;rintro e w4 ⟨rfl,eU⟩;have fO:Hid _:=cJ.out.trans eU;clear eU;go_wp2_with fail;refine bodyPost_ret (v:=Ik #[Y ⟨PB.toArray⟩,U .i64 0]) ?_ rfl ?_
  .simp[results,Tryz.results199,go_sem]
  .exact⟨by rw[xl.out],fO.out⟩
end Go.Proofs.YtfidhgjmifendaaGreatDoor
