import Derived.Test.YtfidhgjmifendaaGreatDoornt11
import Derived.Test.YtfidhgjmifendaaGreatDoornt10
import Derived.Shelf.RegionOpen
import Derived.Lib.Split
import Derived.Test.YtfidhgjmifendaaGreatDoorRows
import Derived.Stop.LaidErr
import Derived.LaidSub
import Derived.LaidMore
set_option maxHeartbeats 6400000
set_option maxRecDepth 100000
open Go.Lib renaming itoa→Qu,byteCells→Jp,indexByte→Jg,indexByte_ge→QR
open List renaming flatMap_cons→I0,length_append→Ig,length→Jt,length_take→IA
open Go.Value renaming pointer→Ie,string→Y,bool→Ia,tuple→Ik,slice→J,func→IQ,int→U
open Go.Ending renaming returned→By
open Option renaming some→AI,none→be
open Go.Proofs.Tryz renaming prog→AS,underlying0→QQ,zeroValue0→Q7,underlying3→ID,isAgg3→OG,sizeOf3→Oj,zeroValue3→O1,underlying4→JK,isAgg4→Qh,sizeOf4→OW,zeroValue4→O2,underlying5→OM,isAgg5→Q8,sizeOf5→QL,zeroValue5→O3,underlying9→Ja,isAgg9→Qi,sizeOf9→OX,zeroValue9→O4,underlying266→Qp,underlying167→OP
open Go.Obj renaming cells→AT
open Nat renaming le_refl→Ic,le_trans→Iq,mul_le_mul_left→QV,lt_of_lt_of_le→IN
open Int renaming toNat_natCast→JO
open Option.some renaming injEq→It
open Prod.mk renaming injEq→IP
namespace Go.Proofs.YtfidhgjmifendaaGreatDoor
open Go.RowKit
def fH(n:Int):List UInt8:=Qu n++[59]
def mq(s:ByteArray):List UInt8:=fH s.size++s.data.toList
def wN(y:Bool):List UInt8:=fH (if y=true then 1 else 0)
theorem mG(a b:List UInt8):Jp (a++b)=Jp a++Jp b:=by simp[Jp]
theorem sf(n:Int):bk n=Jp (fH n):=by
 unfold bk fH mc;rw[mG,Lib.strCells_toArray];rfl
theorem o5(s:ByteArray):aY s=Jp (mq s):=by
 unfold aY mq;rw[mG,sf];rfl
theorem wO(y:Bool):eH y=Jp (wN y):=sf _
theorem nq{α:Type}(f:α->List Value)(g:α->List UInt8)(h:∀x,f x=Jp (g x)):∀l:List α,l.flatMap f=Jp (l.flatMap g)
 |[]=>rfl
 |x::r=>by rw[I0,I0,mG,h,nq f g h r]
theorem sg(l:List Int):l.flatMap bk=Jp (l.flatMap fH):=nq bk fH sf l
def gH(m:Mem):List UInt8:=mq m.name++[m.state,m.aI,m.addr].flatMap fH++wN m.server
theorem n9(m:Mem):dy m=Jp (gH m):=by
 unfold dy gH;simp only[mG,o5,wO,sg]
def Sv.gH(m:Sv.aT):List UInt8:=mq m.node++mq m.bu++mq m.name++mq m.tag++[m.addr,m.port].flatMap fH++wN m.aj++[m.version].flatMap fH++wN m.gone
theorem Sv.n9(m:Sv.aT):Sv.dy m=Jp (Sv.gH m):=by
 unfold Sv.dy Sv.gH;simp only[mG,o5,wO,sg]
def Gw.gH(m:Gw.bK):List UInt8:=mq m.aD++[m.addr,m.version].flatMap fH
theorem Gw.n9(m:Gw.bK):Gw.dy m=Jp (Gw.gH m):=by
 unfold Gw.dy Gw.gH;simp only[mG,o5,sg]
def Wh.gH(m:Wh.bE):List UInt8:=mq m.node++[m.x,m.y,m.z,m.h,m.s].flatMap fH
theorem Wh.n9(m:Wh.bE):Wh.dy m=Jp (Wh.gH m):=by
 unfold Wh.dy Wh.gH;simp only[mG,o5,sg]
def Pk.L(p:Pk):List Value:=aY p.cU++eH p.whole++(bk p.ms.length++p.ms.flatMap dy)++(bk p.sv.length++p.sv.flatMap Sv.dy)++(bk p.gw.length++p.gw.flatMap Gw.dy)++(bk p.wh.length++p.wh.flatMap Wh.dy)
def Pk.B(p:Pk):List UInt8:=mq p.cU++wN p.whole++(fH p.ms.length++p.ms.flatMap gH)++(fH p.sv.length++p.sv.flatMap Sv.gH)++(fH p.gw.length++p.gw.flatMap Gw.gH)++(fH p.wh.length++p.wh.flatMap Wh.gH)
theorem Pk.Vp(p:Pk):p.L=Jp p.B:=by
 unfold Pk.L Pk.B;simp only[mG,o5,wO,sf,nq dy gH n9,nq Sv.dy Sv.gH Sv.n9,nq Gw.dy Gw.gH Gw.n9,nq Wh.dy Wh.gH Wh.n9]
structure Pk.Vq(p:Pk):Prop where
 cU:p.cU.size<=1000
 ms:p.ms.length<=20/\∀m∈p.ms,kb m
 sv:p.sv.length<=40/\∀m∈p.sv,Sv.kb m
 gw:p.gw.length<=6/\∀m∈p.gw,Gw.kb m
 wh:p.wh.length<=20/\∀m∈p.wh,Wh.kb m
theorem yR(B b:Nat)(p:Pk)(zm zs zg zw:Value)(w0 w:World)(h:cY B b [] w)(hx:jY w0 p zm zs zg zw)(hB:B=w0.heap.size)(oZ:Below B w0 w)(gK:B<=w.heap.size)(hT:ma B w)(hU:p.Vq) :
 Calls AS 231 #[Ie (AI ⟨b,0,be⟩),.agg #[Y p.cU,Ia p.whole,zm,zs,zg,zw]] w λe w'=>e=By (Ik #[])/\cY B b p.L w'/\Kp B b w w':=by
 have TE:Hid (p.L=aY p.cU++eH p.whole++(bk p.ms.length++p.ms.flatMap dy)++(bk p.sv.length++p.sv.flatMap Sv.dy)++(bk p.gw.length++p.gw.flatMap Gw.dy)++(bk p.wh.length++p.wh.flatMap Wh.dy)):=rfl;have FZ:Hid (jY w0 p zm zs zg zw):=hx;have lg:Hid p.Vq:=hU;obtain⟨cU,whole,ms,sv,gw,wh⟩:=p;obtain⟨⟨pm,cm,rfl,_,_⟩,⟨ps,cs,rfl,_,_⟩,⟨pg,cg,rfl,_,_⟩,⟨ph,ch,rfl,_,_⟩,_,_⟩:=hx;simp only at TE FZ ⊢;generalize Pk.L ⟨cU,whole,ms,sv,gw,wh⟩=PL at *;have kK:=h.lt;obtain⟨W0,bJ⟩:∃W0,W0=(w.alloc (AT #[Ie (AI ⟨b,0,be⟩)] 289)).alloc (AT #[Y cU,Ia whole,J pm ms.length cm,J ps sv.length cs,J pg gw.length cg,J ph wh.length ch] 53):=⟨_,rfl⟩;have bM:Below w.heap.size w W0:=by rw[bJ];exact((Below.refl _ _).alloc (Ic _) _).alloc (by simp) _
 have sJ:Hid (cY B b [] W0):=h.below bM;have wP:Hid (Kp B b w W0):=Kp.cd bM gK;have da:Hid (W0.heap[w.heap.size]?=AI (AT #[Ie (AI ⟨b,0,be⟩)] 289 (0,0))):=by rw[bJ,Below.heap_alloc _ _ _ (by simp)];exact heap_alloc_new w _
 have vz:W0.heap[w.heap.size+1]?=AI (AT #[Y cU,Ia whole,J pm ms.length cm,J ps sv.length cs,J pg gw.length cg,J ph wh.length ch] 53 (0,0)):=by
  have h:=heap_alloc_new (w.alloc (AT #[Ie (AI ⟨b,0,be⟩)] 289)) (AT #[Y cU,Ia whole,J pm ms.length cm,J ps sv.length cs,J pg gw.length cg,J ph wh.length ch] 53);rw[bJ];simpa using h
 have CG:Hid _:=vz;have CH:Hid (([]:List Value).length<=0):=Ic _;have HT:Hid (ma B w):=hT;have Ar:Hid (Below B w0 w):=oZ;clear h bM hT oZ hU vz;have TF:=lg.out.cU;simp only at TF;have HCM:Hid (∀W bs,Kp B b w W->cY B b bs W->bs.length+66000<=600000->W.heap[w.heap.size]?=AI (AT #[Ie (AI ⟨b,0,be⟩)] 289 (0,0))->Calls AS 261 #[Ie (AI ⟨b,0,be⟩),J pm ms.length cm,IQ (.func 262) #[] #[Ie (AI ⟨w.heap.size,0,be⟩)]] W λe w'=>e=By (Ik #[])/\cY B b (bs++(bk ms.length++ms.flatMap dy)) w'/\Kp B b W w'):=λW bs hK hW hl mF=>
  ie B b w.heap.size ms _ bs w0 W hW FZ.out.ms hB (Ar.out.trans hK.jX) (by have:=lg.out.ms.1;simp only at this;omega) (by have:=lg.out.ms.1;simp only at this;omega) (Iq gK hK.size) (HT.out.below hK.jX) mF (by omega) lg.out.ms.2
 have acd:Hid ((bk ms.length++ms.flatMap dy).length<=21+3300*20):=by
  have g1:=dK ms lg.out.ms.2;have g2:=dH (cW (n:=ms.length) (by have:=lg.out.ms.1;simp only at this;omega));have g3:=lg.out.ms.1;simp only at g3;show(bk ms.length++ms.flatMap dy).length<=21+3300*20;rw[Ig];have g4:3300*ms.length<=3300*20:=QV _ g3;omega
 generalize(bk ms.length++ms.flatMap dy)=EM at *;have HCS:Hid (∀W bs,Kp B b w W->cY B b bs W->bs.length+352000<=600000->W.heap[w.heap.size]?=AI (AT #[Ie (AI ⟨b,0,be⟩)] 289 (0,0))->Calls AS 264 #[Ie (AI ⟨b,0,be⟩),J ps sv.length cs,IQ (.func 265) #[] #[Ie (AI ⟨w.heap.size,0,be⟩)]] W λe w'=>e=By (Ik #[])/\cY B b (bs++(bk sv.length++sv.flatMap Sv.dy)) w'/\Kp B b W w'):=λW bs hK hW hl mF=>
  Sv.ie B b w.heap.size sv _ bs w0 W hW FZ.out.sv hB (Ar.out.trans hK.jX) (by have:=lg.out.sv.1;simp only at this;omega) (by have:=lg.out.sv.1;simp only at this;omega) (Iq gK hK.size) (HT.out.below hK.jX) mF (by omega) lg.out.sv.2
 have acf:Hid ((bk sv.length++sv.flatMap Sv.dy).length<=21+8800*40):=by
  have g1:=Sv.dK sv lg.out.sv.2;have g2:=dH (cW (n:=sv.length) (by have:=lg.out.sv.1;simp only at this;omega));have g3:=lg.out.sv.1;simp only at g3;show(bk sv.length++sv.flatMap Sv.dy).length<=21+8800*40;rw[Ig];have g4:8800*sv.length<=8800*40:=QV _ g3;omega
 generalize(bk sv.length++sv.flatMap Sv.dy)=ES at *;have HCG:Hid (∀W bs,Kp B b w W->cY B b bs W->bs.length+13200<=600000->W.heap[w.heap.size]?=AI (AT #[Ie (AI ⟨b,0,be⟩)] 289 (0,0))->Calls AS 266 #[Ie (AI ⟨b,0,be⟩),J pg gw.length cg,IQ (.func 267) #[] #[Ie (AI ⟨w.heap.size,0,be⟩)]] W λe w'=>e=By (Ik #[])/\cY B b (bs++(bk gw.length++gw.flatMap Gw.dy)) w'/\Kp B b W w'):=λW bs hK hW hl mF=>
  Gw.ie B b w.heap.size gw _ bs w0 W hW FZ.out.gw hB (Ar.out.trans hK.jX) (by have:=lg.out.gw.1;simp only at this;omega) (by have:=lg.out.gw.1;simp only at this;omega) (Iq gK hK.size) (HT.out.below hK.jX) mF (by omega) lg.out.gw.2
 have acg:Hid ((bk gw.length++gw.flatMap Gw.dy).length<=21+2200*6):=by
  have g1:=Gw.dK gw lg.out.gw.2;have g2:=dH (cW (n:=gw.length) (by have:=lg.out.gw.1;simp only at this;omega));have g3:=lg.out.gw.1;simp only at g3;show(bk gw.length++gw.flatMap Gw.dy).length<=21+2200*6;rw[Ig];have g4:2200*gw.length<=2200*6:=QV _ g3;omega
 generalize(bk gw.length++gw.flatMap Gw.dy)=EG at *;have HCW:Hid (∀W bs,Kp B b w W->cY B b bs W->bs.length+44000<=600000->W.heap[w.heap.size]?=AI (AT #[Ie (AI ⟨b,0,be⟩)] 289 (0,0))->Calls AS 268 #[Ie (AI ⟨b,0,be⟩),J ph wh.length ch,IQ (.func 269) #[] #[Ie (AI ⟨w.heap.size,0,be⟩)]] W λe w'=>e=By (Ik #[])/\cY B b (bs++(bk wh.length++wh.flatMap Wh.dy)) w'/\Kp B b W w'):=λW bs hK hW hl mF=>
  Wh.ie B b w.heap.size wh _ bs w0 W hW FZ.out.wh hB (Ar.out.trans hK.jX) (by have:=lg.out.wh.1;simp only at this;omega) (by have:=lg.out.wh.1;simp only at this;omega) (Iq gK hK.size) (HT.out.below hK.jX) mF (by omega) lg.out.wh.2
 have ach:Hid ((bk wh.length++wh.flatMap Wh.dy).length<=21+2200*20):=by
  have g1:=Wh.dK wh lg.out.wh.2;have g2:=dH (cW (n:=wh.length) (by have:=lg.out.wh.1;simp only at this;omega));have g3:=lg.out.wh.1;simp only at g3;show(bk wh.length++wh.flatMap Wh.dy).length<=21+2200*20;rw[Ig];have g4:2200*wh.length<=2200*20:=QV _ g3;omega
 generalize(bk wh.length++wh.flatMap Wh.dy)=EW at *;clear lg FZ Ar;generalize ms.length=nm at *;generalize sv.length=ns at *;generalize gw.length=ng at *;generalize wh.length=nh at *;go_enter Tryz.func231,Tryz.ntmps231;go_upto_region 1 with fail
 rw[<- bJ];clear bJ;have y0:W0.cell? ⟨w.heap.size,0,be⟩=AI (Ie (AI ⟨b,0,be⟩)):=ae da.out 0;have z0:W0.cell? ⟨w.heap.size+1,0,be⟩=AI (Y cU):=ae CG.out 0;go_wp2_with fail;refine(gr B b cU ([]) W0 sJ.out (by have:=CH.out;omega) (Iq gK wP.out.size) (HT.out.below wP.out.jX)).mono ?_;rintro e W1 ⟨rfl,hw,hk⟩;have nZ:Hid (cY B b ([]++aY cU) W1):=hw;have mo:Hid (Kp B b w W1):=wP.out.trans hk;have iM:Hid (W1.heap[w.heap.size+1]?=AI (AT #[Y cU,Ia whole,J pm nm cm,J ps ns cs,J pg ng cg,J ph nh ch] 53 (0,0))):=hk.keeps CG.out (by omega) (by decide);have aV:Hid (W1.heap[w.heap.size]?=AI (AT #[Ie (AI ⟨b,0,be⟩)] 289 (0,0))):=hk.keeps da.out (by omega) (by decide);have vA:Hid (([]++aY cU).length<=1100):=by
  have g1:=CH.out;have g2:=dI TF;show Jt ([]++aY cU)<=_;rw[Ig];omega
 clear hw hk y0 z0;have y0:W1.cell? ⟨w.heap.size,0,be⟩=AI (Ie (AI ⟨b,0,be⟩)):=ae aV.out 0;have z0:=ae iM.out 1;go_wp2_with fail;refine(nr B b whole ([]++aY cU) W1 nZ.out (by have:=vA.out;omega) (Iq gK mo.out.size) (HT.out.below mo.out.jX)).mono ?_;rintro e W2 ⟨rfl,hw,hk⟩;have DN:Hid (cY _ _ _ _):=hw;have oV:Hid _:=mo.out.trans hk;have si:Hid _:=hk.keeps iM.out (by omega) (by decide);have bp:Hid _:=hk.keeps aV.out (by omega) (by decide);have uK:Hid (([]++aY cU++eH whole).length<=2200):=by
  have g1:=vA.out;have g2:=iO whole;show Jt ([]++aY cU++eH whole)<=_;rw[Ig];omega
 clear hw hk y0 z0;have y0:=ae bp.out 0;have z0:=ae si.out 2;go_wp2_with fail;refine(HCM.out W2 ([]++aY cU++eH whole) oV.out DN.out (by have:=uK.out;omega) bp.out).mono ?_;rintro e W3 ⟨rfl,hw,hk⟩;have yQ:Hid (cY _ _ _ _):=hw;have ui:Hid _:=oV.out.trans hk;have TG:Hid _:=hk.keeps si.out (by omega) (by decide);have cj:Hid _:=hk.keeps bp.out (by omega) (by decide);have TH:Hid (([]++aY cU++eH whole++EM).length<=68221):=by
  have g1:=uK.out;have g2:=acd.out;show Jt ([]++aY cU++eH whole++EM)<=_;rw[Ig];omega
 clear hw hk y0 z0;have y0:=ae cj.out 0;have z0:=ae TG.out 3;go_wp2_with fail;refine(HCS.out W3 ([]++aY cU++eH whole++EM) ui.out yQ.out (by have:=TH.out;omega) cj.out).mono ?_;rintro e W4 ⟨rfl,hw,hk⟩;have HW4:Hid (cY _ _ _ _):=hw;have DO:Hid _:=ui.out.trans hk;have TI:Hid _:=hk.keeps TG.out (by omega) (by decide);have eP:Hid _:=hk.keeps cj.out (by omega) (by decide);have Rn:Hid (([]++aY cU++eH whole++EM++ES).length<=420242):=by
  have g1:=TH.out;have g2:=acf.out;show Jt ([]++aY cU++eH whole++EM++ES)<=_;rw[Ig];omega
 clear hw hk y0 z0;have y0:=ae eP.out 0;have z0:=ae TI.out 4;go_wp2_with fail;refine(HCG.out W4 ([]++aY cU++eH whole++EM++ES) DO.out HW4.out (by have:=Rn.out;omega) eP.out).mono ?_;rintro e W5 ⟨rfl,hw,hk⟩;have Pg:Hid (cY _ _ _ _):=hw;have AP:Hid _:=DO.out.trans hk;have Vr:Hid _:=hk.keeps TI.out (by omega) (by decide);have gE:Hid _:=hk.keeps eP.out (by omega) (by decide);have Vs:Hid (([]++aY cU++eH whole++EM++ES++EG).length<=433463):=by
  have g1:=Rn.out;have g2:=acg.out;show Jt ([]++aY cU++eH whole++EM++ES++EG)<=_;rw[Ig];omega
 clear hw hk y0 z0;have y0:=ae gE.out 0;have z0:=ae Vr.out 5;go_wp2_with fail;refine(HCW.out W5 ([]++aY cU++eH whole++EM++ES++EG) AP.out Pg.out (by have:=Vs.out;omega) gE.out).mono ?_;rintro e W6 ⟨rfl,hw,hk⟩;have HW6:Hid (cY _ _ _ _):=hw;have Vt:Hid _:=AP.out.trans hk;have HX6:Hid _:=hk.keeps Vr.out (by omega) (by decide);have rK:Hid _:=hk.keeps gE.out (by omega) (by decide);have HL6:Hid (([]++aY cU++eH whole++EM++ES++EG++EW).length<=477484):=by
  have g1:=Vs.out;have g2:=ach.out;show Jt ([]++aY cU++eH whole++EM++ES++EG++EW)<=_;rw[Ig];omega
 clear hw hk y0 z0;have rJ:Hid (cY B b PL W6):=by
  have h:=HW6.out;rw[TE.out];simp only[List.append_assoc,List.nil_append] at h ⊢;exact h
 go_wp2_with fail;simp[bodyPost,results,Tryz.results231];exact⟨rJ.out,Vt.out⟩
def fC(l:List UInt8):ByteArray:=⟨l.toArray⟩
theorem jy(l:List UInt8):(fC l).size=l.length:=by simp[fC,ByteArray.size]
end Go.Proofs.YtfidhgjmifendaaGreatDoor
namespace Go.Proofs
open Go.Shelf
def Tryz.wQ:Go.Shelf.Ren:=⟨fun|172=>220|244=>253|245=>254|247=>277|279=>278|280=>279|281=>280|282=>281|287=>294|316=>251|171=>221|205=>295|321=>304|322=>305|243=>255|246=>282|283=>296|284=>297|285=>298|286=>299|129=>124|317=>306|318=>307|319=>308|320=>309|337=>311|338=>312|n=>n,fun|9=>9|3=>3|75=>253|76=>254|4=>4|5=>5|167=>306|37=>266|0=>0|85=>307|2=>2|168=>309|53=>167|175=>319|46=>129|210=>322|127=>301|145=>334|143=>332|21=>21|171=>324|173=>326|212=>336|51=>165|20=>20|213=>337|232=>340|233=>341|80=>210|n=>n,fun|15=>1|16=>2|17=>3|18=>4|19=>5|n=>n⟩
theorem Tryz.GF:Go.Proofs.LaysC.n172 AS Tryz.wQ:={
 mixed:=by kernel_rfl
 f129:=Tryz.func124.trans (congrArg AI (by kernel_rfl))
 f171:=Tryz.func221.trans (congrArg AI (by kernel_rfl))
 f172:=Tryz.func220.trans (congrArg AI (by kernel_rfl))
 f205:=Tryz.func295.trans (congrArg AI (by kernel_rfl))
 f243:=Tryz.func255.trans (congrArg AI (by kernel_rfl))
 f244:=Tryz.func253.trans (congrArg AI (by kernel_rfl))
 f245:=Tryz.func254.trans (congrArg AI (by kernel_rfl))
 f246:=Tryz.func282.trans (congrArg AI (by kernel_rfl))
 f247:=Tryz.func277.trans (congrArg AI (by kernel_rfl))
 f279:=Tryz.func278.trans (congrArg AI (by kernel_rfl))
 f280:=Tryz.func279.trans (congrArg AI (by kernel_rfl))
 f281:=Tryz.func280.trans (congrArg AI (by kernel_rfl))
 f282:=Tryz.func281.trans (congrArg AI (by kernel_rfl))
 f283:=Tryz.func296.trans (congrArg AI (by kernel_rfl))
 f284:=Tryz.func297.trans (congrArg AI (by kernel_rfl))
 f285:=Tryz.func298.trans (congrArg AI (by kernel_rfl))
 f286:=Tryz.func299.trans (congrArg AI (by kernel_rfl))
 f287:=Tryz.func294.trans (congrArg AI (by kernel_rfl))
 f316:=Tryz.func251.trans (congrArg AI (by kernel_rfl))
 f317:=Tryz.func306.trans (congrArg AI (by kernel_rfl))
 f318:=Tryz.func307.trans (congrArg AI (by kernel_rfl))
 f319:=Tryz.func308.trans (congrArg AI (by kernel_rfl))
 f320:=Tryz.func309.trans (congrArg AI (by kernel_rfl))
 f321:=Tryz.func304.trans (congrArg AI (by kernel_rfl))
 f322:=Tryz.func305.trans (congrArg AI (by kernel_rfl))
 f337:=Tryz.func311.trans (congrArg AI (by kernel_rfl))
 f338:=Tryz.func312.trans (congrArg AI (by kernel_rfl))
 t0:=QQ
 a0:=Tryz.isAgg0
 z0:=Tryz.sizeOf0
 v0:=Q7
 t2:=Tryz.underlying2
 a2:=Tryz.isAgg2
 z2:=Tryz.sizeOf2
 v2:=Tryz.zeroValue2
 t3:=ID
 a3:=OG
 z3:=Oj
 v3:=O1
 t4:=JK
 a4:=Qh
 z4:=OW
 v4:=O2
 t5:=OM
 a5:=Q8
 z5:=QL
 v5:=O3
 t9:=Ja
 a9:=Qi
 z9:=OX
 v9:=O4
 t20:=Tryz.underlying20
 a20:=Tryz.isAgg20
 z20:=Tryz.sizeOf20
 v20:=Tryz.zeroValue20
 t21:=Tryz.underlying21
 a21:=Tryz.isAgg21
 z21:=Tryz.sizeOf21
 v21:=Tryz.zeroValue21
 t37:=Qp
 a37:=Tryz.isAgg266
 z37:=Tryz.sizeOf266
 v37:=Tryz.zeroValue266
 t46:=Tryz.underlying129
 a46:=Tryz.isAgg129
 z46:=Tryz.sizeOf129
 v46:=Tryz.zeroValue129
 t51:=Tryz.underlying165
 a51:=Tryz.isAgg165
 z51:=Tryz.sizeOf165
 v51:=Tryz.zeroValue165
 t53:=OP
 a53:=Tryz.isAgg167
 z53:=Tryz.sizeOf167
 v53:=Tryz.zeroValue167
 t75:=Tryz.underlying253
 a75:=Tryz.isAgg253
 z75:=Tryz.sizeOf253
 v75:=Tryz.zeroValue253
 t76:=Tryz.underlying254
 a76:=Tryz.isAgg254
 z76:=Tryz.sizeOf254
 v76:=Tryz.zeroValue254
 t85:=Tryz.underlying307
 a85:=Tryz.isAgg307
 z85:=Tryz.sizeOf307
 v85:=Tryz.zeroValue307
 t127:=Tryz.underlying301
 a127:=Tryz.isAgg301
 z127:=Tryz.sizeOf301
 v127:=Tryz.zeroValue301
 t143:=Tryz.underlying332
 a143:=Tryz.isAgg332
 z143:=Tryz.sizeOf332
 v143:=Tryz.zeroValue332
 t145:=Tryz.underlying334
 a145:=Tryz.isAgg334
 z145:=Tryz.sizeOf334
 v145:=Tryz.zeroValue334
 t167:=Tryz.underlying306
 a167:=Tryz.isAgg306
 z167:=Tryz.sizeOf306
 v167:=Tryz.zeroValue306
 t168:=Tryz.underlying309
 a168:=Tryz.isAgg309
 z168:=Tryz.sizeOf309
 v168:=Tryz.zeroValue309
 t171:=Tryz.underlying324
 a171:=Tryz.isAgg324
 z171:=Tryz.sizeOf324
 v171:=Tryz.zeroValue324
 t173:=Tryz.underlying326
 a173:=Tryz.isAgg326
 z173:=Tryz.sizeOf326
 v173:=Tryz.zeroValue326
 t175:=Tryz.underlying319
 a175:=Tryz.isAgg319
 z175:=Tryz.sizeOf319
 v175:=Tryz.zeroValue319
 t210:=Tryz.underlying322
 a210:=Tryz.isAgg322
 z210:=Tryz.sizeOf322
 v210:=Tryz.zeroValue322
 t212:=Tryz.underlying336
 a212:=Tryz.isAgg336
 z212:=Tryz.sizeOf336
 v212:=Tryz.zeroValue336
 t213:=Tryz.underlying337
 a213:=Tryz.isAgg337
 z213:=Tryz.sizeOf337
 t232:=Tryz.underlying340
 a232:=Tryz.isAgg340
 z232:=Tryz.sizeOf340
 v232:=Tryz.zeroValue340
 t233:=Tryz.underlying341
 a233:=Tryz.isAgg341
 z233:=Tryz.sizeOf341
 v233:=Tryz.zeroValue341
 g15:=by kernel_rfl
 g16:=by kernel_rfl
 g17:=by kernel_rfl
 g18:=by kernel_rfl
 g19:=by kernel_rfl
 t80:=Tryz.underlying210
 a80:=Tryz.isAgg210
 z80:=Tryz.sizeOf210
 v80:=Tryz.zeroValue210
 i0:=by kernel_rfl
 i2:=by kernel_rfl
 i3:=by kernel_rfl
 i4:=by kernel_rfl
 i5:=by kernel_rfl
 i9:=by kernel_rfl
 i20:=by kernel_rfl
 i21:=by kernel_rfl
 i37:=by kernel_rfl
 i46:=by kernel_rfl
 i51:=by kernel_rfl
 i53:=by kernel_rfl
 i75:=by kernel_rfl
 i76:=by kernel_rfl
 i80:=by kernel_rfl
 i85:=by kernel_rfl
 i127:=by kernel_rfl
 i143:=by kernel_rfl
 i145:=by kernel_rfl
 i167:=by kernel_rfl
 i168:=by kernel_rfl
 i171:=by kernel_rfl
 i173:=by kernel_rfl
 i175:=by kernel_rfl
 i210:=by kernel_rfl
 i212:=by kernel_rfl
 i232:=by kernel_rfl
 i233:=by kernel_rfl
 m15:=by kernel_rfl
 m16:=by kernel_rfl
 m17:=by kernel_rfl
 m18:=by kernel_rfl
 m19:=by kernel_rfl
 c0:=by kernel_rfl
 c2:=by kernel_rfl
 c3:=by kernel_rfl
 c4:=by kernel_rfl
 c5:=by kernel_rfl
 c9:=by kernel_rfl
 c20:=by kernel_rfl
 c21:=by kernel_rfl
 c37:=by kernel_rfl
 c46:=by kernel_rfl
 c51:=by kernel_rfl
 c53:=by kernel_rfl
 c75:=by kernel_rfl
 c76:=by kernel_rfl
 c80:=by kernel_rfl
 c85:=by kernel_rfl
 c127:=by kernel_rfl
 c143:=by kernel_rfl
 c145:=by kernel_rfl
 c167:=by kernel_rfl
 c168:=by kernel_rfl
 c171:=by kernel_rfl
 c173:=by kernel_rfl
 c175:=by kernel_rfl
 c210:=by kernel_rfl
 c212:=by kernel_rfl
 c213:=by kernel_rfl
 c232:=by kernel_rfl
 c233:=by kernel_rfl }
open Go.RowKit in
theorem Tryz.strconv_Atoi_ok(s:ByteArray)(acn:s.size<=9223372036854775806)(v:Int)(h:Lib.atoiAll s.data.toList=.ok v)(w:World) :
 Calls AS 220 #[Y s] w λe w'=>e=By (Ik #[U .i64 v,.nilIface])/\(w'=w\/∃t,w'=Lib.bytesWorld w 5 t):=Any.strconv_Atoi_ok Tryz.GF s acn v h w
end Go.Proofs
namespace Go.Proofs.YtfidhgjmifendaaGreatDoor
open Go.RowKit
theorem CI(c:UInt8):∀{l:List UInt8} {i:Nat},Jg l c=(i:Int)->i<l.length
 |[],i,h=>by unfold Jg at h;omega
 |x::r,i,h=>by
  unfold Jg at h;split at h
  .simp;omega
  .split at h
   .omega
   .rename_i h2
    have hg:=QR r c
    obtain⟨j,rfl⟩:∃j,i=j+1:=⟨i-1,by have:Jg r c ≠ -1:=by simpa using h2
                                    omega⟩
    have:=CI c (l:=r) (i:=j) (by omega);simp;omega
theorem kN(l:List UInt8):(fC l).data.toList=l:=by simp[fC]
theorem CJ(s:ByteArray):fC s.data.toList=s:=rfl
theorem CK(l:List UInt8)(i:Nat):(fC l).extract 0 i=fC (l.take i):=by
 rw[<- CJ ((fC l).extract 0 i),Lib.extract_from_zero,kN]
theorem vB(l:List UInt8)(i:Nat):(fC l).extract i (fC l).size=fC (l.drop i):=by
 rw[<- CJ ((fC l).extract i (fC l).size),Lib.extract_to_end,kN]
theorem below_drewN{B:Nat}{w w1:World}(h:Below B w w1)(m:Nat):Below B w (w1.drewN m):=⟨h.os,h.tape,h.output,h.size,h.block⟩
theorem AQ(s:ByteArray)(i:Nat)(w:World)(h:Jg s.data.toList 59=(i:Int))(hs:s.size<=140737488355328) :
 aF 252 #[Y s,Y ⟨#[59]⟩] w λe w'=>e=By (Ik #[Y (s.extract 0 i),Y (s.extract (i+1) s.size),Ia true])/\∃n,w'=w.drewN n:=by
 have hi:i<s.size:=by have:=CI 59 h;simpa using this
 have h0:((i:Int)).toNat=i:=by omega
 have h1:IntKind.i64.wrap ((i:Int)+1)=((i+1:Nat):Int):=by rw[IntKind.wrap_i64];omega
 have h2:(((i+1:Nat):Int)).toNat=i+1:=by omega
 have h3:((s.size:Int)).toNat=s.size:=by omega
 go_enter Tryz.func252,Tryz.ntmps252;go_wp2_with (go_at_call 276;refine(Tryz.stringslite_Index_one s 59 _).mono ?_;rintro e w' ⟨rfl,rfl⟩;rw[h]);go_quiet (fail)
 go_wp2_with fail;go_ret3
 exact⟨rfl,⟨_,rfl⟩⟩
theorem DP(l:List UInt8)(i:Nat)(w:World)(h:Jg l 59=(i:Int))(hs:l.length<=140737488355328) :
 kx 219 #[Y (fC l),Y ⟨#[59]⟩] w (Ik #[Y (fC (l.take i)),Y (fC (l.drop (i+1))),Ia true]):=by
 have h':Jg (fC l).data.toList 59=i:=by rw[kN];exact h
 have hs':(fC l).size<=140737488355328:=by rw[jy];exact hs
 rw[<- CK,<- vB];generalize fC l=s at *;go_enter Tryz.func219,Tryz.ntmps219;go_wp2_with (go_at_call 252;refine(AQ s i _ h' hs').mono ?_;rintro e w' ⟨rfl,n,rfl⟩);go_ret3
 exact⟨rfl,below_drewN (Below.refl _ _) _⟩
def Er(w:World):Prop:=∃a b p q,w.cell? ⟨1,0,be⟩=AI (.iface a p)/\w.cell? ⟨2,0,be⟩=AI (.iface b q)
theorem Er.below{B:Nat}{w w':World}(h:Er w)(hb:Below B w w')(h1:1<B)(h2:2<B):Er w':=by
 obtain⟨a,b,p,q,e1,e2⟩:=h;exact⟨a,b,p,q,(hb.cell (p:=⟨1,0,be⟩) h1).trans e1,(hb.cell (p:=⟨2,0,be⟩) h2).trans e2⟩
theorem L6(l:List UInt8)(v:Int)(w:World)(hs:l.length<=140737488355328)(h:Lib.atoiAll l=.ok v) :
 kx 220 #[Y (fC l)] w (Ik #[U .i64 v,.nilIface]):=by
 refine(Tryz.strconv_Atoi_ok (fC l) (by rw[jy];omega) v (by rw[kN];exact h) w).mono ?_;rintro e w' ⟨rfl,rfl|⟨t,rfl⟩⟩
 .exact⟨rfl,Below.refl _ _⟩
 .exact⟨rfl,Lib.bytesWorld_below _ _ _⟩
def mH(l:List UInt8):Option (Int×List UInt8):=
 if Jg l 59 = -1 then be
 else match Lib.atoiAll (l.take (Jg l 59).toNat) with
  | .ok n=>if Qu n=l.take (Jg l 59).toNat then AI (n,l.drop ((Jg l 59).toNat+1)) else be
  |_=>be
structure kd(g:Nat)(l:List UInt8)(w:World):Prop where
 c0:w.cell? ⟨g,0,be⟩=AI (Y (fC l))
 hz:w.frozen? ⟨g,0,be⟩=false
 hg:g<w.heap.size
structure Rp(g:Nat)(w w':World):Prop where
 os:w'.os=w.os
 tape:w'.tape=w.tape
 output:w'.output=w.output
 size:w.heap.size<=w'.heap.size
 block:∀k:Nat,k<w.heap.size->k≠g->w'.heap[k]?=w.heap[k]?
theorem Rp.refl(g:Nat)(w:World):Rp g w w:=⟨rfl,rfl,rfl,Ic _,λ_ _ _=>rfl⟩
theorem Rp.trans{g:Nat}{w w1 w2:World}(h:Rp g w w1)(h2:Rp g w1 w2):Rp g w w2:=
 ⟨h2.os.trans h.os,h2.tape.trans h.tape,h2.output.trans h.output,Iq h.size h2.size,λk hk hg=>(h2.block k (IN hk h.size) hg).trans (h.block k hk hg)⟩
theorem Rp.below{g B:Nat}{w w':World}(h:Rp g w w')(hb:B<=g)(hB:B<=w.heap.size):Below B w w':=
 ⟨h.os,h.tape,h.output,h.size,λk hk=>h.block k (by omega) (by omega)⟩
theorem Rp.cd{g B:Nat}{w w':World}(h:Below B w w')(hb:w.heap.size<=B):Rp g w w':=
 ⟨h.os,h.tape,h.output,h.size,λk hk _=>h.block k (by omega)⟩
theorem Rp.set(g:Nat)(w:World)(v:Value):Rp g w (w.setCell ⟨g,0,be⟩ v):=
 ⟨rfl,rfl,rfl,by simp,λk _ hg=>Below.heap_setCell w _ _ k hg⟩
theorem kd.below{g:Nat}{l:List UInt8}{w w':World}(h:kd g l w)(hx:Below w.heap.size w w'):kd g l w' where
 c0:=(hx.cell (p:=⟨g,0,be⟩) h.hg).trans h.c0
 hz:=by have:=h.hz;simp only[World.frozen?,hx.block g h.hg] at this ⊢;exact this
 hg:=IN h.hg hx.size
theorem DQ(g B:Nat)(l r:List UInt8)(n:Int)(w:World)(h:kd g l w)(hs:l.length<=140737488355328)(hl:mH l=AI (n,r))(hT:ma B w)(hB:B<=w.heap.size) :
 aF 183 #[Ie (AI ⟨g,0,be⟩)] w λe w'=>e=By (U .i64 n)/\kd g r w'/\Rp g w w':=by
 unfold mH at hl;split at hl
 .simp at hl
 rename_i aM;obtain⟨i,hi⟩:∃i:Nat,Jg l 59=(i:Int):=⟨(Jg l 59).toNat,by have:=QR l 59;omega⟩;have aW:=CI 59 hi;rw[hi] at hl;simp only[JO] at hl;split at hl
 case h_2=>simp at hl
 rename_i m hm;split at hl
 case isFalse=>simp at hl
 rename_i hd;simp only[It,IP] at hl;obtain⟨rfl,rfl⟩:=hl;have aco:=Lib.atoiAll_bounds hm;have HC:Hid (aF _ _ _ _):=DP l i w hi hs;have HA:Hid (∀W,aF _ _ _ _):=λW=>L6 _ m W (by rw[IA];omega) hm;have HI:Hid (∀W,Below w.heap.size w W->kx 221 #[U .i64 m] W (Y (fC (l.take i)))):=λW hW=>by
  have:=yS m B W aco (hT.below (hW.mono hB));rw[show mc m=fC (l.take i) by rw[<- hd];rfl] at this;exact this
 have HP:Hid _:=h;have hc:=h.c0;clear h hT hd hm hi aM aW hs;generalize fC (l.take i)=D at *;have HR:Hid (∃R,R=fC (l.drop (i+1))):=⟨_,rfl⟩;go_enter Tryz.func183,Tryz.ntmps183;go_wp2_with fail;refine HC.out.mono ?_;rintro e w1 ⟨rfl,aB⟩;have aV:Hid _:=aB;clear aB;go_wp2_with fail;refine(HA.out w1).mono ?_;rintro e w2 ⟨rfl,aJ⟩;have bp:Hid _:=aV.out.trans (aJ.mono aV.out.size);clear aJ;go_wp2_with fail;refine(HI.out w2 bp.out).mono ?_;rintro e w3 ⟨rfl,bV⟩;have cj:Hid _:=bp.out.trans (bV.mono bp.out.size);clear bV;have hP3:=HP.out.below cj.out;obtain⟨c3,z3,g3⟩:=hP3;clear hc;go_wp2_with (go_at_call 118;refine(jo _ _).mono ?_;rintro e w' ⟨rfl,rfl⟩);go_ret;refine⟨rfl,⟨World.cell?_setCell_same _ _ _ c3,by simpa using z3,by simpa using g3⟩,(Rp.cd cj.out (Ic _)).trans (Rp.set g _ _)⟩
structure Rv(B:Nat)(w:World):Prop where
 Vu:ma B w
 er:Er w
 b1:1<B
 b2:2<B
 le:B<=w.heap.size
theorem Rv.below{B:Nat}{w w':World}(h:Rv B w)(hb:Below B w w'):Rv B w':=⟨h.Vu.below hb,h.er.below hb h.b1 h.b2,h.b1,h.b2,Iq h.le hb.size⟩
theorem Rv.rp{B g:Nat}{w w':World}(h:Rv B w)(hg:B<=g)(hr:Rp g w w'):Rv B w':=h.below (hr.below hg h.le)
theorem wR{B g:Nat}{l r:List UInt8}{n:Int}{w:World}(hV:Rv B w)(h:kd g l w)(hs:l.length<=140737488355328)(hl:mH l=AI (n,r)) :
 aF 183 #[Ie (AI ⟨g,0,be⟩)] w λe w'=>e=By (U .i64 n)/\kd g r w'/\Rp g w w':=DQ g B l r n w h hs hl hV.Vu hV.le
theorem db{l r:List UInt8}{n:Int}(h:mH l=AI (n,r)):fK n/\r.length<l.length:=by
 unfold mH at h;split at h
 .simp at h
 rename_i aM;obtain⟨i,hi⟩:∃i:Nat,Jg l 59=(i:Int):=⟨(Jg l 59).toNat,by have:=QR l 59;omega⟩;have aW:=CI 59 hi;rw[hi] at h;simp only[JO] at h;split at h
 case h_2=>simp at h
 rename_i m hm;split at h
 case isFalse=>simp at h
 simp only[It,IP] at h;obtain⟨rfl,rfl⟩:=h;exact⟨Lib.atoiAll_bounds hm,by rw[List.length_drop];omega⟩
def DR(l:List UInt8):Option (Bool×List UInt8):=
 match mH l with
 |some (n,r)=>if n=0 then AI (false,r) else if n=1 then AI (true,r) else be
 |none=>be
theorem L8{B g:Nat}{l r:List UInt8}{y:Bool}{w:World}(hV:Rv B w)(h:kd g l w)(hs:l.length<=140737488355328)(hl:DR l=AI (y,r)) :
 aF 180 #[Ie (AI ⟨g,0,be⟩)] w λe w'=>e=By (Ia y)/\kd g r w'/\Rp g w w':=by
 unfold DR at hl;split at hl
 case h_2=>simp at hl
 rename_i n r' hn;have HN:Hid (aF _ _ _ _):=wR hV h hs hn;clear hn h hV hs;split at hl
 .rename_i h0
  subst h0;simp only[It,IP] at hl;obtain⟨rfl,rfl⟩:=hl;go_enter Tryz.func180,Tryz.ntmps180;go_wp2_with fail;refine HN.out.mono ?_;rintro e w1 ⟨rfl,hp,hr⟩;have HP:Hid (kd g r' w1/\Rp g w w1):=⟨hp,hr⟩;clear hp hr;go_wp2_with (go_at_call 118;refine(jo _ _).mono ?_;rintro e w' ⟨rfl,rfl⟩);go_ret;exact⟨rfl,HP.out⟩
 .split at hl
  case isFalse=>simp at hl
  rename_i h0 h1;subst h1;simp only[It,IP] at hl;obtain⟨rfl,rfl⟩:=hl;go_enter Tryz.func180,Tryz.ntmps180;go_wp2_with fail;refine HN.out.mono ?_;rintro e w1 ⟨rfl,hp,hr⟩;have HP:Hid (kd g r' w1/\Rp g w w1):=⟨hp,hr⟩;clear hp hr;go_wp2_with (go_at_call 118;refine(jo _ _).mono ?_;rintro e w' ⟨rfl,rfl⟩);go_ret;exact⟨rfl,HP.out⟩
end Go.Proofs.YtfidhgjmifendaaGreatDoor
namespace Go.Proofs
open Go.Shelf
def Tryz.wS:Go.Shelf.Ren:=⟨fun|316=>251|n=>n,fun|9=>9|3=>3|4=>4|37=>266|0=>0|127=>301|5=>5|n=>n,fun|n=>n⟩
theorem Tryz.GG:Go.Proofs.LaysM.n316 AS Tryz.wS:={
 mixed:=by kernel_rfl
 f316:=Tryz.func251.trans (congrArg AI (by kernel_rfl))
 t0:=QQ
 a0:=Tryz.isAgg0
 z0:=Tryz.sizeOf0
 v0:=Q7
 t3:=ID
 a3:=OG
 z3:=Oj
 v3:=O1
 t4:=JK
 a4:=Qh
 z4:=OW
 v4:=O2
 t9:=Ja
 a9:=Qi
 z9:=OX
 v9:=O4
 t37:=Qp
 a37:=Tryz.isAgg266
 z37:=Tryz.sizeOf266
 v37:=Tryz.zeroValue266
 t127:=Tryz.underlying301
 a127:=Tryz.isAgg301
 z127:=Tryz.sizeOf301
 v127:=Tryz.zeroValue301
 t5:=OM
 a5:=Q8
 z5:=QL
 v5:=O3
 i0:=by kernel_rfl
 i3:=by kernel_rfl
 i4:=by kernel_rfl
 i5:=by kernel_rfl
 i9:=by kernel_rfl
 i37:=by kernel_rfl
 i127:=by kernel_rfl }
open Go.RowKit in
theorem Tryz.stringslite_Clone(s:ByteArray)(w:World)(acp:s.size<=281474976710656) :
 Calls AS 251 #[Y s] w λe w'=>e=By (Y s)/\Below w.heap.size w w':=Any.stringslite_Clone Tryz.GG s w acp
end Go.Proofs
namespace Go.Proofs.YtfidhgjmifendaaGreatDoor
open Go.RowKit
theorem AR(s:ByteArray)(w:World)(hs:s.size<=140737488355328) :
 kx 218 #[Y s] w (Y s):=by
 have HC:Hid (aF _ _ _ _):=Tryz.stringslite_Clone s w (by omega);go_enter Tryz.func218,Tryz.ntmps218;go_wp2_with fail;refine HC.out.mono ?_;rintro e w1 ⟨rfl,hb⟩;go_wp2_with fail;go_ret;exact⟨rfl,hb⟩
def yT(l:List UInt8):Option (ByteArray×List UInt8):=
 match mH l with
 |some (n,r)=>if 0<=n/\n<=r.length then AI (fC (r.take n.toNat),r.drop n.toNat) else be
 |none=>be
theorem L9{B g:Nat}{l r:List UInt8}{s:ByteArray}{w:World}(hV:Rv B w)(h:kd g l w)(hs:l.length<=140737488355328)(hl:yT l=AI (s,r)) :
 aF 179 #[Ie (AI ⟨g,0,be⟩)] w λe w'=>e=By (Y s)/\kd g r w'/\Rp g w w':=by
 unfold yT at hl;split at hl
 case h_2=>simp at hl
 rename_i n r' hn;have HN:Hid (aF _ _ _ _):=wR hV h hs hn;have hrl:=(db hn).2;clear hn h hV;split at hl
 case isFalse=>simp at hl
 rename_i hk;simp only[It,IP] at hl;obtain⟨rfl,rfl⟩:=hl;obtain⟨k,rfl⟩:∃k:Nat,n=(k:Int):=⟨n.toNat,by omega⟩;have AU:k<=r'.length:=by omega
 simp only[JO];obtain⟨R,hR⟩:∃R,R=fC r':=⟨_,rfl⟩;have Au:R.size=r'.length:=by rw[hR,jy]
 have yK:Hid (R.extract 0 k=fC (r'.take k)):=by show _=_;rw[hR,CK]
 have F6:Hid (R.extract k R.size=fC (r'.drop k)):=by show _=_;rw[hR,vB]
 have Ro:Hid (∀W,kx 218 #[Y (R.extract 0 k)] W (Y (R.extract 0 k))):=λW=>AR _ W (by rw[yK.out,jy,IA];omega);have hw:within (k:Int) 0 (R.size:Int)=true:=by unfold within;simp;omega
 have hkR:k<=R.size:=by omega
 have h0:((k:Int)).toNat=k:=by omega
 have h3:((R.size:Int)).toNat=R.size:=by omega
 have hkI:(k:Int)<=(R.size:Int):=by omega
 have hRb:R.size<=140737488355328:=by omega
 have Rq:Hid _:=hR;clear AU hrl hk hs hR Au;go_enter Tryz.func179,Tryz.ntmps179;go_wp2_with fail;refine HN.out.mono ?_;rintro e w1 ⟨rfl,hp,hr⟩;have HP:Hid (kd g r' w1/\Rp g w w1):=⟨hp,hr⟩;have c1:w1.cell? ⟨g,0,be⟩=AI (Y R):=by rw[Rq.out];exact hp.c0
 clear hp hr;go_wp2_with (first|(go_at_call 54;refine(cy _ _ _ _).mono ?_;rintro e w' ⟨rfl,rfl⟩;rw[hw])|(go_at_call 118;refine(jo _ _).mono ?_;rintro e w' ⟨rfl,rfl⟩));refine(Ro.out _).mono ?_;rintro e w4 ⟨rfl,eO⟩;have hp4:=HP.out.1.below eO;have HR4:Hid _:=HP.out.2.trans (Rp.cd eO (Ic _));obtain⟨c4',z4,g4⟩:=hp4;have c4:w4.cell? ⟨g,0,be⟩=AI (Y R):=by rw[Rq.out];exact c4'
 clear eO c4' c1;go_wp2_with fail;go_ret;refine⟨by rw[yK.out];rfl,⟨?_,by simpa using z4,by simpa using g4⟩,HR4.out.trans (Rp.set g _ _)⟩;rw[<- F6.out];exact World.cell?_setCell_same _ _ _ c4
theorem GH{W:World}{n:String}{g:Nat}{v:Value}(hg:Tryz.prog.globalNamed n=AI g)(h:W.var? AS n=AI #[v]):W.cell? ⟨g,0,be⟩=AI v/\g<W.heap.size:=by
 have h0:W.cell? ⟨g,0,be⟩=AI v:=by have:=World.var?_cell hg h 0;simpa using this
 exact⟨h0,World.block_lt_of_cell? W _ h0⟩
theorem Tryz.acs : Tryz.prog.globalNamed "internal/strconv.uint64pow10" = AI 3 := by kernel_rfl
theorem Tryz.Vv:(Tryz.prog.globals[3]?).map (·.type)=AI 336:=by kernel_rfl
theorem Tryz.gES : Tryz.prog.globalNamed "strconv.ErrSyntax" = AI 1 := by kernel_rfl
theorem Tryz.acu:(Tryz.prog.globals[1]?).map (·.type)=AI 253:=by kernel_rfl
theorem Tryz.gER : Tryz.prog.globalNamed "strconv.ErrRange" = AI 2 := by kernel_rfl
theorem Tryz.acv:(Tryz.prog.globals[2]?).map (·.type)=AI 253:=by kernel_rfl
theorem Tryz.acw:Tryz.prog.cellsOf 167=1:=by kernel_rfl
theorem Tryz.acx:Tryz.prog.cellsOf 336=20:=by kernel_rfl
theorem Tryz.cEs:Tryz.prog.cellsOf 334=1:=by kernel_rfl
theorem Tryz.c9:Tryz.prog.cellsOf 9=1:=by kernel_rfl
theorem GI : "*" ++ "errors.errorString" = "*errors.errorString" := by decide
theorem Tryz.Ph(u : TypeId)(h : Tryz.prog.typeName? 3 u = AI "*errors.errorString") : u = 332 :=
 typeName_ptr_named (nm := "errors.errorString") (by rw[GI]; kernel_rfl) (by kernel_rfl) (by decide) u (by rw[GI]; exact h)
theorem GJ:(Rows.laid_internal_strconv_uint64pow10:DataW Unit)=Lib.tabData .u64 Lib.pow10Tab:=by kernel_rfl
theorem Vi{W : World}(h : laidMetH AS [("math/bits.deBruijn32tab", Rows.laid_math_bits_deBruijn32tab), ("math/bits.deBruijn64tab", Rows.laid_math_bits_deBruijn64tab), ("internal/strconv.uint64pow10", Rows.laid_internal_strconv_uint64pow10), ("strconv.ErrRange", Rows.laid_strconv_ErrRange), ("strconv.ErrSyntax", Rows.laid_strconv_ErrSyntax)] W) : Rv W.heap.size W := by
 rw[MakeChecks.laidMetH_plain _ _ _ (by kernel_rfl)] at h;have h2:=h.tail.tail;rw[GJ] at h2;have hT:=Lib.tabIs_of_head Tryz.acs Tryz.Vv Tryz.underlying336 OP Tryz.acw Tryz.acx h2;have h3:=h2.tail;unfold Rows.laid_strconv_ErrRange at h3;obtain⟨a1,s1,Av,-,-,-⟩:=laid_sentinel h3 Tryz.gER Tryz.acv Tryz.underlying253 Tryz.Ph Tryz.underlying332 Tryz.underlying334 rfl rfl Ja Tryz.cEs Tryz.c9;have h4:=h3.tail;unfold Rows.laid_strconv_ErrSyntax at h4;obtain⟨a0,s0,Aw,-,-,-⟩:=laid_sentinel h4 Tryz.gES Tryz.acu Tryz.underlying253 Tryz.Ph Tryz.underlying332 Tryz.underlying334 rfl rfl Ja Tryz.cEs Tryz.c9;obtain⟨c1,l1⟩:=GH Tryz.gER Av;obtain⟨c0,l0⟩:=GH Tryz.gES Aw;exact⟨Lib.tabBelow_of_tabIs hT,⟨_,_,_,_,c0,c1⟩,l0,l1,Ic _⟩
end Go.Proofs.YtfidhgjmifendaaGreatDoor
