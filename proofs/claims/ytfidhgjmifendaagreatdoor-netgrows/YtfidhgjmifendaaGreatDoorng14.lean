import Derived.Test.YtfidhgjmifendaaGreatDoorng13
import Derived.Test.YtfidhgjmifendaaGreatDoorng10
import Derived.Shelf.RegionOpen
import Derived.Lib.Split
set_option maxHeartbeats 6400000
set_option maxRecDepth 100000
open Go.Lib renaming itoa→Qt,byteCells→Jq,indexByte→Jf,indexByte_ge→QT
open List renaming flatMap_cons→I1,length_append→Ih,length→Jt
open Go.Value renaming pointer→If,string→Y,bool→Ia,tuple→Im,slice→J,func→IP,int→U
open Go.Ending renaming returned→AT
open Option renaming some→AI,none→be
open Go.Proofs.Tryz renaming prog→AS
open Go.Obj renaming cells→By
open Nat renaming le_refl→Ic,le_trans→Ir,mul_le_mul_left→QY,lt_of_lt_of_le→IJ
open Bool renaming and_eq_true→IW
open Array renaming getElem?_eq_some_iff→BY
namespace Go.Proofs.YtfidhgjmifendaaGreatDoor
open Go.RowKit
def fL(n:Int):List UInt8:=Qt n++[59]
def mf(s:ByteArray):List UInt8:=fL s.size++s.data.toList
def wJ(y:Bool):List UInt8:=fL (if y=true then 1 else 0)
theorem mA(a b:List UInt8):Jq (a++b)=Jq a++Jq b:=by simp[Jq]
theorem rW(n:Int):bk n=Jq (fL n):=by
 unfold bk fL lX;rw[mA,Lib.strCells_toArray];rfl
theorem oW(s:ByteArray):aX s=Jq (mf s):=by
 unfold aX mf;rw[mA,rW];rfl
theorem wK(y:Bool):eJ y=Jq (wJ y):=rW _
theorem ni{α:Type}(f:α->List Value)(g:α->List UInt8)(h:∀x,f x=Jq (g x)):∀l:List α,l.flatMap f=Jq (l.flatMap g)
 |[]=>rfl
 |x::r=>by rw[I1,I1,mA,h,ni f g h r]
theorem rX(l:List Int):l.flatMap bk=Jq (l.flatMap fL):=ni bk fL rW l
def gI(m:Mem):List UInt8:=mf m.name++[m.state,m.aM,m.addr].flatMap fL++wJ m.server
theorem nW(m:Mem):dv m=Jq (gI m):=by
 unfold dv gI;simp only[mA,oW,wK,rX]
def Sv.gI(m:Sv.aW):List UInt8:=mf m.node++mf m.bq++mf m.name++mf m.tag++[m.addr,m.port].flatMap fL++wJ m.aj++[m.version].flatMap fL++wJ m.gone
theorem Sv.nW(m:Sv.aW):Sv.dv m=Jq (Sv.gI m):=by
 unfold Sv.dv Sv.gI;simp only[mA,oW,wK,rX]
def Gw.gI(m:Gw.bC):List UInt8:=mf m.aC++[m.addr,m.version].flatMap fL
theorem Gw.nW(m:Gw.bC):Gw.dv m=Jq (Gw.gI m):=by
 unfold Gw.dv Gw.gI;simp only[mA,oW,rX]
def Wh.gI(m:Wh.bJ):List UInt8:=mf m.node++[m.x,m.y,m.z,m.h,m.s].flatMap fL
theorem Wh.nW(m:Wh.bJ):Wh.dv m=Jq (Wh.gI m):=by
 unfold Wh.dv Wh.gI;simp only[mA,oW,rX]
def Pk.L(p:Pk):List Value:=aX p.cT++eJ p.whole++(bk p.ms.length++p.ms.flatMap dv)++(bk p.sv.length++p.sv.flatMap Sv.dv)++(bk p.gw.length++p.gw.flatMap Gw.dv)++(bk p.wh.length++p.wh.flatMap Wh.dv)
def Pk.B(p:Pk):List UInt8:=mf p.cT++wJ p.whole++(fL p.ms.length++p.ms.flatMap gI)++(fL p.sv.length++p.sv.flatMap Sv.gI)++(fL p.gw.length++p.gw.flatMap Gw.gI)++(fL p.wh.length++p.wh.flatMap Wh.gI)
theorem Pk.Vv(p:Pk):p.L=Jq p.B:=by
 unfold Pk.L Pk.B;simp only[mA,oW,wK,rW,ni dv gI nW,ni Sv.dv Sv.gI Sv.nW,ni Gw.dv Gw.gI Gw.nW,ni Wh.dv Wh.gI Wh.nW]
structure Pk.Vw(p:Pk):Prop where
 cT:p.cT.size<=1000
 ms:p.ms.length<=20/\∀m∈p.ms,j9 m
 sv:p.sv.length<=40/\∀m∈p.sv,Sv.j9 m
 gw:p.gw.length<=6/\∀m∈p.gw,Gw.j9 m
 wh:p.wh.length<=20/\∀m∈p.wh,Wh.j9 m
theorem yJ(B b:Nat)(p:Pk)(zm zs zg zw:Value)(w0 w:World)(h:cW B b [] w)(hx:jY w0 p zm zs zg zw)(hB:B=w0.heap.size)(oV:Below B w0 w)(gL:B<=w.heap.size)(hT:lY B w)(hY:p.Vw) :
 Calls AS 231 #[If (AI ⟨b,0,be⟩),.agg #[Y p.cT,Ia p.whole,zm,zs,zg,zw]] w λe w'=>e=AT (Im #[])/\cW B b p.L w'/\Kp B b w w':=by
 have TQ:Hid (p.L=aX p.cT++eJ p.whole++(bk p.ms.length++p.ms.flatMap dv)++(bk p.sv.length++p.sv.flatMap Sv.dv)++(bk p.gw.length++p.gw.flatMap Gw.dv)++(bk p.wh.length++p.wh.flatMap Wh.dv)):=rfl;have Gf:Hid (jY w0 p zm zs zg zw):=hx;have kX:Hid p.Vw:=hY;obtain⟨cT,whole,ms,sv,gw,wh⟩:=p;obtain⟨⟨pm,cm,rfl,_,_⟩,⟨ps,cs,rfl,_,_⟩,⟨pg,cg,rfl,_,_⟩,⟨ph,ch,rfl,_,_⟩,_,_⟩:=hx;simp only at TQ Gf ⊢;generalize Pk.L ⟨cT,whole,ms,sv,gw,wh⟩=PL at *;have gE:=h.lt;obtain⟨W0,bA⟩:∃W0,W0=(w.alloc (By #[If (AI ⟨b,0,be⟩)] 289)).alloc (By #[Y cT,Ia whole,J pm ms.length cm,J ps sv.length cs,J pg gw.length cg,J ph wh.length ch] 53):=⟨_,rfl⟩;have bM:Below w.heap.size w W0:=by rw[bA];exact((Below.refl _ _).alloc (Ic _) _).alloc (by simp) _
 have sI:Hid (cW B b [] W0):=h.below bM;have wH:Hid (Kp B b w W0):=Kp.b9 bM gL;have cY:Hid (W0.heap[w.heap.size]?=AI (By #[If (AI ⟨b,0,be⟩)] 289 (0,0))):=by rw[bA,Below.heap_alloc _ _ _ (by simp)];exact heap_alloc_new w _
 have vu:W0.heap[w.heap.size+1]?=AI (By #[Y cT,Ia whole,J pm ms.length cm,J ps sv.length cs,J pg gw.length cg,J ph wh.length ch] 53 (0,0)):=by
  have h:=heap_alloc_new (w.alloc (By #[If (AI ⟨b,0,be⟩)] 289)) (By #[Y cT,Ia whole,J pm ms.length cm,J ps sv.length cs,J pg gw.length cg,J ph wh.length ch] 53);rw[bA];simpa using h
 have CE:Hid _:=vu;have CF:Hid (([]:List Value).length<=0):=Ic _;have HT:Hid (lY B w):=hT;have An:Hid (Below B w0 w):=oV;clear h bM hT oV hY vu;have TR:=kX.out.cT;simp only at TR;have HCM:Hid (∀W bs,Kp B b w W->cW B b bs W->bs.length+66000<=600000->W.heap[w.heap.size]?=AI (By #[If (AI ⟨b,0,be⟩)] 289 (0,0))->Calls AS 261 #[If (AI ⟨b,0,be⟩),J pm ms.length cm,IP (.func 262) #[] #[If (AI ⟨w.heap.size,0,be⟩)]] W λe w'=>e=AT (Im #[])/\cW B b (bs++(bk ms.length++ms.flatMap dv)) w'/\Kp B b W w'):=λW bs hK hW hl mw=>
  ij B b w.heap.size ms _ bs w0 W hW Gf.out.ms hB (An.out.trans hK.jV) (by have:=kX.out.ms.1;simp only at this;omega) (by have:=kX.out.ms.1;simp only at this;omega) (Ir gL hK.size) (HT.out.below hK.jV) mw (by omega) kX.out.ms.2
 have acx:Hid ((bk ms.length++ms.flatMap dv).length<=21+3300*20):=by
  have g1:=dK ms kX.out.ms.2;have g2:=dG (cU (n:=ms.length) (by have:=kX.out.ms.1;simp only at this;omega));have g3:=kX.out.ms.1;simp only at g3;show(bk ms.length++ms.flatMap dv).length<=21+3300*20;rw[Ih];have g4:3300*ms.length<=3300*20:=QY _ g3;omega
 generalize(bk ms.length++ms.flatMap dv)=EM at *;have HCS:Hid (∀W bs,Kp B b w W->cW B b bs W->bs.length+352000<=600000->W.heap[w.heap.size]?=AI (By #[If (AI ⟨b,0,be⟩)] 289 (0,0))->Calls AS 264 #[If (AI ⟨b,0,be⟩),J ps sv.length cs,IP (.func 265) #[] #[If (AI ⟨w.heap.size,0,be⟩)]] W λe w'=>e=AT (Im #[])/\cW B b (bs++(bk sv.length++sv.flatMap Sv.dv)) w'/\Kp B b W w'):=λW bs hK hW hl mw=>
  Sv.ij B b w.heap.size sv _ bs w0 W hW Gf.out.sv hB (An.out.trans hK.jV) (by have:=kX.out.sv.1;simp only at this;omega) (by have:=kX.out.sv.1;simp only at this;omega) (Ir gL hK.size) (HT.out.below hK.jV) mw (by omega) kX.out.sv.2
 have acy:Hid ((bk sv.length++sv.flatMap Sv.dv).length<=21+8800*40):=by
  have g1:=Sv.dK sv kX.out.sv.2;have g2:=dG (cU (n:=sv.length) (by have:=kX.out.sv.1;simp only at this;omega));have g3:=kX.out.sv.1;simp only at g3;show(bk sv.length++sv.flatMap Sv.dv).length<=21+8800*40;rw[Ih];have g4:8800*sv.length<=8800*40:=QY _ g3;omega
 generalize(bk sv.length++sv.flatMap Sv.dv)=ES at *;have HCG:Hid (∀W bs,Kp B b w W->cW B b bs W->bs.length+13200<=600000->W.heap[w.heap.size]?=AI (By #[If (AI ⟨b,0,be⟩)] 289 (0,0))->Calls AS 266 #[If (AI ⟨b,0,be⟩),J pg gw.length cg,IP (.func 267) #[] #[If (AI ⟨w.heap.size,0,be⟩)]] W λe w'=>e=AT (Im #[])/\cW B b (bs++(bk gw.length++gw.flatMap Gw.dv)) w'/\Kp B b W w'):=λW bs hK hW hl mw=>
  Gw.ij B b w.heap.size gw _ bs w0 W hW Gf.out.gw hB (An.out.trans hK.jV) (by have:=kX.out.gw.1;simp only at this;omega) (by have:=kX.out.gw.1;simp only at this;omega) (Ir gL hK.size) (HT.out.below hK.jV) mw (by omega) kX.out.gw.2
 have acz:Hid ((bk gw.length++gw.flatMap Gw.dv).length<=21+2200*6):=by
  have g1:=Gw.dK gw kX.out.gw.2;have g2:=dG (cU (n:=gw.length) (by have:=kX.out.gw.1;simp only at this;omega));have g3:=kX.out.gw.1;simp only at g3;show(bk gw.length++gw.flatMap Gw.dv).length<=21+2200*6;rw[Ih];have g4:2200*gw.length<=2200*6:=QY _ g3;omega
 generalize(bk gw.length++gw.flatMap Gw.dv)=EG at *;have HCW:Hid (∀W bs,Kp B b w W->cW B b bs W->bs.length+44000<=600000->W.heap[w.heap.size]?=AI (By #[If (AI ⟨b,0,be⟩)] 289 (0,0))->Calls AS 268 #[If (AI ⟨b,0,be⟩),J ph wh.length ch,IP (.func 269) #[] #[If (AI ⟨w.heap.size,0,be⟩)]] W λe w'=>e=AT (Im #[])/\cW B b (bs++(bk wh.length++wh.flatMap Wh.dv)) w'/\Kp B b W w'):=λW bs hK hW hl mw=>
  Wh.ij B b w.heap.size wh _ bs w0 W hW Gf.out.wh hB (An.out.trans hK.jV) (by have:=kX.out.wh.1;simp only at this;omega) (by have:=kX.out.wh.1;simp only at this;omega) (Ir gL hK.size) (HT.out.below hK.jV) mw (by omega) kX.out.wh.2
 have acA:Hid ((bk wh.length++wh.flatMap Wh.dv).length<=21+2200*20):=by
  have g1:=Wh.dK wh kX.out.wh.2;have g2:=dG (cU (n:=wh.length) (by have:=kX.out.wh.1;simp only at this;omega));have g3:=kX.out.wh.1;simp only at g3;show(bk wh.length++wh.flatMap Wh.dv).length<=21+2200*20;rw[Ih];have g4:2200*wh.length<=2200*20:=QY _ g3;omega
 generalize(bk wh.length++wh.flatMap Wh.dv)=EW at *;clear kX Gf An;generalize ms.length=nm at *;generalize sv.length=ns at *;generalize gw.length=ng at *;generalize wh.length=nh at *;go_enter Tryz.func231,Tryz.ntmps231;go_upto_region 1 with fail
 rw[<- bA];clear bA;have y0:W0.cell? ⟨w.heap.size,0,be⟩=AI (If (AI ⟨b,0,be⟩)):=ae cY.out 0;have z0:W0.cell? ⟨w.heap.size+1,0,be⟩=AI (Y cT):=ae CE.out 0;go_wp2_with fail;refine(gx B b cT ([]) W0 sI.out (by have:=CF.out;omega) (Ir gL wH.out.size) (HT.out.below wH.out.jV)).mono ?_;rintro e W1 ⟨rfl,hw,hk⟩;have nV:Hid (cW B b ([]++aX cT) W1):=hw;have mc:Hid (Kp B b w W1):=wH.out.trans hk;have jW:Hid (W1.heap[w.heap.size+1]?=AI (By #[Y cT,Ia whole,J pm nm cm,J ps ns cs,J pg ng cg,J ph nh ch] 53 (0,0))):=hk.keeps CE.out (by omega) (by decide);have aY:Hid (W1.heap[w.heap.size]?=AI (By #[If (AI ⟨b,0,be⟩)] 289 (0,0))):=hk.keeps cY.out (by omega) (by decide);have vt:Hid (([]++aX cT).length<=1100):=by
  have g1:=CF.out;have g2:=dH TR;show Jt ([]++aX cT)<=_;rw[Ih];omega
 clear hw hk y0 z0;have y0:W1.cell? ⟨w.heap.size,0,be⟩=AI (If (AI ⟨b,0,be⟩)):=ae aY.out 0;have z0:=ae jW.out 1;go_wp2_with fail;refine(nf B b whole ([]++aX cT) W1 nV.out (by have:=vt.out;omega) (Ir gL mc.out.size) (HT.out.below mc.out.jV)).mono ?_;rintro e W2 ⟨rfl,hw,hk⟩;have DO:Hid (cW _ _ _ _):=hw;have oQ:Hid _:=mc.out.trans hk;have AO:Hid _:=hk.keeps jW.out (by omega) (by decide);have bp:Hid _:=hk.keeps aY.out (by omega) (by decide);have uG:Hid (([]++aX cT++eJ whole).length<=2200):=by
  have g1:=vt.out;have g2:=iN whole;show Jt ([]++aX cT++eJ whole)<=_;rw[Ih];omega
 clear hw hk y0 z0;have y0:=ae bp.out 0;have z0:=ae AO.out 2;go_wp2_with fail;refine(HCM.out W2 ([]++aX cT++eJ whole) oQ.out DO.out (by have:=uG.out;omega) bp.out).mono ?_;rintro e W3 ⟨rfl,hw,hk⟩;have yH:Hid (cW _ _ _ _):=hw;have uf:Hid _:=oQ.out.trans hk;have TM:Hid _:=hk.keeps AO.out (by omega) (by decide);have cF:Hid _:=hk.keeps bp.out (by omega) (by decide);have TO:Hid (([]++aX cT++eJ whole++EM).length<=68221):=by
  have g1:=uG.out;have g2:=acx.out;show Jt ([]++aX cT++eJ whole++EM)<=_;rw[Ih];omega
 clear hw hk y0 z0;have y0:=ae cF.out 0;have z0:=ae TM.out 3;go_wp2_with fail;refine(HCS.out W3 ([]++aX cT++eJ whole++EM) uf.out yH.out (by have:=TO.out;omega) cF.out).mono ?_;rintro e W4 ⟨rfl,hw,hk⟩;have HW4:Hid (cW _ _ _ _):=hw;have DP:Hid _:=uf.out.trans hk;have TP:Hid _:=hk.keeps TM.out (by omega) (by decide);have fE:Hid _:=hk.keeps cF.out (by omega) (by decide);have RN:Hid (([]++aX cT++eJ whole++EM++ES).length<=420242):=by
  have g1:=TO.out;have g2:=acy.out;show Jt ([]++aX cT++eJ whole++EM++ES)<=_;rw[Ih];omega
 clear hw hk y0 z0;have y0:=ae fE.out 0;have z0:=ae TP.out 4;go_wp2_with fail;refine(HCG.out W4 ([]++aX cT++eJ whole++EM++ES) DP.out HW4.out (by have:=RN.out;omega) fE.out).mono ?_;rintro e W5 ⟨rfl,hw,hk⟩;have Po:Hid (cW _ _ _ _):=hw;have AP:Hid _:=DP.out.trans hk;have Vs:Hid _:=hk.keeps TP.out (by omega) (by decide);have gX:Hid _:=hk.keeps fE.out (by omega) (by decide);have Vt:Hid (([]++aX cT++eJ whole++EM++ES++EG).length<=433463):=by
  have g1:=RN.out;have g2:=acz.out;show Jt ([]++aX cT++eJ whole++EM++ES++EG)<=_;rw[Ih];omega
 clear hw hk y0 z0;have y0:=ae gX.out 0;have z0:=ae Vs.out 5;go_wp2_with fail;refine(HCW.out W5 ([]++aX cT++eJ whole++EM++ES++EG) AP.out Po.out (by have:=Vt.out;omega) gX.out).mono ?_;rintro e W6 ⟨rfl,hw,hk⟩;have HW6:Hid (cW _ _ _ _):=hw;have Vu:Hid _:=AP.out.trans hk;have HX6:Hid _:=hk.keeps Vs.out (by omega) (by decide);have rD:Hid _:=hk.keeps gX.out (by omega) (by decide);have HL6:Hid (([]++aX cT++eJ whole++EM++ES++EG++EW).length<=477484):=by
  have g1:=Vt.out;have g2:=acA.out;show Jt ([]++aX cT++eJ whole++EM++ES++EG++EW)<=_;rw[Ih];omega
 clear hw hk y0 z0;have rC:Hid (cW B b PL W6):=by
  have h:=HW6.out;rw[TQ.out];simp only[List.append_assoc,List.nil_append] at h ⊢;exact h
 go_wp2_with fail;simp[bodyPost,results,Tryz.results231];exact⟨rC.out,Vu.out⟩
def fF(l:List UInt8):ByteArray:=⟨l.toArray⟩
theorem jx(l:List UInt8):(fF l).size=l.length:=by simp[fF,ByteArray.size]
end Go.Proofs.YtfidhgjmifendaaGreatDoor
namespace Go.Proofs
open Go.Shelf
def Tryz.wL:Go.Shelf.Ren:=⟨fun|172=>220|244=>253|245=>254|247=>277|279=>278|280=>279|281=>280|282=>281|287=>294|316=>251|171=>221|205=>295|321=>304|322=>305|243=>255|246=>282|283=>296|284=>297|285=>298|286=>299|129=>124|317=>306|318=>307|319=>308|320=>309|337=>311|338=>312|n=>n,fun|9=>9|3=>3|75=>253|76=>254|4=>4|5=>5|167=>306|37=>266|0=>0|85=>307|2=>2|168=>309|53=>167|175=>319|46=>129|210=>322|127=>301|145=>334|143=>332|21=>21|171=>324|173=>326|212=>336|51=>165|20=>20|213=>337|232=>340|233=>341|80=>210|n=>n,fun|15=>1|16=>2|17=>3|18=>4|19=>5|n=>n⟩
theorem Tryz.GN:Go.Proofs.LaysC.n172 AS Tryz.wL:={
 mixed:=by kernel_rfl
 f129:=Tryz.func124.trans (congrArg AI (by kernel_rfl))
 f171:=Tryz.func221.trans (congrArg AI (by kernel_rfl))
 f172:=Tryz.func220.trans (congrArg AI (by kernel_rfl))
 f205:=Tryz.func295.trans (congrArg AI (by kernel_rfl))
 f243:=Tryz.func255.trans (congrArg AI (by kernel_rfl))
 f244:=Tryz.func253.trans (congrArg AI (by kernel_rfl))
 f245:=Tryz.func254.trans (congrArg AI (by kernel_rfl))
 f246:=Tryz.func282.trans (congrArg AI (by kernel_rfl))
 f247:=Tryz.func277.trans (congrArg AI (by kernel_rfl))
 f279:=Tryz.func278.trans (congrArg AI (by kernel_rfl))
 f280:=Tryz.func279.trans (congrArg AI (by kernel_rfl))
 f281:=Tryz.func280.trans (congrArg AI (by kernel_rfl))
 f282:=Tryz.func281.trans (congrArg AI (by kernel_rfl))
 f283:=Tryz.func296.trans (congrArg AI (by kernel_rfl))
 f284:=Tryz.func297.trans (congrArg AI (by kernel_rfl))
 f285:=Tryz.func298.trans (congrArg AI (by kernel_rfl))
 f286:=Tryz.func299.trans (congrArg AI (by kernel_rfl))
 f287:=Tryz.func294.trans (congrArg AI (by kernel_rfl))
 f316:=Tryz.func251.trans (congrArg AI (by kernel_rfl))
 f317:=Tryz.func306.trans (congrArg AI (by kernel_rfl))
 f318:=Tryz.func307.trans (congrArg AI (by kernel_rfl))
 f319:=Tryz.func308.trans (congrArg AI (by kernel_rfl))
 f320:=Tryz.func309.trans (congrArg AI (by kernel_rfl))
 f321:=Tryz.func304.trans (congrArg AI (by kernel_rfl))
 f322:=Tryz.func305.trans (congrArg AI (by kernel_rfl))
 f337:=Tryz.func311.trans (congrArg AI (by kernel_rfl))
 f338:=Tryz.func312.trans (congrArg AI (by kernel_rfl))
 t0:=Tryz.underlying0
 a0:=Tryz.isAgg0
 z0:=Tryz.sizeOf0
 v0:=Tryz.zeroValue0
 t2:=Tryz.underlying2
 a2:=Tryz.isAgg2
 z2:=Tryz.sizeOf2
 v2:=Tryz.zeroValue2
 t3:=Tryz.underlying3
 a3:=Tryz.isAgg3
 z3:=Tryz.sizeOf3
 v3:=Tryz.zeroValue3
 t4:=Tryz.underlying4
 a4:=Tryz.isAgg4
 z4:=Tryz.sizeOf4
 v4:=Tryz.zeroValue4
 t5:=Tryz.underlying5
 a5:=Tryz.isAgg5
 z5:=Tryz.sizeOf5
 v5:=Tryz.zeroValue5
 t9:=Tryz.underlying9
 a9:=Tryz.isAgg9
 z9:=Tryz.sizeOf9
 v9:=Tryz.zeroValue9
 t20:=Tryz.underlying20
 a20:=Tryz.isAgg20
 z20:=Tryz.sizeOf20
 v20:=Tryz.zeroValue20
 t21:=Tryz.underlying21
 a21:=Tryz.isAgg21
 z21:=Tryz.sizeOf21
 v21:=Tryz.zeroValue21
 t37:=Tryz.underlying266
 a37:=Tryz.isAgg266
 z37:=Tryz.sizeOf266
 v37:=Tryz.zeroValue266
 t46:=Tryz.underlying129
 a46:=Tryz.isAgg129
 z46:=Tryz.sizeOf129
 v46:=Tryz.zeroValue129
 t51:=Tryz.underlying165
 a51:=Tryz.isAgg165
 z51:=Tryz.sizeOf165
 v51:=Tryz.zeroValue165
 t53:=Tryz.underlying167
 a53:=Tryz.isAgg167
 z53:=Tryz.sizeOf167
 v53:=Tryz.zeroValue167
 t75:=Tryz.underlying253
 a75:=Tryz.isAgg253
 z75:=Tryz.sizeOf253
 v75:=Tryz.zeroValue253
 t76:=Tryz.underlying254
 a76:=Tryz.isAgg254
 z76:=Tryz.sizeOf254
 v76:=Tryz.zeroValue254
 t85:=Tryz.underlying307
 a85:=Tryz.isAgg307
 z85:=Tryz.sizeOf307
 v85:=Tryz.zeroValue307
 t127:=Tryz.underlying301
 a127:=Tryz.isAgg301
 z127:=Tryz.sizeOf301
 v127:=Tryz.zeroValue301
 t143:=Tryz.underlying332
 a143:=Tryz.isAgg332
 z143:=Tryz.sizeOf332
 v143:=Tryz.zeroValue332
 t145:=Tryz.underlying334
 a145:=Tryz.isAgg334
 z145:=Tryz.sizeOf334
 v145:=Tryz.zeroValue334
 t167:=Tryz.underlying306
 a167:=Tryz.isAgg306
 z167:=Tryz.sizeOf306
 v167:=Tryz.zeroValue306
 t168:=Tryz.underlying309
 a168:=Tryz.isAgg309
 z168:=Tryz.sizeOf309
 v168:=Tryz.zeroValue309
 t171:=Tryz.underlying324
 a171:=Tryz.isAgg324
 z171:=Tryz.sizeOf324
 v171:=Tryz.zeroValue324
 t173:=Tryz.underlying326
 a173:=Tryz.isAgg326
 z173:=Tryz.sizeOf326
 v173:=Tryz.zeroValue326
 t175:=Tryz.underlying319
 a175:=Tryz.isAgg319
 z175:=Tryz.sizeOf319
 v175:=Tryz.zeroValue319
 t210:=Tryz.underlying322
 a210:=Tryz.isAgg322
 z210:=Tryz.sizeOf322
 v210:=Tryz.zeroValue322
 t212:=Tryz.underlying336
 a212:=Tryz.isAgg336
 z212:=Tryz.sizeOf336
 v212:=Tryz.zeroValue336
 t213:=Tryz.underlying337
 a213:=Tryz.isAgg337
 z213:=Tryz.sizeOf337
 t232:=Tryz.underlying340
 a232:=Tryz.isAgg340
 z232:=Tryz.sizeOf340
 v232:=Tryz.zeroValue340
 t233:=Tryz.underlying341
 a233:=Tryz.isAgg341
 z233:=Tryz.sizeOf341
 v233:=Tryz.zeroValue341
 g15:=by kernel_rfl
 g16:=by kernel_rfl
 g17:=by kernel_rfl
 g18:=by kernel_rfl
 g19:=by kernel_rfl
 t80:=Tryz.underlying210
 a80:=Tryz.isAgg210
 z80:=Tryz.sizeOf210
 v80:=Tryz.zeroValue210
 i0:=by kernel_rfl
 i2:=by kernel_rfl
 i3:=by kernel_rfl
 i4:=by kernel_rfl
 i5:=by kernel_rfl
 i9:=by kernel_rfl
 i20:=by kernel_rfl
 i21:=by kernel_rfl
 i37:=by kernel_rfl
 i46:=by kernel_rfl
 i51:=by kernel_rfl
 i53:=by kernel_rfl
 i75:=by kernel_rfl
 i76:=by kernel_rfl
 i80:=by kernel_rfl
 i85:=by kernel_rfl
 i127:=by kernel_rfl
 i143:=by kernel_rfl
 i145:=by kernel_rfl
 i167:=by kernel_rfl
 i168:=by kernel_rfl
 i171:=by kernel_rfl
 i173:=by kernel_rfl
 i175:=by kernel_rfl
 i210:=by kernel_rfl
 i212:=by kernel_rfl
 i232:=by kernel_rfl
 i233:=by kernel_rfl
 m15:=by kernel_rfl
 m16:=by kernel_rfl
 m17:=by kernel_rfl
 m18:=by kernel_rfl
 m19:=by kernel_rfl
 c0:=by kernel_rfl
 c2:=by kernel_rfl
 c3:=by kernel_rfl
 c4:=by kernel_rfl
 c5:=by kernel_rfl
 c9:=by kernel_rfl
 c20:=by kernel_rfl
 c21:=by kernel_rfl
 c37:=by kernel_rfl
 c46:=by kernel_rfl
 c51:=by kernel_rfl
 c53:=by kernel_rfl
 c75:=by kernel_rfl
 c76:=by kernel_rfl
 c80:=by kernel_rfl
 c85:=by kernel_rfl
 c127:=by kernel_rfl
 c143:=by kernel_rfl
 c145:=by kernel_rfl
 c167:=by kernel_rfl
 c168:=by kernel_rfl
 c171:=by kernel_rfl
 c173:=by kernel_rfl
 c175:=by kernel_rfl
 c210:=by kernel_rfl
 c212:=by kernel_rfl
 c213:=by kernel_rfl
 c232:=by kernel_rfl
 c233:=by kernel_rfl }
open Go.RowKit in
theorem Tryz.strconv_Atoi_ok(s:ByteArray)(acB:s.size<=9223372036854775806)(v:Int)(h:Lib.atoiAll s.data.toList=.ok v)(w:World) :
 Calls AS 220 #[Y s] w λe w'=>e=AT (Im #[U .i64 v,.nilIface])/\(w'=w\/∃t,w'=Lib.bytesWorld w 5 t):=Any.strconv_Atoi_ok Tryz.GN s acB v h w
end Go.Proofs
namespace Go.Proofs.YtfidhgjmifendaaGreatDoor
open Go.RowKit
theorem CG(c:UInt8):∀{l:List UInt8} {i:Nat},Jf l c=(i:Int)->i<l.length
 |[],i,h=>by unfold Jf at h;omega
 |x::r,i,h=>by
  unfold Jf at h;split at h
  .simp;omega
  .split at h
   .omega
   .rename_i h2
    have hg:=QT r c
    obtain⟨j,rfl⟩:∃j,i=j+1:=⟨i-1,by have:Jf r c ≠ -1:=by simpa using h2
                                    omega⟩
    have:=CG c (l:=r) (i:=j) (by omega);simp;omega
theorem kJ(l:List UInt8):(fF l).data.toList=l:=by simp[fF]
theorem CH(s:ByteArray):fF s.data.toList=s:=rfl
theorem CI(l:List UInt8)(i:Nat):(fF l).extract 0 i=fF (l.take i):=by
 rw[<- CH ((fF l).extract 0 i),Lib.extract_from_zero,kJ]
theorem vv(l:List UInt8)(i:Nat):(fF l).extract i (fF l).size=fF (l.drop i):=by
 rw[<- CH ((fF l).extract i (fF l).size),Lib.extract_to_end,kJ]
theorem below_drewN{B:Nat}{w w1:World}(h:Below B w w1)(m:Nat):Below B w (w1.drewN m):=⟨h.os,h.tape,h.output,h.size,h.block⟩
theorem AU(s:ByteArray)(i:Nat)(w:World)(h:Jf s.data.toList 59=(i:Int))(hs:s.size<=140737488355328) :
 aF 252 #[Y s,Y ⟨#[59]⟩] w λe w'=>e=AT (Im #[Y (s.extract 0 i),Y (s.extract (i+1) s.size),Ia true])/\∃n,w'=w.drewN n:=by
 have hi:i<s.size:=by have:=CG 59 h;simpa using this
 have h0:((i:Int)).toNat=i:=by omega
 have h1:IntKind.i64.wrap ((i:Int)+1)=((i+1:Nat):Int):=by rw[IntKind.wrap_i64];omega
 have h2:(((i+1:Nat):Int)).toNat=i+1:=by omega
 have h3:((s.size:Int)).toNat=s.size:=by omega
 go_enter Tryz.func252,Tryz.ntmps252;go_wp2_with (go_at_call 276;refine(Tryz.stringslite_Index_one s 59 _).mono ?_;rintro e w' ⟨rfl,rfl⟩;rw[h]);go_quiet (fail)
 go_wp2_with fail;go_ret3
 exact⟨rfl,⟨_,rfl⟩⟩
theorem DR(l:List UInt8)(i:Nat)(w:World)(h:Jf l 59=(i:Int))(hs:l.length<=140737488355328) :
 kt 219 #[Y (fF l),Y ⟨#[59]⟩] w (Im #[Y (fF (l.take i)),Y (fF (l.drop (i+1))),Ia true]):=by
 have h':Jf (fF l).data.toList 59=i:=by rw[kJ];exact h
 have hs':(fF l).size<=140737488355328:=by rw[jx];exact hs
 rw[<- CI,<- vv];generalize fF l=s at *;go_enter Tryz.func219,Tryz.ntmps219;go_wp2_with (go_at_call 252;refine(AU s i _ h' hs').mono ?_;rintro e w' ⟨rfl,n,rfl⟩);go_ret3
 exact⟨rfl,below_drewN (Below.refl _ _) _⟩
def Er(w:World):Prop:=∃a b p q,w.cell? ⟨1,0,be⟩=AI (.iface a p)/\w.cell? ⟨2,0,be⟩=AI (.iface b q)
theorem Er.below{B:Nat}{w w':World}(h:Er w)(hb:Below B w w')(h1:1<B)(h2:2<B):Er w':=by
 obtain⟨a,b,p,q,e1,e2⟩:=h;exact⟨a,b,p,q,(hb.cell (p:=⟨1,0,be⟩) h1).trans e1,(hb.cell (p:=⟨2,0,be⟩) h2).trans e2⟩
theorem Mo(l:List UInt8)(v:Int)(w:World)(hs:l.length<=140737488355328)(h:Lib.atoiAll l=.ok v) :
 kt 220 #[Y (fF l)] w (Im #[U .i64 v,.nilIface]):=by
 refine(Tryz.strconv_Atoi_ok (fF l) (by rw[jx];omega) v (by rw[kJ];exact h) w).mono ?_;rintro e w' ⟨rfl,rfl|⟨t,rfl⟩⟩
 .exact⟨rfl,Below.refl _ _⟩
 .exact⟨rfl,Lib.bytesWorld_below _ _ _⟩
def mB(l:List UInt8):Option (Int×List UInt8):=
 if Jf l 59 = -1 then be
 else match Lib.atoiAll (l.take (Jf l 59).toNat) with
  | .ok n=>if Qt n=l.take (Jf l 59).toNat then AI (n,l.drop ((Jf l 59).toNat+1)) else be
  |_=>be
structure kb(g:Nat)(l:List UInt8)(w:World):Prop where
 c0:w.cell? ⟨g,0,be⟩=AI (Y (fF l))
 hz:w.frozen? ⟨g,0,be⟩=false
 hg:g<w.heap.size
structure Rp(g:Nat)(w w':World):Prop where
 os:w'.os=w.os
 tape:w'.tape=w.tape
 output:w'.output=w.output
 size:w.heap.size<=w'.heap.size
 block:∀k:Nat,k<w.heap.size->k≠g->w'.heap[k]?=w.heap[k]?
theorem Rp.refl(g:Nat)(w:World):Rp g w w:=⟨rfl,rfl,rfl,Ic _,λ_ _ _=>rfl⟩
theorem Rp.trans{g:Nat}{w w1 w2:World}(h:Rp g w w1)(h2:Rp g w1 w2):Rp g w w2:=
 ⟨h2.os.trans h.os,h2.tape.trans h.tape,h2.output.trans h.output,Ir h.size h2.size,λk hk hg=>(h2.block k (IJ hk h.size) hg).trans (h.block k hk hg)⟩
theorem Rp.below{g B:Nat}{w w':World}(h:Rp g w w')(hb:B<=g)(hB:B<=w.heap.size):Below B w w':=
 ⟨h.os,h.tape,h.output,h.size,λk hk=>h.block k (by omega) (by omega)⟩
theorem Rp.b9{g B:Nat}{w w':World}(h:Below B w w')(hb:w.heap.size<=B):Rp g w w':=
 ⟨h.os,h.tape,h.output,h.size,λk hk _=>h.block k (by omega)⟩
theorem Rp.set(g:Nat)(w:World)(v:Value):Rp g w (w.setCell ⟨g,0,be⟩ v):=
 ⟨rfl,rfl,rfl,by simp,λk _ hg=>Below.heap_setCell w _ _ k hg⟩
theorem kb.below{g:Nat}{l:List UInt8}{w w':World}(h:kb g l w)(hx:Below w.heap.size w w'):kb g l w' where
 c0:=(hx.cell (p:=⟨g,0,be⟩) h.hg).trans h.c0
 hz:=by have:=h.hz;simp only[World.frozen?,hx.block g h.hg] at this ⊢;exact this
 hg:=IJ h.hg hx.size
theorem DS(g B:Nat)(l r:List UInt8)(n:Int)(w:World)(h:kb g l w)(hs:l.length<=140737488355328)(hl:mB l=AI (n,r))(hT:lY B w)(hB:B<=w.heap.size) :
 aF 183 #[If (AI ⟨g,0,be⟩)] w λe w'=>e=AT (U .i64 n)/\kb g r w'/\Rp g w w':=by
 unfold mB at hl;split at hl
 .simp at hl
 rename_i aT;obtain⟨i,hi⟩:∃i:Nat,Jf l 59=(i:Int):=⟨(Jf l 59).toNat,by have:=QT l 59;omega⟩;have aR:=CG 59 hi;rw[hi] at hl;simp only[Int.toNat_natCast] at hl;split at hl
 case h_2=>simp at hl
 rename_i m hm;split at hl
 case isFalse=>simp at hl
 rename_i hd;simp only[Option.some.injEq,Prod.mk.injEq] at hl;obtain⟨rfl,rfl⟩:=hl;have acC:=Lib.atoiAll_bounds hm;have HC:Hid (aF _ _ _ _):=DR l i w hi hs;have HA:Hid (∀W,aF _ _ _ _):=λW=>Mo _ m W (by rw[List.length_take];omega) hm;have HI:Hid (∀W,Below w.heap.size w W->kt 221 #[U .i64 m] W (Y (fF (l.take i)))):=λW hW=>by
  have:=yG m B W acC (hT.below (hW.mono hB));rw[show lX m=fF (l.take i) by rw[<- hd];rfl] at this;exact this
 have HP:Hid _:=h;have hc:=h.c0;clear h hT hd hm hi aT aR hs;generalize fF (l.take i)=D at *;have HR:Hid (∃R,R=fF (l.drop (i+1))):=⟨_,rfl⟩;go_enter Tryz.func183,Tryz.ntmps183;go_wp2_with fail;refine HC.out.mono ?_;rintro e w1 ⟨rfl,aB⟩;have aY:Hid _:=aB;clear aB;go_wp2_with fail;refine(HA.out w1).mono ?_;rintro e w2 ⟨rfl,aI⟩;have bp:Hid _:=aY.out.trans (aI.mono aY.out.size);clear aI;go_wp2_with fail;refine(HI.out w2 bp.out).mono ?_;rintro e w3 ⟨rfl,bU⟩;have cF:Hid _:=bp.out.trans (bU.mono bp.out.size);clear bU;have hP3:=HP.out.below cF.out;obtain⟨c3,z3,g3⟩:=hP3;clear hc;go_wp2_with (go_at_call 118;refine(ji _ _).mono ?_;rintro e w' ⟨rfl,rfl⟩);go_ret;refine⟨rfl,⟨World.cell?_setCell_same _ _ _ c3,by simpa using z3,by simpa using g3⟩,(Rp.b9 cF.out (Ic _)).trans (Rp.set g _ _)⟩
theorem Tryz.cellsByte:Tryz.prog.cellsOf 5=1:=by kernel_rfl
theorem AV(B b:Nat)(l:List UInt8)(w:World)(h:cW B b (Jq l) w)(h0:l≠[]) :
 aF 232 #[If (AI ⟨b,0,be⟩)] w λe w'=>e=AT (Y ⟨l.toArray⟩)/\Below B w w':=by
 obtain⟨p,hB,v,CA,hown,aT⟩:∃p,LK B b p (Jq l) w:=by
  rcases h with h|h
  .exact⟨_,h⟩
  .exact⟨_,h⟩
 have Pr:l.length≠0:=by simpa using h0
 rw[Lib.byteCells_length] at hown;obtain⟨g,cap,cur,rfl,ey,hg,fK,dN,bZ,bf⟩:∃g cap cur,v=J (AI ⟨g,0,be⟩) l.length cap/\B<=g/\w.heap[g]?=AI (By cur 5 (0,0))/\l.length<=cap/\cap<=maxLen/\cur.size=cap*1/\cur.toList.take (l.length*1)=Jq l:=by
  rcases hown.2 with⟨_,hz⟩|⟨g,cap,cur,hv,r⟩
  .exact absurd hz Pr
  .exact⟨g,cap,cur,hv,r⟩
 have c1:w.drew.cell? ⟨b,1,be⟩=AI (J (AI ⟨g,0,be⟩) l.length cap):=by
  have:w.drew.heap[b]?=AI (By #[p,J (AI ⟨g,0,be⟩) l.length cap] 270 (0,0)):=CA
  rw[Lib.cell_of_heap this];rfl
 have hSD:(Builtin.unsafeSliceData_ #[266] 301 #[J (AI ⟨g,0,be⟩) l.length cap]).run AS w.drew=.ok (If (AI ⟨g,0,be⟩)) w.drew:=
  Lib.run_unsafeSliceData_row _ _ _ _ _ _ (by omega)
 have hUS:(Builtin.unsafeString_ #[301,3] 9 #[If (AI ⟨g,0,be⟩),U .i64 l.length]).run AS w.drew=.ok (Y ⟨l.toArray⟩) (w.drew.freeze ⟨g,0,be⟩ l.length):=by
  refine Lib.run_unsafeString_row w.drew 301 3 9 5 Tryz.underlying301 Tryz.cellsByte g cur.size (by have uH:w.drew.heap[g]?=AI (By cur 5 (0,0)):=hg;simp[World.shape?,uH]) l h0 (by omega) (by unfold maxLen at dN;omega) ?_;intro j x hx;have:=hown.cells (g:=g) rfl j (U .u8 x.toNat) (by simp[Jq,hx]);exact this
 have mixed:Tryz.prog.follows .mixedOrders=true:=by kernel_rfl
 go_enter Tryz.func232,Tryz.ntmps232;go_wp2_with fail;go_region_o
 all_goals (go_wp2;go_ret;exact⟨rfl,Lib.below_freeze (Below.drew (Below.refl B w)) (p:=⟨g,0,be⟩) ey _⟩)
theorem iO{s:ByteArray}(h:ba s=true):s.size<=1000:=by
 unfold ba at h;simp only[IW,decide_eq_true_eq] at h;have:=h.1.2;omega
theorem GO{s:ByteArray}(h:Sv.lE s=true):s.size<=1000:=by
 unfold Sv.lE at h;rw[Bool.or_eq_true,decide_eq_true_eq] at h;rcases h with rfl|h
 .show 0<=1000;omega
 .exact iO h
theorem gy{n a b:Int}(h:within n a b=true)(ha : -9223372036854775808<=a)(hb:b<=9223372036854775807):fR n:=by
 unfold within at h;rw[IW,decide_eq_true_eq,decide_eq_true_eq] at h;exact⟨by omega,by omega⟩
theorem Vx{m:Mem}(h:m.e=0):j9 m:=by
 unfold Mem.e uI at h;split at h
 .rename_i h1
  split at h
  .rename_i h2
   split at h
   .rename_i h3
    split at h
    .rename_i h4
     exact⟨iO h1,gy h2 (by omega) (by omega),gy h3 (by omega) (by omega),gy h4 (by omega) (by omega)⟩
    .cases h
   .cases h
  .cases h
 .cases h
theorem acD{m:Sv.aW}(h:m.e=0):Sv.j9 m:=by
 unfold Sv.aW.e at h;split at h
 .rename_i h1
  split at h
  .rename_i h2
   simp only[IW] at h1 h2;exact⟨iO h1.1,iO h1.2.1,iO h1.2.2.1,GO h1.2.2.2,gy h2.1 (by omega) (by omega),gy h2.2.1 (by omega) (by omega),gy h2.2.2 (by omega) (by omega)⟩
  .cases h
 .cases h
theorem acE{m:Gw.bC}(h:m.e=0):Gw.j9 m:=by
 unfold Gw.bC.e at h;split at h
 .rename_i h1
  split at h
  .rename_i h2
   split at h
   .rename_i h3
    exact⟨iO h1,gy h2 (by omega) (by omega),gy h3 (by omega) (by omega)⟩
   .cases h
  .cases h
 .cases h
theorem acF{m:Wh.bJ}(h:m.e=0):Wh.j9 m:=by
 unfold Wh.bJ.e at h;split at h
 .rename_i h1
  obtain⟨a0,a1,a2,a3,a4,a5,a6,a7,a8,a9⟩:=(nj _).1 h;simp only at a0 a1 a2 a3 a4 a5 a6 a7 a8 a9;exact⟨iO h1,⟨by omega,by omega⟩,⟨by omega,by omega⟩,⟨by omega,by omega⟩,⟨by omega,by omega⟩,⟨by omega,by omega⟩⟩
 .cases h
theorem AW{ms:List Mem}(h:bj ms=0):aU ms=0:=(af h).2.2
theorem nX{p:Pk}(h:p.e=0):p.Vw:=by
 unfold Pk.e at h;split at h
 .rename_i h0
  rw[IW] at h0;split at h
  .rename_i h1
   have hm:p.ms.length<=20/\∀m∈p.ms,j9 m:=by
    unfold Pk.mE at h1;split at h1
    .exact⟨(af h1).1,λm hm=>Vx (bb _ (AW h1) m hm)⟩
    .obtain⟨a,b,_⟩:=vy h1
     exact⟨by omega,λm hm=>Vx (bb _ b m hm)⟩
   split at h
   .rename_i h2
    split at h
    .rename_i h3
     exact⟨iO h0.1,hm,⟨(Sv.af h2).1,λm hm=>acD (Sv.bb _ (Sv.af h2).2.2 m hm)⟩,⟨(Gw.af h3).1,λm hm=>acE (Gw.bb _ (Gw.af h3).2.2 m hm)⟩,⟨(Wh.af h).1,λm hm=>acF (Wh.bb _ (Wh.af h).2.2 m hm)⟩⟩
    .rename_i h3;exact absurd h h3
   .rename_i h2;exact absurd h h2
  .rename_i h1;exact absurd h h1
 .cases h
def Pk.T(p:Pk):ByteArray:=if p.e=0 then⟨p.B.toArray⟩ else⟨#[]⟩
theorem Pk.acG(p:Pk):p.B≠[]:=by
 unfold Pk.B mf fL;simp
theorem nY(p:Pk)(zm zs zg zw:Value)(w:World)(hx:jY w p zm zs zg zw)(hlen:p.whole=true\/p.sv.length+p.gw.length+p.wh.length<=4611686018427387904)(hT:lY w.heap.size w) :
 kt 199 #[.agg #[Y p.cT,Ia p.whole,zm,zs,zg,zw]] w (Im #[Y p.T,U .i64 p.e]):=by
 have mr:Hid (∀W,Below w.heap.size w W->aF _ _ _ _):=λW hW=>lA p zm zs zg zw W (hx.below hW) hlen;have HWP:Hid (p.e=0->∀W b,Below w.heap.size w W->cW w.heap.size b [] W->aF 231 #[If (AI ⟨b,0,be⟩),.agg #[Y p.cT,Ia p.whole,zm,zs,zg,zw]] W λe w'=>e=AT (Im #[])/\cW w.heap.size b (Jq p.B) w'/\Kp w.heap.size b W w'):=λh0 W b hW hI=>by
  have h:=yJ w.heap.size b p zm zs zg zw w W hI hx rfl hW hW.size (hT.below hW) (nX h0);rw[p.Vv] at h;exact h
 have yb:Hid (p.T=if p.e=0 then⟨p.B.toArray⟩ else⟨#[]⟩):=rfl;have HNE:Hid _:=p.acG;generalize p.B=PB at *;generalize p.T=PT at *;generalize p.e=pe at *;obtain⟨cT,whole,ms,sv,gw,wh⟩:=p;obtain⟨⟨pm,cm,rfl,_,_⟩,⟨ps,cs,rfl,_,_⟩,⟨pg,cg,rfl,_,_⟩,⟨ph,ch,rfl,_,_⟩,_,_⟩:=hx;simp only at mr HWP ⊢;generalize ms.length=nm at *;generalize sv.length=ns at *;generalize gw.length=ng at *;generalize wh.length=nh at *;clear hlen hT;obtain⟨W0,bA,bM,-,dF⟩:=bV w #[Y cT,Ia whole,J pm nm cm,J ps ns cs,J pg ng cg,J ph nh ch] 53;have cY:Hid _:=bM;have AM:Hid _:=dF;have p0:=ae dF 0;have p1:=ae dF 1;have p2:=ae dF 2;have p3:=ae dF 3;have p4:=ae dF 4;have p5:=ae dF 5;clear bM dF;go_enter Tryz.func199,Tryz.ntmps199;go_upto_region 1 with fail
 rw[<- bA];clear bA;go_wp2_with fail;refine(mr.out W0 cY.out).mono ?_;rintro e w1 ⟨rfl,aB⟩;have aY:Hid _:=cY.out.trans (aB.mono cY.out.size);have cI:=(aB.block _ (BY.1 AM.out).1).trans AM.out;have uJ:Hid _:=cI;clear aB cI p0 p1 p2 p3 p4 p5;by_cases h0:pe=0;rotate_left
 .have wM:Hid _:=yb.out.trans (if_neg h0)
  have h1:(pe !=0)=true:=by simpa using h0
  clear h0;go_wp2_with fail;refine bodyPost_ret (v:=Im #[Y ⟨#[]⟩,U .i64 pe]) ?_ rfl ?_
  .simp[results,Tryz.results199,go_sem]
  .exact⟨by rw[wM.out],aY.out⟩
 .subst h0
  have wM:Hid _:=yb.out.trans (if_pos rfl);have HWQ:=HWP.out rfl;have Ps:Hid _:=HWQ;clear HWQ HWP yb;obtain⟨W2,bL,aI,-,sJ⟩:=bV w1 #[If be,J be 0 0] 270;have TS:Hid (cW w.heap.size w1.heap.size [] W2):=.inl ⟨aY.out.size,J be 0 0,sJ,⟨by simp,.inl ⟨rfl,rfl⟩⟩,by simp[Value.ownBlock]⟩;have yB:=aY.out.trans (aI.mono aY.out.size);have oS:Hid _:=yB;have dS:=(aI.block _ (BY.1 uJ.out).1).trans uJ.out;have p0:=ae dS 0;have p1:=ae dS 1;have p2:=ae dS 2;have p3:=ae dS 3;have p4:=ae dS 4;have p5:=ae dS 5;clear aI sJ dS yB;go_upto_region 5 with fail
  rw[<- bL];clear bL;go_wp2_with fail;refine(Ps.out W2 w1.heap.size oS.out TS.out).mono ?_;rintro e w3 ⟨rfl,h3,jw⟩;have HI3:Hid (cW _ _ _ _):=h3;have cF:Hid _:=oS.out.trans jw.jV;clear h3 jw p0 p1 p2 p3 p4 p5;go_wp2_with fail;refine(AV w.heap.size w1.heap.size PB w3 HI3.out HNE.out).mono ?_;rintro e w4 ⟨rfl,eP⟩;have fE:Hid _:=cF.out.trans eP;clear eP;go_wp2_with fail;refine bodyPost_ret (v:=Im #[Y ⟨PB.toArray⟩,U .i64 0]) ?_ rfl ?_
  .simp[results,Tryz.results199,go_sem]
  .exact⟨by rw[wM.out],fE.out⟩
end Go.Proofs.YtfidhgjmifendaaGreatDoor
