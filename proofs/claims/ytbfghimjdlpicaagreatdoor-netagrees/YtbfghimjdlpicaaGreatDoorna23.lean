import Derived.Test.YtbfghimjdlpicaaGreatDoorna1
import Derived.Lib.AppendIntMem
import Derived.Deep.Cut
set_option maxHeartbeats 6400000
set_option maxRecDepth 100000
open Option renaming some→AI,none→be
open Go.Value renaming int→U,string→Y,pointer→If,slice→J,tuple→Ip,bool→Ia
open Go.IntKind renaming i64→O
open Go.Ending renaming returned→AT
open Go.Lib renaming itoa→QG,strCells→Ow,strCells_length→Q6
open Array renaming getElem?_eq_some_iff→BY
open Nat renaming le_refl→Ie,le_trans→Is
open List renaming length_cons→Iy,length_append→Ii,getD→Ir,getElem?_eq_getElem→Ic,append_assoc→Iq,mem_cons→IN,not_mem_nil→JE,length_nil→IX,length→Jz
open Go.Obj renaming cells→By
open Go.RowKit.Below renaming refl→Ib
open Go renaming bodyPost→J2,heap_alloc_new→Ij
namespace Go.Proofs
open Go.Shelf
def Tryz.zv:Go.Shelf.Ren:=⟨fun|171=>255|243=>280|246=>294|283=>303|284=>304|285=>305|286=>306|129=>166|317=>312|318=>313|319=>314|320=>315|337=>316|338=>317|n=>n,fun|3=>3|9=>9|2=>2|4=>4|171=>331|0=>0|53=>202|37=>258|5=>5|173=>333|212=>344|51=>200|20=>20|213=>345|46=>161|232=>346|233=>347|n=>n,fun|17=>3|18=>4|19=>5|n=>n⟩
theorem Tryz.M7:Go.Proofs.LaysM.n171 Tryz.prog Tryz.zv:={
 mixed:=by kernel_rfl
 f129:=Tryz.func166.trans (congrArg AI (by kernel_rfl))
 f171:=Tryz.func255.trans (congrArg AI (by kernel_rfl))
 f243:=Tryz.func280.trans (congrArg AI (by kernel_rfl))
 f246:=Tryz.func294.trans (congrArg AI (by kernel_rfl))
 f283:=Tryz.func303.trans (congrArg AI (by kernel_rfl))
 f284:=Tryz.func304.trans (congrArg AI (by kernel_rfl))
 f285:=Tryz.func305.trans (congrArg AI (by kernel_rfl))
 f286:=Tryz.func306.trans (congrArg AI (by kernel_rfl))
 f317:=Tryz.func312.trans (congrArg AI (by kernel_rfl))
 f318:=Tryz.func313.trans (congrArg AI (by kernel_rfl))
 f319:=Tryz.func314.trans (congrArg AI (by kernel_rfl))
 f320:=Tryz.func315.trans (congrArg AI (by kernel_rfl))
 f337:=Tryz.func316.trans (congrArg AI (by kernel_rfl))
 f338:=Tryz.func317.trans (congrArg AI (by kernel_rfl))
 t0:=Tryz.underlying0
 a0:=Tryz.isAgg0
 z0:=Tryz.sizeOf0
 v0:=Tryz.zeroValue0
 t2:=Tryz.underlying2
 a2:=Tryz.isAgg2
 z2:=Tryz.sizeOf2
 v2:=Tryz.zeroValue2
 t3:=Tryz.underlying3
 a3:=Tryz.isAgg3
 z3:=Tryz.sizeOf3
 v3:=Tryz.zeroValue3
 t4:=Tryz.underlying4
 a4:=Tryz.isAgg4
 z4:=Tryz.sizeOf4
 v4:=Tryz.zeroValue4
 t5:=Tryz.underlying5
 a5:=Tryz.isAgg5
 z5:=Tryz.sizeOf5
 v5:=Tryz.zeroValue5
 t9:=Tryz.underlying9
 a9:=Tryz.isAgg9
 z9:=Tryz.sizeOf9
 v9:=Tryz.zeroValue9
 t20:=Tryz.underlying20
 a20:=Tryz.isAgg20
 z20:=Tryz.sizeOf20
 v20:=Tryz.zeroValue20
 t37:=Tryz.underlying258
 a37:=Tryz.isAgg258
 z37:=Tryz.sizeOf258
 v37:=Tryz.zeroValue258
 t46:=Tryz.underlying161
 a46:=Tryz.isAgg161
 z46:=Tryz.sizeOf161
 v46:=Tryz.zeroValue161
 t51:=Tryz.underlying200
 a51:=Tryz.isAgg200
 z51:=Tryz.sizeOf200
 v51:=Tryz.zeroValue200
 t53:=Tryz.underlying202
 a53:=Tryz.isAgg202
 z53:=Tryz.sizeOf202
 v53:=Tryz.zeroValue202
 t171:=Tryz.underlying331
 a171:=Tryz.isAgg331
 z171:=Tryz.sizeOf331
 v171:=Tryz.zeroValue331
 t173:=Tryz.underlying333
 a173:=Tryz.isAgg333
 z173:=Tryz.sizeOf333
 v173:=Tryz.zeroValue333
 t212:=Tryz.underlying344
 a212:=Tryz.isAgg344
 z212:=Tryz.sizeOf344
 v212:=Tryz.zeroValue344
 t213:=Tryz.underlying345
 a213:=Tryz.isAgg345
 z213:=Tryz.sizeOf345
 t232:=Tryz.underlying346
 a232:=Tryz.isAgg346
 z232:=Tryz.sizeOf346
 v232:=Tryz.zeroValue346
 t233:=Tryz.underlying347
 a233:=Tryz.isAgg347
 z233:=Tryz.sizeOf347
 v233:=Tryz.zeroValue347
 g17:=by kernel_rfl
 g18:=by kernel_rfl
 g19:=by kernel_rfl
 i0:=by kernel_rfl
 i2:=by kernel_rfl
 i3:=by kernel_rfl
 i4:=by kernel_rfl
 i5:=by kernel_rfl
 i9:=by kernel_rfl
 i20:=by kernel_rfl
 i37:=by kernel_rfl
 i46:=by kernel_rfl
 i51:=by kernel_rfl
 i53:=by kernel_rfl
 i171:=by kernel_rfl
 i173:=by kernel_rfl
 i212:=by kernel_rfl
 i232:=by kernel_rfl
 i233:=by kernel_rfl
 m17:=by kernel_rfl
 m18:=by kernel_rfl
 m19:=by kernel_rfl }
open Go.RowKit Go.Sort Go.Lib in
theorem Tryz.strconv_Itoa(n : Int)(h0 : -9223372036854775808 <= n)(h1 : n <= 9223372036854775807)(w : World)(htab : Lib.TabIs Tryz.prog w "internal/strconv.uint64pow10" .u64 Lib.pow10Tab) :
 Calls Tryz.prog 255 #[U O n] w λe w'=>e=AT (Y ⟨(QG n).toArray⟩)/\∃k os,w'=grow (w.drewN k) os:=Any.strconv_Itoa Tryz.M7 n h0 h1 w htab
end Go.Proofs
namespace Go.Proofs.YtbfghimjdlpicaaGreatDoor
open Go.RowKit
def nM(n:Int):ByteArray:=⟨(QG n).toArray⟩
def bq(n:Int):List Value:=Ow (nM n)++[U .u8 59]
def gR(n:Int):Prop := -9223372036854775808<=n/\n<=9223372036854775807
def nN(B : Nat)(w : World) : Prop := Lib.TabBelow Tryz.prog B w "internal/strconv.uint64pow10" .u64 Lib.pow10Tab
theorem nN.below{B:Nat}{w w':World}(h:nN B w)(hb:Below B w w'):nN B w':=λW hW=>h W (hb.trans hW)
theorem Kp.cG{B b:Nat}{w w':World}(hb:Below w.heap.size w w')(hB:B<=w.heap.size):Kp B b w w':=
 ⟨hb.mono hB,λk o hk _ _=>(hb.block k (BY.1 hk).1).trans hk,λLG=>⟨λk hk _ _=>hb.block k hk,.inl (by unfold pL;rw[hb.cell (p:=⟨b,1,be⟩) LG])⟩⟩
theorem dC.below{B b:Nat}{bs:List Value}{w w':World}(h:dC B b bs w)(hb:Below w.heap.size w w'):dC B b bs w':=by
 have go:∀p,P5 B b p bs w->P5 B b p bs w':=λp ⟨hB,v,EI,ho,aP⟩=>
  ⟨hB,v,(hb.block _ (BY.1 EI).1).trans EI,by
   refine⟨ho.1,?_⟩;rcases ho.2 with h|⟨g,c,cur,h1,h2,h3,h4⟩
   .exact .inl h
   .exact .inr ⟨g,c,cur,h1,h2,(hb.block _ (BY.1 h3).1).trans h3,h4⟩,aP⟩
 rcases h with h|h
 .exact .inl (go _ h)
 .exact .inr (go _ h)
theorem dC.lt{B b:Nat}{bs:List Value}{w:World}(h:dC B b bs w):b<w.heap.size:=by
 rcases h with h|h
 .exact h.lt
 .exact h.lt
theorem Bu(n:Int)(B:Nat)(w:World)(hn:gR n)(hT:nN B w) :
 ly 255 #[U O n] w (Y (nM n)):=by
 refine(Tryz.strconv_Itoa n hn.1 hn.2 w hT.here).mono ?_;rintro e w' ⟨rfl,k,os,rfl⟩;exact⟨rfl,Lib.below_grow _ w (Ie _) k os⟩
theorem vy{n:Int}(h:gR n):(nM n).size<=20:=by
 have hd:∀u:Nat,u<10^19->(Lib.decDigits u).length<=19:=λu hu=>by
  rw[Lib.decDigits_length];apply Classical.byContradiction;intro hc;have h1:∀(k u:Nat),Lib.nDigits u>=k+1->10^k<=u\/k=0:=by
   intro k;induction k with
   |zero=>intro u _;exact .inr rfl
   |succ k ih=>
    intro u hu;by_cases h10:u<10
    .rw[Lib.nDigits_small h10] at hu;omega
    .rw[Lib.nDigits_big h10] at hu
     rcases ih (u/10) (by omega) with h|h
     .left;rw[Nat.pow_succ];omega
     .subst h;left;omega
  rcases h1 19 u (by omega) with h|h
  .omega
  .cases h
 show(QG n).toArray.size<=20;rw[List.size_toArray];unfold QG;obtain⟨h1,h2⟩:=h;split
 .rw[Iy];have:=hd n.natAbs (by omega);omega
 .have:=hd n.toNat (by omega);omega
theorem dZ{n:Int}(h:gR n):(bq n).length<=21:=by
 unfold bq;rw[Ii,Q6];have:=vy h;simp;omega
theorem fG:∀(ns:List Int),(∀n∈ns,gR n)->(ns.flatMap bq).length<=21*ns.length
 |[],_=>by simp
 |x::r,h=>by
  have h1:=dZ (h x (by simp));have h2:=fG r (λn hn=>h n (by simp[hn]));rw[List.flatMap_cons,Ii,Iy];omega
theorem nv(B b g cap:Nat)(ns:List Int)(cs:Array Value)(fz:Nat×Nat)(bs:List Value)(w:World)(h:dC B b bs w)(hlen:bs.length+21*ns.length<=900000)(iL:B<=w.heap.size)(hT:nN B w)(hg:w.heap[g]?=AI (By cs 3 fz))(CF:g≠b)(cE:∀j,j<ns.length->cs[j]?=AI (U O (ns.getD j 0)))(hn:∀n∈ns,gR n) :
 aK 260 #[If (AI ⟨b,0,be⟩),J (AI ⟨g,0,be⟩) ns.length cap] w λe w'=>e=AT (Ip #[])/\dC B b (bs++ns.flatMap bq) w'/\Kp B b w w':=by
 have HI:Hid (dC B b bs w):=h;have HG:Hid _:=hg;have HCS:Hid _:=cE;have HN:Hid _:=hn;have HT:Hid (nN B w):=hT;clear h hg cE hn hT;generalize tt:ns.length=nl at *;have lB:Hid _:=tt;have sQ:Hid _:=hlen;have aoM:nl<=50000:=by omega
 clear tt hlen;go_enter Tryz.func260,Tryz.ntmps260;go_wp2_with fail;go_loopw [8] (λi w'=>∃k:Nat,k<=nl/\i=U O k/\Hid (dC B b (bs++(ns.take k).flatMap bq) w')/\Hid (Kp B b w w')) (λi _=>nl-(intOf i).toNat)
 case atStart=>exact⟨0,Nat.zero_le _,rfl,by simpa using HI,Kp.refl _ _ _⟩
 case round=>
  obtain⟨k,hk,rfl,HW,HK⟩:=hrel;by_cases aX:k<nl
  .have P9:=HK.out.oth g _ HG.out (λe=>CF (by injection e)) (λc z e=>by injection e with _ e2 _;cases e2)
   have c0:=(ae P9 k).trans (HCS.out k aX);have ie:k<ns.length:=by rw[lB.out];exact aX
   have HNK:Hid (gR (ns.getD k 0)):=HN.out _ (by rw[show ns.getD k 0=ns[k] by simp[Ir,Ic ie]];exact List.getElem_mem _);have qB:Hid ((ns.take (k+1)).flatMap bq=(ns.take k).flatMap bq++(Ow (nM (ns.getD k 0))++[U .u8 59])):=by
    show List.flatMap bq _=_;rw[List.take_succ_eq_append_getElem ie,List.flatMap_append];simp[bq,Ir,Ic ie]
   have Fp:Hid ((bs++(ns.take k).flatMap bq).length+21<=1000000):=by
    have h1:=fG (ns.take k) (λn hn=>HN.out n (List.mem_of_mem_take hn));have h2:(ns.take k).length<=k:=List.length_take_le _ _;have:=sQ.out;show(bs++(ns.take k).flatMap bq).length+21<=1000000;rw[Ii];omega
   generalize ns.getD k 0=n at *;generalize(ns.take k).flatMap bq=L at *;have HTR:Hid (nN B wr):=HT.out.below HK.out.lv;have AA:=Is iL HK.out.size;have HIT:Hid (aK 255 #[U O n] wr.drew λe w'=>e=AT (Y (nM n))/\Below wr.heap.size wr w'):=(Bu n B wr.drew HNK.out (HTR.out.below (Ib _ _).drew)).mono (by
    rintro e w' ⟨rfl,hb⟩;exact⟨rfl,(Ib _ _).drew.trans hb⟩)
   have HSZ:Hid _:=vy HNK.out;have ny:Hid (∀W,Below wr.heap.size wr W->aK 281 #[If (AI ⟨b,0,be⟩),Y (nM n)] W λe w'=>e=AT (Ip #[U O (nM n).size,.nilIface])/\P5 B b (If (AI ⟨b,0,be⟩)) (bs++L++Ow (nM n)) w'/\Kp B b wr w'):=λW hW=>by
    refine(nJ B b (bs++L) (nM n) W (HW.out.below hW) (by have:=Fp.out;have:=HSZ.out;omega) (Is AA hW.size)).mono ?_;rintro e w' ⟨rfl,h1,h2⟩;exact⟨rfl,h1,(Kp.cG hW AA).trans h2⟩
   clear P9;generalize nM n=s at *;go_upto_region 3 with fail
   go_region_with (first|(go_at_call 255;refine HIT.out.mono ?_;rintro e w1 ⟨rfl,aC⟩;have aZ:Hid (Below wr.heap.size wr w1):=aC;clear aC)|(go_at_call 281;refine(ny.out w1 aZ.out).mono ?_;rintro e w2 ⟨rfl,h2,aL⟩;have Ho:Hid (P5 B b (If (AI ⟨b,0,be⟩)) (bs++L++Ow s) w2):=h2;have rm:Hid (Kp B b wr w2):=aL;clear h2 aL))
   all_goals
    go_wp2_with fail;refine(wU B b _ 59 w2 (.inr Ho.out) (by rw[Ii,Q6];have:=Fp.out;have:=HSZ.out;omega) (Is AA rm.out.size)).mono ?_;rintro e w3 ⟨rfl,h3,bY⟩;have yd:Hid (dC B b (bs++(L++(Ow s++[U .u8 59]))) w3):=(show dC _ _ _ _ by rw[<- Iq,<- Iq];exact .inr h3);have wK:Hid _:=HK.out.trans (rm.out.trans bY);clear h3 bY;go_wp2_with fail;go_roundw
    case rel=>exact⟨k+1,by omega,by go_num,by rw[qB.out];exact yd,wK⟩
    case measure=>simp[intOf];omega
  .have eJ:k=nl:=by omega
   have tP:Hid (dC B b (bs++ns.flatMap bq) wr):=by
    have h:=HW.out;rw[List.take_of_length_le (by rw[lB.out];omega)] at h;exact h
   go_wp2_with fail;simp[J2,results,Tryz.results260];exact⟨tP.out,HK.out⟩
def bj(s:ByteArray):List Value:=bq s.size++Ow s
def fA(y:Bool):List Value:=bq (if y=true then 1 else 0)
theorem dB{n:Nat}(h:n<=1000000):gR (n:Int):=⟨by omega,by omega⟩
theorem iz(B b:Nat)(s:ByteArray)(bs:List Value)(w:World)(h:dC B b bs w)(hlen:bs.length+s.size<=800000)(iL:B<=w.heap.size)(hT:nN B w) :
 aK 256 #[If (AI ⟨b,0,be⟩),Y s] w λe w'=>e=AT (Ip #[])/\dC B b (bs++bj s) w'/\Kp B b w w':=by
 have hb:=h.lt;obtain⟨W1,db,aC,-,cI⟩:=bV w #[U O (s.size:Int)] 3;have HN:Hid (aK 260 #[If (AI ⟨b,0,be⟩),J (AI ⟨w.heap.size,0,be⟩) 1 1] W1 λe w'=>e=AT (Ip #[])/\dC B b (bs++bq s.size) w'/\Kp B b w w'):=by
  refine(nv B b w.heap.size 1 [(s.size:Int)] _ _ bs W1 (h.below aC) (by simp;omega) (Is iL aC.size) (hT.below (aC.mono iL)) cI (by omega) (λj hj=>?_) (λn hn=>?_)).mono ?_
  .have:j=0:=by simpa using hj
   subst this;rfl
  .simp at hn;rw[hn];exact dB (by omega)
  .rintro e w' ⟨rfl,h1,h2⟩
   exact⟨rfl,by simpa using h1,(Kp.cG aC iL).trans h2⟩
 have HL:Hid ((bs++bq s.size).length+s.size<=1000000):=by
  show(bs++bq s.size).length+s.size<=1000000;rw[Ii];have:=dZ (dB (n:=s.size) (by omega));omega
 clear h cI aC hT;go_enter Tryz.func256,Tryz.ntmps256;go_wp2_with fail;rw[<- db];refine HN.out.mono ?_;rintro e w1 ⟨rfl,h1,kt⟩;have pD:Hid (dC _ _ _ _):=h1;have nS:Hid _:=kt;clear h1 kt db;go_wp2_with fail;refine(nJ B b _ s w1 pD.out HL.out (Is iL nS.out.size)).mono ?_;rintro e w2 ⟨rfl,h2,ji⟩;have Ho:Hid (dC B b (bs++bj s) w2):=(show dC _ _ _ _ by unfold bj;rw[<- Iq];exact .inr h2);have rm:Hid _:=nS.out.trans ji;clear h2 ji;go_wp2_with fail;simp[J2,results,Tryz.results256];exact⟨Ho.out,rm.out⟩
theorem o7(B b:Nat)(y:Bool)(bs:List Value)(w:World)(h:dC B b bs w)(hlen:bs.length<=800000)(iL:B<=w.heap.size)(hT:nN B w) :
 aK 257 #[If (AI ⟨b,0,be⟩),Ia y] w λe w'=>e=AT (Ip #[])/\dC B b (bs++fA y) w'/\Kp B b w w':=by
 have hb:=h.lt;have HN:Hid (∀n:Int,(n=0\/n=1)->aK 260 #[If (AI ⟨b,0,be⟩),J (AI ⟨w.heap.size,0,be⟩) 1 1] (w.alloc (By #[U O n] 3)) λe w'=>e=AT (Ip #[])/\dC B b (bs++bq n) w'/\Kp B b w w'):=λn hn=>by
  have aC:Below w.heap.size w (w.alloc (By #[U O n] 3)):=(Ib _ _).alloc (Ie _) _;refine(nv B b w.heap.size 1 [n] _ _ bs _ (h.below aC) (by simp;omega) (Is iL aC.size) (hT.below (aC.mono iL)) (Ij w _) (by omega) (λj hj=>?_) (λm hm=>?_)).mono ?_
  .have:j=0:=by simpa using hj
   subst this;rfl
  .simp at hm;rw[hm];rcases hn with rfl|rfl<;>exact⟨by omega,by omega⟩
  .rintro e w' ⟨rfl,h1,h2⟩
   exact⟨rfl,by simpa using h1,(Kp.cG aC iL).trans h2⟩
 clear h hT;cases y
 .have HF:Hid (bs++bq 0=bs++fA false):=rfl
  go_enter Tryz.func257,Tryz.ntmps257;go_wp2_with fail;refine(HN.out 0 (.inl rfl)).mono ?_;rintro e w1 ⟨rfl,h1,kt⟩;have pD:Hid (dC _ _ _ _):=h1;have nS:Hid _:=kt;clear h1 kt;go_wp2_with fail;simp[J2,results,Tryz.results257];exact⟨pD.out,nS.out⟩
 .go_enter Tryz.func257,Tryz.ntmps257
  go_wp2_with fail;refine(HN.out 1 (.inr rfl)).mono ?_;rintro e w1 ⟨rfl,h1,kt⟩;have pD:Hid (dC _ _ _ _):=h1;have nS:Hid _:=kt;clear h1 kt;go_wp2_with fail;simp[J2,results,Tryz.results257];exact⟨pD.out,nS.out⟩
theorem eb{s:ByteArray}(h:s.size<=1000):(bj s).length<=1100:=by
 unfold bj;rw[Ii,Q6];have:=dZ (dB (n:=s.size) (by omega));omega
theorem jN(y:Bool):(fA y).length<=1100:=by
 unfold fA;have:=dZ (n:=if y=true then 1 else 0) (by split<;>exact⟨by omega,by omega⟩);omega
theorem iR(B b:Nat)(ns:List Int)(bs:List Value)(w:World)(h:dC B b bs w)(hlen:bs.length+21*ns.length<=900000)(iL:B<=w.heap.size)(hT:nN B w)(hn:∀n∈ns,gR n) :
 aK 260 #[If (AI ⟨b,0,be⟩),J (AI ⟨w.heap.size,0,be⟩) ns.length ns.length] (w.alloc (By (ns.map (U O)).toArray 3)) λe w'=>e=AT (Ip #[])/\dC B b (bs++ns.flatMap bq) w'/\Kp B b w w':=by
 have aC:Below w.heap.size w (w.alloc (By (ns.map (U O)).toArray 3)):=(Ib _ _).alloc (Ie _) _;refine(nv B b w.heap.size ns.length ns _ _ bs _ (h.below aC) hlen (Is iL aC.size) (hT.below (aC.mono iL)) (Ij w _) (by have:=h.lt;omega) (λj hj=>?_) hn).mono ?_
 .simp[Ir,Ic hj]
 .rintro e w' ⟨rfl,h1,h2⟩
  exact⟨rfl,h1,(Kp.cG aC iL).trans h2⟩
theorem Kp.keeps{B b k:Nat}{w w':World}{cs:Array Value}{T:TypeId}{fz:Nat×Nat}(h:Kp B b w w')(hk:w.heap[k]?=AI (By cs T fz))(aP:k≠b)(hT:T≠5):w'.heap[k]?=AI (By cs T fz):=
 h.oth k _ hk (λe=>aP (by injection e)) (λc z e=>by injection e with _ e2 _;exact hT e2)
def dP(m:Mem):List Value:=bj m.name++[m.state,m.aI,m.addr].flatMap bq++fA m.server
def lK(m:Mem):Prop:=m.name.size<=1000/\gR m.state/\gR m.aI/\gR m.addr
theorem nz{m:Mem}(h:lK m):(dP m).length<=3300:=by
 unfold dP;obtain⟨h0,h1,h2,h3⟩:=h;have l0:=eb h0;have l1:=fG [m.state,m.aI,m.addr] (λn hn=>by simp only[IN,JE,or_false] at hn;rcases hn with rfl|rfl|rfl<;>assumption);simp only[Iy,IX] at l1;have l2:=jN m.server;simp only[Ii];omega
theorem kZ(B b wb:Nat)(m:Mem)(bs:List Value)(w:World)(h:dC B b bs w)(hlen:bs.length<=700000)(iL:B<=w.heap.size)(hT:nN B w)(oB:w.heap[wb]?=AI (By #[If (AI ⟨b,0,be⟩)] 292 (0,0)))(aP:wb≠b)(hm:lK m) :
 aK 259 #[.agg #[Y m.name,U O m.state,U O m.aI,U O m.addr,Ia m.server],If (AI ⟨wb,0,be⟩)] w λe w'=>e=AT (Ip #[])/\dC B b (bs++dP m) w'/\Kp B b w w':=by
 have M8:Hid (dP m=bj m.name++[m.state,m.aI,m.addr].flatMap bq++fA m.server):=rfl;generalize dP m=EL at *;obtain⟨x0,x1,x2,x3,x4⟩:=m;obtain⟨h0,h1,h2,h3⟩:=hm;simp only at h0 h1 h2 h3 M8 ⊢;have lH:=h.lt;have Lv:=(BY.1 oB).1;obtain⟨W0,bP⟩:∃W0,W0=w.alloc (By #[Y x0,U O x1,U O x2,U O x3,Ia x4] 52):=⟨_,rfl⟩;have bK:Below w.heap.size w W0:=by rw[bP];exact(Ib _ _).alloc (Ie _) _
 have yW:Kp B b w W0:=Kp.cG bK iL;have vp:Hid (dC B b bs W0):=h.below bK;have uh:Hid _:=yW;have Fq:Hid (W0.heap[w.heap.size]?=AI (By #[Y x0,U O x1,U O x2,U O x3,Ia x4] 52 (0,0))):=by rw[bP];exact Ij w _
 have df:Hid _:=(bK.block _ Lv).trans oB;have Fs:Hid _:=hlen;have HT:Hid (nN B w):=hT;clear h bK yW oB hT hlen;go_enter Tryz.func259,Tryz.ntmps259;go_upto_region 1 with fail
 rw[<- bP];clear bP;have y0:=ae df.out 0;have z0:=ae Fq.out 0;go_wp2_with fail;refine(iz B b x0 (bs) W0 vp.out (by have:=Fs.out;omega) (Is iL uh.out.size) (HT.out.below uh.out.lv)).mono ?_;rintro e W1 ⟨rfl,hw,hk⟩;have pD:Hid (dC _ _ _ _):=hw;have nS:Hid _:=uh.out.trans hk;have lx:Hid _:=hk.keeps Fq.out (by omega) (by decide);have aZ:Hid _:=hk.keeps df.out aP (by decide);have ye:Hid ((bs++bj x0).length<=701100):=by
  have g1:=Fs.out;have g2:=eb h0;show Jz (bs++bj x0)<=_;rw[Ii];omega
 clear hw hk y0 z0;have y0:=ae aZ.out 0;have z0:=ae lx.out 1;have z1:=ae lx.out 2;have z2:=ae lx.out 3;go_wp2_with fail;refine(iR B b [x1,x2,x3] (bs++bj x0) W1 pD.out (by have:=ye.out;simp only[Iy,IX];omega) (Is iL nS.out.size) (HT.out.below nS.out.lv) (λn hn=>by simp only[IN,JE,or_false] at hn;rcases hn with rfl|rfl|rfl<;>assumption)).mono ?_;rintro e W2 ⟨rfl,hw,hk⟩;have Ho:Hid (dC _ _ _ _):=hw;have rm:Hid _:=nS.out.trans hk;have Dx:Hid _:=hk.keeps lx.out (by omega) (by decide);have bA:Hid _:=hk.keeps aZ.out aP (by decide);have xh:Hid ((bs++bj x0++[x1,x2,x3].flatMap bq).length<=702200):=by
  have g1:=ye.out;have g2:=fG [x1,x2,x3] (λn hn=>by simp only[IN,JE,or_false] at hn;rcases hn with rfl|rfl|rfl<;>assumption);show Jz (bs++bj x0++[x1,x2,x3].flatMap bq)<=_;rw[Ii];simp only[Iy,IX] at g2;omega
 clear hw hk y0 z0 z1 z2;have y0:=ae bA.out 0;have z0:=ae Dx.out 4;go_wp2_with fail;refine(o7 B b x4 (bs++bj x0++[x1,x2,x3].flatMap bq) W2 Ho.out (by have:=xh.out;omega) (Is iL rm.out.size) (HT.out.below rm.out.lv)).mono ?_;rintro e W3 ⟨rfl,hw,hk⟩;have yd:Hid (dC _ _ _ _):=hw;have wK:Hid _:=rm.out.trans hk;have HX3:Hid _:=hk.keeps Dx.out (by omega) (by decide);have cF:Hid _:=hk.keeps bA.out aP (by decide);have HL3:Hid ((bs++bj x0++[x1,x2,x3].flatMap bq++fA x4).length<=703300):=by
  have g1:=xh.out;have g2:=jN x4;show Jz (bs++bj x0++[x1,x2,x3].flatMap bq++fA x4)<=_;rw[Ii];omega
 clear hw hk y0 z0;have tP:Hid (dC B b (bs++EL) W3):=by
  have h:=yd.out;rw[M8.out];simp only[Iq] at h ⊢;exact h
 go_wp2_with fail;simp[J2,results,Tryz.results259];exact⟨tP.out,wK.out⟩
def Sv.dP(m:Sv.aV):List Value:=bj m.node++bj m.bf++bj m.name++bj m.tag++[m.addr,m.port].flatMap bq++fA m.af++[m.version].flatMap bq++fA m.gone
def Sv.lK(m:Sv.aV):Prop:=m.node.size<=1000/\m.bf.size<=1000/\m.name.size<=1000/\m.tag.size<=1000/\gR m.addr/\gR m.port/\gR m.version
theorem Sv.nz{m:Sv.aV}(h:Sv.lK m):(Sv.dP m).length<=8800:=by
 unfold Sv.dP;obtain⟨h0,h1,h2,h3,h4,h5,h6⟩:=h;have l0:=eb h0;have l1:=eb h1;have l2:=eb h2;have l3:=eb h3;have l4:=fG [m.addr,m.port] (λn hn=>by simp only[IN,JE,or_false] at hn;rcases hn with rfl|rfl<;>assumption);simp only[Iy,IX] at l4;have l5:=jN m.af;have l6:=fG [m.version] (λn hn=>by simp only[IN,JE,or_false] at hn;rcases hn with rfl<;>assumption);simp only[Iy,IX] at l6;have l7:=jN m.gone;simp only[Ii];omega
theorem Sv.kZ(B b wb:Nat)(m:Sv.aV)(bs:List Value)(w:World)(h:dC B b bs w)(hlen:bs.length<=700000)(iL:B<=w.heap.size)(hT:nN B w)(oB:w.heap[wb]?=AI (By #[If (AI ⟨b,0,be⟩)] 292 (0,0)))(aP:wb≠b)(hm:Sv.lK m) :
 aK 262 #[.agg #[Y m.node,Y m.bf,Y m.name,Y m.tag,U O m.addr,U O m.port,Ia m.af,U O m.version,Ia m.gone],If (AI ⟨wb,0,be⟩)] w λe w'=>e=AT (Ip #[])/\dC B b (bs++Sv.dP m) w'/\Kp B b w w':=by
 have M8:Hid (Sv.dP m=bj m.node++bj m.bf++bj m.name++bj m.tag++[m.addr,m.port].flatMap bq++fA m.af++[m.version].flatMap bq++fA m.gone):=rfl;generalize Sv.dP m=EL at *;obtain⟨x0,x1,x2,x3,x4,x5,x6,x7,x8⟩:=m;obtain⟨h0,h1,h2,h3,h4,h5,h6⟩:=hm;simp only at h0 h1 h2 h3 h4 h5 h6 M8 ⊢;have lH:=h.lt;have Lv:=(BY.1 oB).1;obtain⟨W0,bP⟩:∃W0,W0=w.alloc (By #[Y x0,Y x1,Y x2,Y x3,U O x4,U O x5,Ia x6,U O x7,Ia x8] 38):=⟨_,rfl⟩;have bK:Below w.heap.size w W0:=by rw[bP];exact(Ib _ _).alloc (Ie _) _
 have yW:Kp B b w W0:=Kp.cG bK iL;have vp:Hid (dC B b bs W0):=h.below bK;have uh:Hid _:=yW;have Fq:Hid (W0.heap[w.heap.size]?=AI (By #[Y x0,Y x1,Y x2,Y x3,U O x4,U O x5,Ia x6,U O x7,Ia x8] 38 (0,0))):=by rw[bP];exact Ij w _
 have df:Hid _:=(bK.block _ Lv).trans oB;have Fs:Hid _:=hlen;have HT:Hid (nN B w):=hT;clear h bK yW oB hT hlen;go_enter Tryz.func262,Tryz.ntmps262;go_upto_region 1 with fail
 rw[<- bP];clear bP;have y0:=ae df.out 0;have z0:=ae Fq.out 0;go_wp2_with fail;refine(iz B b x0 (bs) W0 vp.out (by have:=Fs.out;omega) (Is iL uh.out.size) (HT.out.below uh.out.lv)).mono ?_;rintro e W1 ⟨rfl,hw,hk⟩;have pD:Hid (dC _ _ _ _):=hw;have nS:Hid _:=uh.out.trans hk;have lx:Hid _:=hk.keeps Fq.out (by omega) (by decide);have aZ:Hid _:=hk.keeps df.out aP (by decide);have ye:Hid ((bs++bj x0).length<=701100):=by
  have g1:=Fs.out;have g2:=eb h0;show Jz (bs++bj x0)<=_;rw[Ii];omega
 clear hw hk y0 z0;have y0:=ae aZ.out 0;have z0:=ae lx.out 1;go_wp2_with fail;refine(iz B b x1 (bs++bj x0) W1 pD.out (by have:=ye.out;omega) (Is iL nS.out.size) (HT.out.below nS.out.lv)).mono ?_;rintro e W2 ⟨rfl,hw,hk⟩;have Ho:Hid (dC _ _ _ _):=hw;have rm:Hid _:=nS.out.trans hk;have Dx:Hid _:=hk.keeps lx.out (by omega) (by decide);have bA:Hid _:=hk.keeps aZ.out aP (by decide);have xh:Hid ((bs++bj x0++bj x1).length<=702200):=by
  have g1:=ye.out;have g2:=eb h1;show Jz (bs++bj x0++bj x1)<=_;rw[Ii];omega
 clear hw hk y0 z0;have y0:=ae bA.out 0;have z0:=ae Dx.out 2;go_wp2_with fail;refine(iz B b x2 (bs++bj x0++bj x1) W2 Ho.out (by have:=xh.out;omega) (Is iL rm.out.size) (HT.out.below rm.out.lv)).mono ?_;rintro e W3 ⟨rfl,hw,hk⟩;have yd:Hid (dC _ _ _ _):=hw;have wK:Hid _:=rm.out.trans hk;have HX3:Hid _:=hk.keeps Dx.out (by omega) (by decide);have cF:Hid _:=hk.keeps bA.out aP (by decide);have HL3:Hid ((bs++bj x0++bj x1++bj x2).length<=703300):=by
  have g1:=xh.out;have g2:=eb h2;show Jz (bs++bj x0++bj x1++bj x2)<=_;rw[Ii];omega
 clear hw hk y0 z0;have y0:=ae cF.out 0;have z0:=ae HX3.out 3;go_wp2_with fail;refine(iz B b x3 (bs++bj x0++bj x1++bj x2) W3 yd.out (by have:=HL3.out;omega) (Is iL wK.out.size) (HT.out.below wK.out.lv)).mono ?_;rintro e W4 ⟨rfl,hw,hk⟩;have HW4:Hid (dC _ _ _ _):=hw;have GW:Hid _:=wK.out.trans hk;have HX4:Hid _:=hk.keeps HX3.out (by omega) (by decide);have gC:Hid _:=hk.keeps cF.out aP (by decide);have WY:Hid ((bs++bj x0++bj x1++bj x2++bj x3).length<=704400):=by
  have g1:=HL3.out;have g2:=eb h3;show Jz (bs++bj x0++bj x1++bj x2++bj x3)<=_;rw[Ii];omega
 clear hw hk y0 z0;have y0:=ae gC.out 0;have z0:=ae HX4.out 4;have z1:=ae HX4.out 5;go_wp2_with fail;refine(iR B b [x4,x5] (bs++bj x0++bj x1++bj x2++bj x3) W4 HW4.out (by have:=WY.out;simp only[Iy,IX];omega) (Is iL GW.out.size) (HT.out.below GW.out.lv) (λn hn=>by simp only[IN,JE,or_false] at hn;rcases hn with rfl|rfl<;>assumption)).mono ?_;rintro e W5 ⟨rfl,hw,hk⟩;have Vg:Hid (dC _ _ _ _):=hw;have Dh:Hid _:=GW.out.trans hk;have HX5:Hid _:=hk.keeps HX4.out (by omega) (by decide);have jd:Hid _:=hk.keeps gC.out aP (by decide);have HL5:Hid ((bs++bj x0++bj x1++bj x2++bj x3++[x4,x5].flatMap bq).length<=705500):=by
  have g1:=WY.out;have g2:=fG [x4,x5] (λn hn=>by simp only[IN,JE,or_false] at hn;rcases hn with rfl|rfl<;>assumption);show Jz (bs++bj x0++bj x1++bj x2++bj x3++[x4,x5].flatMap bq)<=_;rw[Ii];simp only[Iy,IX] at g2;omega
 clear hw hk y0 z0 z1;have y0:=ae jd.out 0;have z0:=ae HX5.out 6;go_wp2_with fail;refine(o7 B b x6 (bs++bj x0++bj x1++bj x2++bj x3++[x4,x5].flatMap bq) W5 Vg.out (by have:=HL5.out;omega) (Is iL Dh.out.size) (HT.out.below Dh.out.lv)).mono ?_;rintro e W6 ⟨rfl,hw,hk⟩;have HW6:Hid (dC _ _ _ _):=hw;have HK6:Hid _:=Dh.out.trans hk;have HX6:Hid _:=hk.keeps HX5.out (by omega) (by decide);have tL:Hid _:=hk.keeps jd.out aP (by decide);have HL6:Hid ((bs++bj x0++bj x1++bj x2++bj x3++[x4,x5].flatMap bq++fA x6).length<=706600):=by
  have g1:=HL5.out;have g2:=jN x6;show Jz (bs++bj x0++bj x1++bj x2++bj x3++[x4,x5].flatMap bq++fA x6)<=_;rw[Ii];omega
 clear hw hk y0 z0;have y0:=ae tL.out 0;have z0:=ae HX6.out 7;go_wp2_with fail;refine(iR B b [x7] (bs++bj x0++bj x1++bj x2++bj x3++[x4,x5].flatMap bq++fA x6) W6 HW6.out (by have:=HL6.out;simp only[Iy,IX];omega) (Is iL HK6.out.size) (HT.out.below HK6.out.lv) (λn hn=>by simp only[IN,JE,or_false] at hn;rcases hn with rfl<;>assumption)).mono ?_;rintro e W7 ⟨rfl,hw,hk⟩;have HW7:Hid (dC _ _ _ _):=hw;have Sc:Hid _:=HK6.out.trans hk;have HX7:Hid _:=hk.keeps HX6.out (by omega) (by decide);have Gx:Hid _:=hk.keeps tL.out aP (by decide);have HL7:Hid ((bs++bj x0++bj x1++bj x2++bj x3++[x4,x5].flatMap bq++fA x6++[x7].flatMap bq).length<=707700):=by
  have g1:=HL6.out;have g2:=fG [x7] (λn hn=>by simp only[IN,JE,or_false] at hn;rcases hn with rfl<;>assumption);show Jz (bs++bj x0++bj x1++bj x2++bj x3++[x4,x5].flatMap bq++fA x6++[x7].flatMap bq)<=_;rw[Ii];simp only[Iy,IX] at g2;omega
 clear hw hk y0 z0;have y0:=ae Gx.out 0;have z0:=ae HX7.out 8;go_wp2_with fail;refine(o7 B b x8 (bs++bj x0++bj x1++bj x2++bj x3++[x4,x5].flatMap bq++fA x6++[x7].flatMap bq) W7 HW7.out (by have:=HL7.out;omega) (Is iL Sc.out.size) (HT.out.below Sc.out.lv)).mono ?_;rintro e W8 ⟨rfl,hw,hk⟩;have HW8:Hid (dC _ _ _ _):=hw;have HK8:Hid _:=Sc.out.trans hk;have HX8:Hid _:=hk.keeps HX7.out (by omega) (by decide);have HB8:Hid _:=hk.keeps Gx.out aP (by decide);have HL8:Hid ((bs++bj x0++bj x1++bj x2++bj x3++[x4,x5].flatMap bq++fA x6++[x7].flatMap bq++fA x8).length<=708800):=by
  have g1:=HL7.out;have g2:=jN x8;show Jz (bs++bj x0++bj x1++bj x2++bj x3++[x4,x5].flatMap bq++fA x6++[x7].flatMap bq++fA x8)<=_;rw[Ii];omega
 clear hw hk y0 z0;have tP:Hid (dC B b (bs++EL) W8):=by
  have h:=HW8.out;rw[M8.out];simp only[Iq] at h ⊢;exact h
 go_wp2_with fail;simp[J2,results,Tryz.results262];exact⟨tP.out,HK8.out⟩
def Gw.dP(m:Gw.bN):List Value:=bj m.av++[m.addr,m.version].flatMap bq
def Gw.lK(m:Gw.bN):Prop:=m.av.size<=1000/\gR m.addr/\gR m.version
theorem Gw.nz{m:Gw.bN}(h:Gw.lK m):(Gw.dP m).length<=2200:=by
 unfold Gw.dP;obtain⟨h0,h1,h2⟩:=h;have l0:=eb h0;have l1:=fG [m.addr,m.version] (λn hn=>by simp only[IN,JE,or_false] at hn;rcases hn with rfl|rfl<;>assumption);simp only[Iy,IX] at l1;simp only[Ii];omega
theorem Gw.kZ(B b wb:Nat)(m:Gw.bN)(bs:List Value)(w:World)(h:dC B b bs w)(hlen:bs.length<=700000)(iL:B<=w.heap.size)(hT:nN B w)(oB:w.heap[wb]?=AI (By #[If (AI ⟨b,0,be⟩)] 292 (0,0)))(aP:wb≠b)(hm:Gw.lK m) :
 aK 264 #[.agg #[Y m.av,U O m.addr,U O m.version],If (AI ⟨wb,0,be⟩)] w λe w'=>e=AT (Ip #[])/\dC B b (bs++Gw.dP m) w'/\Kp B b w w':=by
 have M8:Hid (Gw.dP m=bj m.av++[m.addr,m.version].flatMap bq):=rfl;generalize Gw.dP m=EL at *;obtain⟨x0,x1,x2⟩:=m;obtain⟨h0,h1,h2⟩:=hm;simp only at h0 h1 h2 M8 ⊢;have lH:=h.lt;have Lv:=(BY.1 oB).1;obtain⟨W0,bP⟩:∃W0,W0=w.alloc (By #[Y x0,U O x1,U O x2] 102):=⟨_,rfl⟩;have bK:Below w.heap.size w W0:=by rw[bP];exact(Ib _ _).alloc (Ie _) _
 have yW:Kp B b w W0:=Kp.cG bK iL;have vp:Hid (dC B b bs W0):=h.below bK;have uh:Hid _:=yW;have Fq:Hid (W0.heap[w.heap.size]?=AI (By #[Y x0,U O x1,U O x2] 102 (0,0))):=by rw[bP];exact Ij w _
 have df:Hid _:=(bK.block _ Lv).trans oB;have Fs:Hid _:=hlen;have HT:Hid (nN B w):=hT;clear h bK yW oB hT hlen;go_enter Tryz.func264,Tryz.ntmps264;go_upto_region 1 with fail
 rw[<- bP];clear bP;have y0:=ae df.out 0;have z0:=ae Fq.out 0;go_wp2_with fail;refine(iz B b x0 (bs) W0 vp.out (by have:=Fs.out;omega) (Is iL uh.out.size) (HT.out.below uh.out.lv)).mono ?_;rintro e W1 ⟨rfl,hw,hk⟩;have pD:Hid (dC _ _ _ _):=hw;have nS:Hid _:=uh.out.trans hk;have lx:Hid _:=hk.keeps Fq.out (by omega) (by decide);have aZ:Hid _:=hk.keeps df.out aP (by decide);have ye:Hid ((bs++bj x0).length<=701100):=by
  have g1:=Fs.out;have g2:=eb h0;show Jz (bs++bj x0)<=_;rw[Ii];omega
 clear hw hk y0 z0;have y0:=ae aZ.out 0;have z0:=ae lx.out 1;have z1:=ae lx.out 2;go_wp2_with fail;refine(iR B b [x1,x2] (bs++bj x0) W1 pD.out (by have:=ye.out;simp only[Iy,IX];omega) (Is iL nS.out.size) (HT.out.below nS.out.lv) (λn hn=>by simp only[IN,JE,or_false] at hn;rcases hn with rfl|rfl<;>assumption)).mono ?_;rintro e W2 ⟨rfl,hw,hk⟩;have Ho:Hid (dC _ _ _ _):=hw;have rm:Hid _:=nS.out.trans hk;have Dx:Hid _:=hk.keeps lx.out (by omega) (by decide);have bA:Hid _:=hk.keeps aZ.out aP (by decide);have xh:Hid ((bs++bj x0++[x1,x2].flatMap bq).length<=702200):=by
  have g1:=ye.out;have g2:=fG [x1,x2] (λn hn=>by simp only[IN,JE,or_false] at hn;rcases hn with rfl|rfl<;>assumption);show Jz (bs++bj x0++[x1,x2].flatMap bq)<=_;rw[Ii];simp only[Iy,IX] at g2;omega
 clear hw hk y0 z0 z1;have tP:Hid (dC B b (bs++EL) W2):=by
  have h:=Ho.out;rw[M8.out];simp only[Iq] at h ⊢;exact h
 go_wp2_with fail;simp[J2,results,Tryz.results264];exact⟨tP.out,rm.out⟩
def Wh.dP(m:Wh.bT):List Value:=bj m.node++[m.x,m.y,m.z,m.h,m.s].flatMap bq
def Wh.lK(m:Wh.bT):Prop:=m.node.size<=1000/\gR m.x/\gR m.y/\gR m.z/\gR m.h/\gR m.s
theorem Wh.nz{m:Wh.bT}(h:Wh.lK m):(Wh.dP m).length<=2200:=by
 unfold Wh.dP;obtain⟨h0,h1,h2,h3,h4,h5⟩:=h;have l0:=eb h0;have l1:=fG [m.x,m.y,m.z,m.h,m.s] (λn hn=>by simp only[IN,JE,or_false] at hn;rcases hn with rfl|rfl|rfl|rfl|rfl<;>assumption);simp only[Iy,IX] at l1;simp only[Ii];omega
theorem Wh.kZ(B b wb:Nat)(m:Wh.bT)(bs:List Value)(w:World)(h:dC B b bs w)(hlen:bs.length<=700000)(iL:B<=w.heap.size)(hT:nN B w)(oB:w.heap[wb]?=AI (By #[If (AI ⟨b,0,be⟩)] 292 (0,0)))(aP:wb≠b)(hm:Wh.lK m) :
 aK 266 #[.agg #[Y m.node,U O m.x,U O m.y,U O m.z,U O m.h,U O m.s],If (AI ⟨wb,0,be⟩)] w λe w'=>e=AT (Ip #[])/\dC B b (bs++Wh.dP m) w'/\Kp B b w w':=by
 have M8:Hid (Wh.dP m=bj m.node++[m.x,m.y,m.z,m.h,m.s].flatMap bq):=rfl;generalize Wh.dP m=EL at *;obtain⟨x0,x1,x2,x3,x4,x5⟩:=m;obtain⟨h0,h1,h2,h3,h4,h5⟩:=hm;simp only at h0 h1 h2 h3 h4 h5 M8 ⊢;have lH:=h.lt;have Lv:=(BY.1 oB).1;obtain⟨W0,bP⟩:∃W0,W0=w.alloc (By #[Y x0,U O x1,U O x2,U O x3,U O x4,U O x5] 116):=⟨_,rfl⟩;have bK:Below w.heap.size w W0:=by rw[bP];exact(Ib _ _).alloc (Ie _) _
 have yW:Kp B b w W0:=Kp.cG bK iL;have vp:Hid (dC B b bs W0):=h.below bK;have uh:Hid _:=yW;have Fq:Hid (W0.heap[w.heap.size]?=AI (By #[Y x0,U O x1,U O x2,U O x3,U O x4,U O x5] 116 (0,0))):=by rw[bP];exact Ij w _
 have df:Hid _:=(bK.block _ Lv).trans oB;have Fs:Hid _:=hlen;have HT:Hid (nN B w):=hT;clear h bK yW oB hT hlen;go_enter Tryz.func266,Tryz.ntmps266;go_upto_region 1 with fail
 rw[<- bP];clear bP;have y0:=ae df.out 0;have z0:=ae Fq.out 0;go_wp2_with fail;refine(iz B b x0 (bs) W0 vp.out (by have:=Fs.out;omega) (Is iL uh.out.size) (HT.out.below uh.out.lv)).mono ?_;rintro e W1 ⟨rfl,hw,hk⟩;have pD:Hid (dC _ _ _ _):=hw;have nS:Hid _:=uh.out.trans hk;have lx:Hid _:=hk.keeps Fq.out (by omega) (by decide);have aZ:Hid _:=hk.keeps df.out aP (by decide);have ye:Hid ((bs++bj x0).length<=701100):=by
  have g1:=Fs.out;have g2:=eb h0;show Jz (bs++bj x0)<=_;rw[Ii];omega
 clear hw hk y0 z0;have y0:=ae aZ.out 0;have z0:=ae lx.out 1;have z1:=ae lx.out 2;have z2:=ae lx.out 3;have z3:=ae lx.out 4;have z4:=ae lx.out 5;go_wp2_with fail;refine(iR B b [x1,x2,x3,x4,x5] (bs++bj x0) W1 pD.out (by have:=ye.out;simp only[Iy,IX];omega) (Is iL nS.out.size) (HT.out.below nS.out.lv) (λn hn=>by simp only[IN,JE,or_false] at hn;rcases hn with rfl|rfl|rfl|rfl|rfl<;>assumption)).mono ?_;rintro e W2 ⟨rfl,hw,hk⟩;have Ho:Hid (dC _ _ _ _):=hw;have rm:Hid _:=nS.out.trans hk;have Dx:Hid _:=hk.keeps lx.out (by omega) (by decide);have bA:Hid _:=hk.keeps aZ.out aP (by decide);have xh:Hid ((bs++bj x0++[x1,x2,x3,x4,x5].flatMap bq).length<=702200):=by
  have g1:=ye.out;have g2:=fG [x1,x2,x3,x4,x5] (λn hn=>by simp only[IN,JE,or_false] at hn;rcases hn with rfl|rfl|rfl|rfl|rfl<;>assumption);show Jz (bs++bj x0++[x1,x2,x3,x4,x5].flatMap bq)<=_;rw[Ii];simp only[Iy,IX] at g2;omega
 clear hw hk y0 z0 z1 z2 z3 z4;have tP:Hid (dC B b (bs++EL) W2):=by
  have h:=Ho.out;rw[M8.out];simp only[Iq] at h ⊢;exact h
 go_wp2_with fail;simp[J2,results,Tryz.results266];exact⟨tP.out,rm.out⟩
end Go.Proofs.YtbfghimjdlpicaaGreatDoor
