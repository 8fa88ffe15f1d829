import Derived.Lib.AppendIntMem
import Derived.Test.YtfidhgjmifendaaGreatDoorng3
set_option maxHeartbeats 6400000
set_option maxRecDepth 100000
open Option renaming some→AI,none→be
open Go.Value renaming int→U,string→Y,pointer→If,slice→J,tuple→Im,bool→Ia,func→IP
open Go.IntKind renaming i64→O
open Go.Ending renaming returned→AT
open Go.Lib renaming itoa→Qt,strCells→Oj,strCells_length→QU
open Array renaming getElem?_eq_some_iff→BY
open Nat renaming le_refl→Ic,zero_le→IH,le_trans→Ir
open List renaming length_cons→Iz,length_append→Ih,flatMap_cons→I1,getD→Iq,getElem?_eq_getElem→Ie,getElem_mem→IG,take_succ_eq_append_getElem→II,flatMap_append→Qf,mem_of_mem_take→Je,length_take_le→JK,append_assoc→Ip,take_of_length_le→Jk,mem_cons→IQ,not_mem_nil→Jw,length_nil→IV,length→Jt
open Go.Obj renaming cells→By
open Go.RowKit.Below renaming refl→Ib
open Go renaming bodyPost→JU,heap_alloc_new→Ii
namespace Go.Proofs
open Go.Shelf
def Tryz.wG:Go.Shelf.Ren:=⟨fun|171=>221|243=>255|246=>282|283=>296|284=>297|285=>298|286=>299|129=>124|317=>306|318=>307|319=>308|320=>309|337=>311|338=>312|n=>n,fun|3=>3|9=>9|2=>2|4=>4|171=>324|0=>0|53=>167|37=>266|5=>5|173=>326|212=>336|51=>165|20=>20|213=>337|46=>129|232=>340|233=>341|n=>n,fun|17=>3|18=>4|19=>5|n=>n⟩
theorem Tryz.GK:Go.Proofs.LaysM.n171 Tryz.prog Tryz.wG:={
 mixed:=by kernel_rfl
 f129:=Tryz.func124.trans (congrArg AI (by kernel_rfl))
 f171:=Tryz.func221.trans (congrArg AI (by kernel_rfl))
 f243:=Tryz.func255.trans (congrArg AI (by kernel_rfl))
 f246:=Tryz.func282.trans (congrArg AI (by kernel_rfl))
 f283:=Tryz.func296.trans (congrArg AI (by kernel_rfl))
 f284:=Tryz.func297.trans (congrArg AI (by kernel_rfl))
 f285:=Tryz.func298.trans (congrArg AI (by kernel_rfl))
 f286:=Tryz.func299.trans (congrArg AI (by kernel_rfl))
 f317:=Tryz.func306.trans (congrArg AI (by kernel_rfl))
 f318:=Tryz.func307.trans (congrArg AI (by kernel_rfl))
 f319:=Tryz.func308.trans (congrArg AI (by kernel_rfl))
 f320:=Tryz.func309.trans (congrArg AI (by kernel_rfl))
 f337:=Tryz.func311.trans (congrArg AI (by kernel_rfl))
 f338:=Tryz.func312.trans (congrArg AI (by kernel_rfl))
 t0:=Tryz.underlying0
 a0:=Tryz.isAgg0
 z0:=Tryz.sizeOf0
 v0:=Tryz.zeroValue0
 t2:=Tryz.underlying2
 a2:=Tryz.isAgg2
 z2:=Tryz.sizeOf2
 v2:=Tryz.zeroValue2
 t3:=Tryz.underlying3
 a3:=Tryz.isAgg3
 z3:=Tryz.sizeOf3
 v3:=Tryz.zeroValue3
 t4:=Tryz.underlying4
 a4:=Tryz.isAgg4
 z4:=Tryz.sizeOf4
 v4:=Tryz.zeroValue4
 t5:=Tryz.underlying5
 a5:=Tryz.isAgg5
 z5:=Tryz.sizeOf5
 v5:=Tryz.zeroValue5
 t9:=Tryz.underlying9
 a9:=Tryz.isAgg9
 z9:=Tryz.sizeOf9
 v9:=Tryz.zeroValue9
 t20:=Tryz.underlying20
 a20:=Tryz.isAgg20
 z20:=Tryz.sizeOf20
 v20:=Tryz.zeroValue20
 t37:=Tryz.underlying266
 a37:=Tryz.isAgg266
 z37:=Tryz.sizeOf266
 v37:=Tryz.zeroValue266
 t46:=Tryz.underlying129
 a46:=Tryz.isAgg129
 z46:=Tryz.sizeOf129
 v46:=Tryz.zeroValue129
 t51:=Tryz.underlying165
 a51:=Tryz.isAgg165
 z51:=Tryz.sizeOf165
 v51:=Tryz.zeroValue165
 t53:=Tryz.underlying167
 a53:=Tryz.isAgg167
 z53:=Tryz.sizeOf167
 v53:=Tryz.zeroValue167
 t171:=Tryz.underlying324
 a171:=Tryz.isAgg324
 z171:=Tryz.sizeOf324
 v171:=Tryz.zeroValue324
 t173:=Tryz.underlying326
 a173:=Tryz.isAgg326
 z173:=Tryz.sizeOf326
 v173:=Tryz.zeroValue326
 t212:=Tryz.underlying336
 a212:=Tryz.isAgg336
 z212:=Tryz.sizeOf336
 v212:=Tryz.zeroValue336
 t213:=Tryz.underlying337
 a213:=Tryz.isAgg337
 z213:=Tryz.sizeOf337
 t232:=Tryz.underlying340
 a232:=Tryz.isAgg340
 z232:=Tryz.sizeOf340
 v232:=Tryz.zeroValue340
 t233:=Tryz.underlying341
 a233:=Tryz.isAgg341
 z233:=Tryz.sizeOf341
 v233:=Tryz.zeroValue341
 g17:=by kernel_rfl
 g18:=by kernel_rfl
 g19:=by kernel_rfl
 i0:=by kernel_rfl
 i2:=by kernel_rfl
 i3:=by kernel_rfl
 i4:=by kernel_rfl
 i5:=by kernel_rfl
 i9:=by kernel_rfl
 i20:=by kernel_rfl
 i37:=by kernel_rfl
 i46:=by kernel_rfl
 i51:=by kernel_rfl
 i53:=by kernel_rfl
 i171:=by kernel_rfl
 i173:=by kernel_rfl
 i212:=by kernel_rfl
 i232:=by kernel_rfl
 i233:=by kernel_rfl
 m17:=by kernel_rfl
 m18:=by kernel_rfl
 m19:=by kernel_rfl }
open Go.RowKit Go.Sort Go.Lib in
theorem Tryz.strconv_Itoa(n : Int)(h0 : -9223372036854775808 <= n)(h1 : n <= 9223372036854775807)(w : World)(htab : Lib.TabIs Tryz.prog w "internal/strconv.uint64pow10" .u64 Lib.pow10Tab) :
 Calls Tryz.prog 221 #[U O n] w λe w'=>e=AT (Y ⟨(Qt n).toArray⟩)/\∃k os,w'=grow (w.drewN k) os:=Any.strconv_Itoa Tryz.GK n h0 h1 w htab
end Go.Proofs
namespace Go.Proofs.YtfidhgjmifendaaGreatDoor
open Go.RowKit
def lX(n:Int):ByteArray:=⟨(Qt n).toArray⟩
def bk(n:Int):List Value:=Oj (lX n)++[U .u8 59]
def fR(n:Int):Prop := -9223372036854775808<=n/\n<=9223372036854775807
def lY(B : Nat)(w : World) : Prop := Lib.TabBelow Tryz.prog B w "internal/strconv.uint64pow10" .u64 Lib.pow10Tab
theorem lY.below{B:Nat}{w w':World}(h:lY B w)(hb:Below B w w'):lY B w':=λW hW=>h W (hb.trans hW)
theorem Kp.b9{B b:Nat}{w w':World}(hb:Below w.heap.size w w')(hB:B<=w.heap.size):Kp B b w w':=
 ⟨hb.mono hB,λk o hk _ _=>(hb.block k (BY.1 hk).1).trans hk,λrB=>⟨λk hk _ _=>hb.block k hk,.inl (by unfold nJ;rw[hb.cell (p:=⟨b,1,be⟩) rB])⟩⟩
theorem cW.below{B b:Nat}{bs:List Value}{w w':World}(h:cW B b bs w)(hb:Below w.heap.size w w'):cW B b bs w':=by
 have go:∀p,LK B b p bs w->LK B b p bs w':=λp ⟨hB,v,CA,ho,aT⟩=>
  ⟨hB,v,(hb.block _ (BY.1 CA).1).trans CA,by
   refine⟨ho.1,?_⟩;rcases ho.2 with h|⟨g,c,cur,h1,h2,h3,h4⟩
   .exact .inl h
   .exact .inr ⟨g,c,cur,h1,h2,(hb.block _ (BY.1 h3).1).trans h3,h4⟩,aT⟩
 rcases h with h|h
 .exact .inl (go _ h)
 .exact .inr (go _ h)
theorem cW.lt{B b:Nat}{bs:List Value}{w:World}(h:cW B b bs w):b<w.heap.size:=by
 rcases h with h|h
 .exact h.lt
 .exact h.lt
theorem yG(n:Int)(B:Nat)(w:World)(hn:fR n)(hT:lY B w) :
 kt 221 #[U O n] w (Y (lX n)):=by
 refine(Tryz.strconv_Itoa n hn.1 hn.2 w hT.here).mono ?_;rintro e w' ⟨rfl,k,os,rfl⟩;exact⟨rfl,Lib.below_grow _ w (Ic _) k os⟩
theorem sG{n:Int}(h:fR n):(lX n).size<=20:=by
 have hd:∀u:Nat,u<10^19->(Lib.decDigits u).length<=19:=λu hu=>by
  rw[Lib.decDigits_length];apply Classical.byContradiction;intro hc;have h1:∀(k u:Nat),Lib.nDigits u>=k+1->10^k<=u\/k=0:=by
   intro k;induction k with
   |zero=>intro u _;exact .inr rfl
   |succ k ih=>
    intro u hu;by_cases h10:u<10
    .rw[Lib.nDigits_small h10] at hu;omega
    .rw[Lib.nDigits_big h10] at hu
     rcases ih (u/10) (by omega) with h|h
     .left;rw[Nat.pow_succ];omega
     .subst h;left;omega
  rcases h1 19 u (by omega) with h|h
  .omega
  .cases h
 show(Qt n).toArray.size<=20;rw[List.size_toArray];unfold Qt;obtain⟨h1,h2⟩:=h;split
 .rw[Iz];have:=hd n.natAbs (by omega);omega
 .have:=hd n.toNat (by omega);omega
theorem dG{n:Int}(h:fR n):(bk n).length<=21:=by
 unfold bk;rw[Ih,QU];have:=sG h;simp;omega
theorem eQ:∀(ns:List Int),(∀n∈ns,fR n)->(ns.flatMap bk).length<=21*ns.length
 |[],_=>by simp
 |x::r,h=>by
  have h1:=dG (h x (by simp));have h2:=eQ r (λn hn=>h n (by simp[hn]));rw[I1,Ih,Iz];omega
theorem lB(B b g cap:Nat)(ns:List Int)(cs:Array Value)(fz:Nat×Nat)(bs:List Value)(w:World)(h:cW B b bs w)(hlen:bs.length+21*ns.length<=900000)(gL:B<=w.heap.size)(hT:lY B w)(hg:w.heap[g]?=AI (By cs 3 fz))(nz:g≠b)(bZ:∀j,j<ns.length->cs[j]?=AI (U O (ns.getD j 0)))(hn:∀n∈ns,fR n) :
 aF 263 #[If (AI ⟨b,0,be⟩),J (AI ⟨g,0,be⟩) ns.length cap] w λe w'=>e=AT (Im #[])/\cW B b (bs++ns.flatMap bk) w'/\Kp B b w w':=by
 have HI:Hid (cW B b bs w):=h;have HG:Hid _:=hg;have HCS:Hid _:=bZ;have HN:Hid _:=hn;have HT:Hid (lY B w):=hT;clear h hg bZ hn hT;generalize qW:ns.length=nl at *;have jZ:Hid _:=qW;have qg:Hid _:=hlen;have ajO:nl<=50000:=by omega
 clear qW hlen;go_enter Tryz.func263,Tryz.ntmps263;go_wp2_with fail;go_loopw [8] (λi w'=>∃k:Nat,k<=nl/\i=U O k/\Hid (cW B b (bs++(ns.take k).flatMap bk) w')/\Hid (Kp B b w w')) (λi _=>nl-(intOf i).toNat)
 case atStart=>exact⟨0,IH _,rfl,by simpa using HI,Kp.refl _ _ _⟩
 case round=>
  obtain⟨k,hk,rfl,HW,HK⟩:=hrel;by_cases aR:k<nl
  .have LN:=HK.out.TK g _ HG.out (λe=>nz (by injection e)) (λc z e=>by injection e with _ e2 _;cases e2)
   have c0:=(ae LN k).trans (HCS.out k aR);have iI:k<ns.length:=by rw[jZ.out];exact aR
   have HNK:Hid (fR (ns.getD k 0)):=HN.out _ (by rw[show ns.getD k 0=ns[k] by simp[Iq,Ie iI]];exact IG _);have sH:Hid ((ns.take (k+1)).flatMap bk=(ns.take k).flatMap bk++(Oj (lX (ns.getD k 0))++[U .u8 59])):=by
    show List.flatMap bk _=_;rw[II iI,Qf];simp[bk,Iq,Ie iI]
   have CD:Hid ((bs++(ns.take k).flatMap bk).length+21<=1000000):=by
    have h1:=eQ (ns.take k) (λn hn=>HN.out n (Je hn));have h2:(ns.take k).length<=k:=JK _ _;have:=qg.out;show(bs++(ns.take k).flatMap bk).length+21<=1000000;rw[Ih];omega
   generalize ns.getD k 0=n at *;generalize(ns.take k).flatMap bk=L at *;have HTR:Hid (lY B wr):=HT.out.below HK.out.jV;have xZ:=Ir gL HK.out.size;have HIT:Hid (aF 221 #[U O n] wr.drew λe w'=>e=AT (Y (lX n))/\Below wr.heap.size wr w'):=(yG n B wr.drew HNK.out (HTR.out.below (Ib _ _).drew)).mono (by
    rintro e w' ⟨rfl,hb⟩;exact⟨rfl,(Ib _ _).drew.trans hb⟩)
   have HSZ:Hid _:=sG HNK.out;have lC:Hid (∀W,Below wr.heap.size wr W->aF 284 #[If (AI ⟨b,0,be⟩),Y (lX n)] W λe w'=>e=AT (Im #[U O (lX n).size,.nilIface])/\LK B b (If (AI ⟨b,0,be⟩)) (bs++L++Oj (lX n)) w'/\Kp B b wr w'):=λW hW=>by
    refine(lW B b (bs++L) (lX n) W (HW.out.below hW) (by have:=CD.out;have:=HSZ.out;omega) (Ir xZ hW.size)).mono ?_;rintro e w' ⟨rfl,h1,h2⟩;exact⟨rfl,h1,(Kp.b9 hW xZ).trans h2⟩
   clear LN;generalize lX n=s at *;go_upto_region 3 with fail
   go_region_with (first|(go_at_call 221;refine HIT.out.mono ?_;rintro e w1 ⟨rfl,aB⟩;have aY:Hid (Below wr.heap.size wr w1):=aB;clear aB)|(go_at_call 284;refine(lC.out w1 aY.out).mono ?_;rintro e w2 ⟨rfl,h2,aI⟩;have DO:Hid (LK B b (If (AI ⟨b,0,be⟩)) (bs++L++Oj s) w2):=h2;have oQ:Hid (Kp B b wr w2):=aI;clear h2 aI))
   all_goals
    go_wp2_with fail;refine(uE B b _ 59 w2 (.inr DO.out) (by rw[Ih,QU];have:=CD.out;have:=HSZ.out;omega) (Ir xZ oQ.out.size)).mono ?_;rintro e w3 ⟨rfl,h3,bU⟩;have yH:Hid (cW B b (bs++(L++(Oj s++[U .u8 59]))) w3):=(show cW _ _ _ _ by rw[<- Ip,<- Ip];exact .inr h3);have uf:Hid _:=HK.out.trans (oQ.out.trans bU);clear h3 bU;go_wp2_with fail;go_roundw
    case rel=>exact⟨k+1,by omega,by go_num,by rw[sH.out];exact yH,uf⟩
    case measure=>simp[intOf];omega
  .have gK:k=nl:=by omega
   have rC:Hid (cW B b (bs++ns.flatMap bk) wr):=by
    have h:=HW.out;rw[Jk (by rw[jZ.out];omega)] at h;exact h
   go_wp2_with fail;simp[JU,results,Tryz.results263];exact⟨rC.out,HK.out⟩
def aX(s:ByteArray):List Value:=bk s.size++Oj s
def eJ(y:Bool):List Value:=bk (if y=true then 1 else 0)
theorem cU{n:Nat}(h:n<=1000000):fR (n:Int):=⟨by omega,by omega⟩
theorem gx(B b:Nat)(s:ByteArray)(bs:List Value)(w:World)(h:cW B b bs w)(hlen:bs.length+s.size<=800000)(gL:B<=w.heap.size)(hT:lY B w) :
 aF 259 #[If (AI ⟨b,0,be⟩),Y s] w λe w'=>e=AT (Im #[])/\cW B b (bs++aX s) w'/\Kp B b w w':=by
 have hb:=h.lt;obtain⟨W1,cQ,aB,-,cI⟩:=bV w #[U O (s.size:Int)] 3;have HN:Hid (aF 263 #[If (AI ⟨b,0,be⟩),J (AI ⟨w.heap.size,0,be⟩) 1 1] W1 λe w'=>e=AT (Im #[])/\cW B b (bs++bk s.size) w'/\Kp B b w w'):=by
  refine(lB B b w.heap.size 1 [(s.size:Int)] _ _ bs W1 (h.below aB) (by simp;omega) (Ir gL aB.size) (hT.below (aB.mono gL)) cI (by omega) (λj hj=>?_) (λn hn=>?_)).mono ?_
  .have:j=0:=by simpa using hj
   subst this;rfl
  .simp at hn;rw[hn];exact cU (by omega)
  .rintro e w' ⟨rfl,h1,h2⟩
   exact⟨rfl,by simpa using h1,(Kp.b9 aB gL).trans h2⟩
 have HL:Hid ((bs++bk s.size).length+s.size<=1000000):=by
  show(bs++bk s.size).length+s.size<=1000000;rw[Ih];have:=dG (cU (n:=s.size) (by omega));omega
 clear h cI aB hT;go_enter Tryz.func259,Tryz.ntmps259;go_wp2_with fail;rw[<- cQ];refine HN.out.mono ?_;rintro e w1 ⟨rfl,h1,jj⟩;have nV:Hid (cW _ _ _ _):=h1;have mc:Hid _:=jj;clear h1 jj cQ;go_wp2_with fail;refine(lW B b _ s w1 nV.out HL.out (Ir gL mc.out.size)).mono ?_;rintro e w2 ⟨rfl,h2,jd⟩;have DO:Hid (cW B b (bs++aX s) w2):=(show cW _ _ _ _ by unfold aX;rw[<- Ip];exact .inr h2);have oQ:Hid _:=mc.out.trans jd;clear h2 jd;go_wp2_with fail;simp[JU,results,Tryz.results259];exact⟨DO.out,oQ.out⟩
theorem nf(B b:Nat)(y:Bool)(bs:List Value)(w:World)(h:cW B b bs w)(hlen:bs.length<=800000)(gL:B<=w.heap.size)(hT:lY B w) :
 aF 260 #[If (AI ⟨b,0,be⟩),Ia y] w λe w'=>e=AT (Im #[])/\cW B b (bs++eJ y) w'/\Kp B b w w':=by
 have hb:=h.lt;have HN:Hid (∀n:Int,(n=0\/n=1)->aF 263 #[If (AI ⟨b,0,be⟩),J (AI ⟨w.heap.size,0,be⟩) 1 1] (w.alloc (By #[U O n] 3)) λe w'=>e=AT (Im #[])/\cW B b (bs++bk n) w'/\Kp B b w w'):=λn hn=>by
  have aB:Below w.heap.size w (w.alloc (By #[U O n] 3)):=(Ib _ _).alloc (Ic _) _;refine(lB B b w.heap.size 1 [n] _ _ bs _ (h.below aB) (by simp;omega) (Ir gL aB.size) (hT.below (aB.mono gL)) (Ii w _) (by omega) (λj hj=>?_) (λm hm=>?_)).mono ?_
  .have:j=0:=by simpa using hj
   subst this;rfl
  .simp at hm;rw[hm];rcases hn with rfl|rfl<;>exact⟨by omega,by omega⟩
  .rintro e w' ⟨rfl,h1,h2⟩
   exact⟨rfl,by simpa using h1,(Kp.b9 aB gL).trans h2⟩
 clear h hT;cases y
 .have HF:Hid (bs++bk 0=bs++eJ false):=rfl
  go_enter Tryz.func260,Tryz.ntmps260;go_wp2_with fail;refine(HN.out 0 (.inl rfl)).mono ?_;rintro e w1 ⟨rfl,h1,jj⟩;have nV:Hid (cW _ _ _ _):=h1;have mc:Hid _:=jj;clear h1 jj;go_wp2_with fail;simp[JU,results,Tryz.results260];exact⟨nV.out,mc.out⟩
 .go_enter Tryz.func260,Tryz.ntmps260
  go_wp2_with fail;refine(HN.out 1 (.inr rfl)).mono ?_;rintro e w1 ⟨rfl,h1,jj⟩;have nV:Hid (cW _ _ _ _):=h1;have mc:Hid _:=jj;clear h1 jj;go_wp2_with fail;simp[JU,results,Tryz.results260];exact⟨nV.out,mc.out⟩
theorem dH{s:ByteArray}(h:s.size<=1000):(aX s).length<=1100:=by
 unfold aX;rw[Ih,QU];have:=dG (cU (n:=s.size) (by omega));omega
theorem iN(y:Bool):(eJ y).length<=1100:=by
 unfold eJ;have:=dG (n:=if y=true then 1 else 0) (by split<;>exact⟨by omega,by omega⟩);omega
theorem gN(B b:Nat)(ns:List Int)(bs:List Value)(w:World)(h:cW B b bs w)(hlen:bs.length+21*ns.length<=900000)(gL:B<=w.heap.size)(hT:lY B w)(hn:∀n∈ns,fR n) :
 aF 263 #[If (AI ⟨b,0,be⟩),J (AI ⟨w.heap.size,0,be⟩) ns.length ns.length] (w.alloc (By (ns.map (U O)).toArray 3)) λe w'=>e=AT (Im #[])/\cW B b (bs++ns.flatMap bk) w'/\Kp B b w w':=by
 have aB:Below w.heap.size w (w.alloc (By (ns.map (U O)).toArray 3)):=(Ib _ _).alloc (Ic _) _;refine(lB B b w.heap.size ns.length ns _ _ bs _ (h.below aB) hlen (Ir gL aB.size) (hT.below (aB.mono gL)) (Ii w _) (by have:=h.lt;omega) (λj hj=>?_) hn).mono ?_
 .simp[Iq,Ie hj]
 .rintro e w' ⟨rfl,h1,h2⟩
  exact⟨rfl,h1,(Kp.b9 aB gL).trans h2⟩
theorem Kp.keeps{B b k:Nat}{w w':World}{cs:Array Value}{T:TypeId}{fz:Nat×Nat}(h:Kp B b w w')(hk:w.heap[k]?=AI (By cs T fz))(aT:k≠b)(hT:T≠5):w'.heap[k]?=AI (By cs T fz):=
 h.TK k _ hk (λe=>aT (by injection e)) (λc z e=>by injection e with _ e2 _;exact hT e2)
def dv(m:Mem):List Value:=aX m.name++[m.state,m.aM,m.addr].flatMap bk++eJ m.server
def j9(m:Mem):Prop:=m.name.size<=1000/\fR m.state/\fR m.aM/\fR m.addr
theorem lD{m:Mem}(h:j9 m):(dv m).length<=3300:=by
 unfold dv;obtain⟨h0,h1,h2,h3⟩:=h;have l0:=dH h0;have l1:=eQ [m.state,m.aM,m.addr] (λn hn=>by simp only[IQ,Jw,or_false] at hn;rcases hn with rfl|rfl|rfl<;>assumption);simp only[Iz,IV] at l1;have l2:=iN m.server;simp only[Ih];omega
theorem jM(B b wb:Nat)(m:Mem)(bs:List Value)(w:World)(h:cW B b bs w)(hlen:bs.length<=700000)(gL:B<=w.heap.size)(hT:lY B w)(mw:w.heap[wb]?=AI (By #[If (AI ⟨b,0,be⟩)] 289 (0,0)))(aT:wb≠b)(hm:j9 m) :
 aF 262 #[.agg #[Y m.name,U O m.state,U O m.aM,U O m.addr,Ia m.server],If (AI ⟨wb,0,be⟩)] w λe w'=>e=AT (Im #[])/\cW B b (bs++dv m) w'/\Kp B b w w':=by
 have GL:Hid (dv m=aX m.name++[m.state,m.aM,m.addr].flatMap bk++eJ m.server):=rfl;generalize dv m=EL at *;obtain⟨x0,x1,x2,x3,x4⟩:=m;obtain⟨h0,h1,h2,h3⟩:=hm;simp only at h0 h1 h2 h3 GL ⊢;have gE:=h.lt;have Ge:=(BY.1 mw).1;obtain⟨W0,bA⟩:∃W0,W0=w.alloc (By #[Y x0,U O x1,U O x2,U O x3,Ia x4] 50):=⟨_,rfl⟩;have bM:Below w.heap.size w W0:=by rw[bA];exact(Ib _ _).alloc (Ic _) _
 have vq:Kp B b w W0:=Kp.b9 bM gL;have sI:Hid (cW B b bs W0):=h.below bM;have wH:Hid _:=vq;have CE:Hid (W0.heap[w.heap.size]?=AI (By #[Y x0,U O x1,U O x2,U O x3,Ia x4] 50 (0,0))):=by rw[bA];exact Ii w _
 have cY:Hid _:=(bM.block _ Ge).trans mw;have CF:Hid _:=hlen;have HT:Hid (lY B w):=hT;clear h bM vq mw hT hlen;go_enter Tryz.func262,Tryz.ntmps262;go_upto_region 1 with fail
 rw[<- bA];clear bA;have y0:=ae cY.out 0;have z0:=ae CE.out 0;go_wp2_with fail;refine(gx B b x0 (bs) W0 sI.out (by have:=CF.out;omega) (Ir gL wH.out.size) (HT.out.below wH.out.jV)).mono ?_;rintro e W1 ⟨rfl,hw,hk⟩;have nV:Hid (cW _ _ _ _):=hw;have mc:Hid _:=wH.out.trans hk;have jW:Hid _:=hk.keeps CE.out (by omega) (by decide);have aY:Hid _:=hk.keeps cY.out aT (by decide);have vt:Hid ((bs++aX x0).length<=701100):=by
  have g1:=CF.out;have g2:=dH h0;show Jt (bs++aX x0)<=_;rw[Ih];omega
 clear hw hk y0 z0;have y0:=ae aY.out 0;have z0:=ae jW.out 1;have z1:=ae jW.out 2;have z2:=ae jW.out 3;go_wp2_with fail;refine(gN B b [x1,x2,x3] (bs++aX x0) W1 nV.out (by have:=vt.out;simp only[Iz,IV];omega) (Ir gL mc.out.size) (HT.out.below mc.out.jV) (λn hn=>by simp only[IQ,Jw,or_false] at hn;rcases hn with rfl|rfl|rfl<;>assumption)).mono ?_;rintro e W2 ⟨rfl,hw,hk⟩;have DO:Hid (cW _ _ _ _):=hw;have oQ:Hid _:=mc.out.trans hk;have AO:Hid _:=hk.keeps jW.out (by omega) (by decide);have bp:Hid _:=hk.keeps aY.out aT (by decide);have uG:Hid ((bs++aX x0++[x1,x2,x3].flatMap bk).length<=702200):=by
  have g1:=vt.out;have g2:=eQ [x1,x2,x3] (λn hn=>by simp only[IQ,Jw,or_false] at hn;rcases hn with rfl|rfl|rfl<;>assumption);show Jt (bs++aX x0++[x1,x2,x3].flatMap bk)<=_;rw[Ih];simp only[Iz,IV] at g2;omega
 clear hw hk y0 z0 z1 z2;have y0:=ae bp.out 0;have z0:=ae AO.out 4;go_wp2_with fail;refine(nf B b x4 (bs++aX x0++[x1,x2,x3].flatMap bk) W2 DO.out (by have:=uG.out;omega) (Ir gL oQ.out.size) (HT.out.below oQ.out.jV)).mono ?_;rintro e W3 ⟨rfl,hw,hk⟩;have yH:Hid (cW _ _ _ _):=hw;have uf:Hid _:=oQ.out.trans hk;have TM:Hid _:=hk.keeps AO.out (by omega) (by decide);have cF:Hid _:=hk.keeps bp.out aT (by decide);have TO:Hid ((bs++aX x0++[x1,x2,x3].flatMap bk++eJ x4).length<=703300):=by
  have g1:=uG.out;have g2:=iN x4;show Jt (bs++aX x0++[x1,x2,x3].flatMap bk++eJ x4)<=_;rw[Ih];omega
 clear hw hk y0 z0;have rC:Hid (cW B b (bs++EL) W3):=by
  have h:=yH.out;rw[GL.out];simp only[Ip] at h ⊢;exact h
 go_wp2_with fail;simp[JU,results,Tryz.results262];exact⟨rC.out,uf.out⟩
def Sv.dv(m:Sv.aW):List Value:=aX m.node++aX m.bq++aX m.name++aX m.tag++[m.addr,m.port].flatMap bk++eJ m.aj++[m.version].flatMap bk++eJ m.gone
def Sv.j9(m:Sv.aW):Prop:=m.node.size<=1000/\m.bq.size<=1000/\m.name.size<=1000/\m.tag.size<=1000/\fR m.addr/\fR m.port/\fR m.version
theorem Sv.lD{m:Sv.aW}(h:Sv.j9 m):(Sv.dv m).length<=8800:=by
 unfold Sv.dv;obtain⟨h0,h1,h2,h3,h4,h5,h6⟩:=h;have l0:=dH h0;have l1:=dH h1;have l2:=dH h2;have l3:=dH h3;have l4:=eQ [m.addr,m.port] (λn hn=>by simp only[IQ,Jw,or_false] at hn;rcases hn with rfl|rfl<;>assumption);simp only[Iz,IV] at l4;have l5:=iN m.aj;have l6:=eQ [m.version] (λn hn=>by simp only[IQ,Jw,or_false] at hn;rcases hn with rfl<;>assumption);simp only[Iz,IV] at l6;have l7:=iN m.gone;simp only[Ih];omega
theorem Sv.jM(B b wb:Nat)(m:Sv.aW)(bs:List Value)(w:World)(h:cW B b bs w)(hlen:bs.length<=700000)(gL:B<=w.heap.size)(hT:lY B w)(mw:w.heap[wb]?=AI (By #[If (AI ⟨b,0,be⟩)] 289 (0,0)))(aT:wb≠b)(hm:Sv.j9 m) :
 aF 265 #[.agg #[Y m.node,Y m.bq,Y m.name,Y m.tag,U O m.addr,U O m.port,Ia m.aj,U O m.version,Ia m.gone],If (AI ⟨wb,0,be⟩)] w λe w'=>e=AT (Im #[])/\cW B b (bs++Sv.dv m) w'/\Kp B b w w':=by
 have GL:Hid (Sv.dv m=aX m.node++aX m.bq++aX m.name++aX m.tag++[m.addr,m.port].flatMap bk++eJ m.aj++[m.version].flatMap bk++eJ m.gone):=rfl;generalize Sv.dv m=EL at *;obtain⟨x0,x1,x2,x3,x4,x5,x6,x7,x8⟩:=m;obtain⟨h0,h1,h2,h3,h4,h5,h6⟩:=hm;simp only at h0 h1 h2 h3 h4 h5 h6 GL ⊢;have gE:=h.lt;have Ge:=(BY.1 mw).1;obtain⟨W0,bA⟩:∃W0,W0=w.alloc (By #[Y x0,Y x1,Y x2,Y x3,U O x4,U O x5,Ia x6,U O x7,Ia x8] 46):=⟨_,rfl⟩;have bM:Below w.heap.size w W0:=by rw[bA];exact(Ib _ _).alloc (Ic _) _
 have vq:Kp B b w W0:=Kp.b9 bM gL;have sI:Hid (cW B b bs W0):=h.below bM;have wH:Hid _:=vq;have CE:Hid (W0.heap[w.heap.size]?=AI (By #[Y x0,Y x1,Y x2,Y x3,U O x4,U O x5,Ia x6,U O x7,Ia x8] 46 (0,0))):=by rw[bA];exact Ii w _
 have cY:Hid _:=(bM.block _ Ge).trans mw;have CF:Hid _:=hlen;have HT:Hid (lY B w):=hT;clear h bM vq mw hT hlen;go_enter Tryz.func265,Tryz.ntmps265;go_upto_region 1 with fail
 rw[<- bA];clear bA;have y0:=ae cY.out 0;have z0:=ae CE.out 0;go_wp2_with fail;refine(gx B b x0 (bs) W0 sI.out (by have:=CF.out;omega) (Ir gL wH.out.size) (HT.out.below wH.out.jV)).mono ?_;rintro e W1 ⟨rfl,hw,hk⟩;have nV:Hid (cW _ _ _ _):=hw;have mc:Hid _:=wH.out.trans hk;have jW:Hid _:=hk.keeps CE.out (by omega) (by decide);have aY:Hid _:=hk.keeps cY.out aT (by decide);have vt:Hid ((bs++aX x0).length<=701100):=by
  have g1:=CF.out;have g2:=dH h0;show Jt (bs++aX x0)<=_;rw[Ih];omega
 clear hw hk y0 z0;have y0:=ae aY.out 0;have z0:=ae jW.out 1;go_wp2_with fail;refine(gx B b x1 (bs++aX x0) W1 nV.out (by have:=vt.out;omega) (Ir gL mc.out.size) (HT.out.below mc.out.jV)).mono ?_;rintro e W2 ⟨rfl,hw,hk⟩;have DO:Hid (cW _ _ _ _):=hw;have oQ:Hid _:=mc.out.trans hk;have AO:Hid _:=hk.keeps jW.out (by omega) (by decide);have bp:Hid _:=hk.keeps aY.out aT (by decide);have uG:Hid ((bs++aX x0++aX x1).length<=702200):=by
  have g1:=vt.out;have g2:=dH h1;show Jt (bs++aX x0++aX x1)<=_;rw[Ih];omega
 clear hw hk y0 z0;have y0:=ae bp.out 0;have z0:=ae AO.out 2;go_wp2_with fail;refine(gx B b x2 (bs++aX x0++aX x1) W2 DO.out (by have:=uG.out;omega) (Ir gL oQ.out.size) (HT.out.below oQ.out.jV)).mono ?_;rintro e W3 ⟨rfl,hw,hk⟩;have yH:Hid (cW _ _ _ _):=hw;have uf:Hid _:=oQ.out.trans hk;have TM:Hid _:=hk.keeps AO.out (by omega) (by decide);have cF:Hid _:=hk.keeps bp.out aT (by decide);have TO:Hid ((bs++aX x0++aX x1++aX x2).length<=703300):=by
  have g1:=uG.out;have g2:=dH h2;show Jt (bs++aX x0++aX x1++aX x2)<=_;rw[Ih];omega
 clear hw hk y0 z0;have y0:=ae cF.out 0;have z0:=ae TM.out 3;go_wp2_with fail;refine(gx B b x3 (bs++aX x0++aX x1++aX x2) W3 yH.out (by have:=TO.out;omega) (Ir gL uf.out.size) (HT.out.below uf.out.jV)).mono ?_;rintro e W4 ⟨rfl,hw,hk⟩;have HW4:Hid (cW _ _ _ _):=hw;have DP:Hid _:=uf.out.trans hk;have TP:Hid _:=hk.keeps TM.out (by omega) (by decide);have fE:Hid _:=hk.keeps cF.out aT (by decide);have RN:Hid ((bs++aX x0++aX x1++aX x2++aX x3).length<=704400):=by
  have g1:=TO.out;have g2:=dH h3;show Jt (bs++aX x0++aX x1++aX x2++aX x3)<=_;rw[Ih];omega
 clear hw hk y0 z0;have y0:=ae fE.out 0;have z0:=ae TP.out 4;have z1:=ae TP.out 5;go_wp2_with fail;refine(gN B b [x4,x5] (bs++aX x0++aX x1++aX x2++aX x3) W4 HW4.out (by have:=RN.out;simp only[Iz,IV];omega) (Ir gL DP.out.size) (HT.out.below DP.out.jV) (λn hn=>by simp only[IQ,Jw,or_false] at hn;rcases hn with rfl|rfl<;>assumption)).mono ?_;rintro e W5 ⟨rfl,hw,hk⟩;have Po:Hid (cW _ _ _ _):=hw;have AP:Hid _:=DP.out.trans hk;have Vs:Hid _:=hk.keeps TP.out (by omega) (by decide);have gX:Hid _:=hk.keeps fE.out aT (by decide);have Vt:Hid ((bs++aX x0++aX x1++aX x2++aX x3++[x4,x5].flatMap bk).length<=705500):=by
  have g1:=RN.out;have g2:=eQ [x4,x5] (λn hn=>by simp only[IQ,Jw,or_false] at hn;rcases hn with rfl|rfl<;>assumption);show Jt (bs++aX x0++aX x1++aX x2++aX x3++[x4,x5].flatMap bk)<=_;rw[Ih];simp only[Iz,IV] at g2;omega
 clear hw hk y0 z0 z1;have y0:=ae gX.out 0;have z0:=ae Vs.out 6;go_wp2_with fail;refine(nf B b x6 (bs++aX x0++aX x1++aX x2++aX x3++[x4,x5].flatMap bk) W5 Po.out (by have:=Vt.out;omega) (Ir gL AP.out.size) (HT.out.below AP.out.jV)).mono ?_;rintro e W6 ⟨rfl,hw,hk⟩;have HW6:Hid (cW _ _ _ _):=hw;have Vu:Hid _:=AP.out.trans hk;have HX6:Hid _:=hk.keeps Vs.out (by omega) (by decide);have rD:Hid _:=hk.keeps gX.out aT (by decide);have HL6:Hid ((bs++aX x0++aX x1++aX x2++aX x3++[x4,x5].flatMap bk++eJ x6).length<=706600):=by
  have g1:=Vt.out;have g2:=iN x6;show Jt (bs++aX x0++aX x1++aX x2++aX x3++[x4,x5].flatMap bk++eJ x6)<=_;rw[Ih];omega
 clear hw hk y0 z0;have y0:=ae rD.out 0;have z0:=ae HX6.out 7;go_wp2_with fail;refine(gN B b [x7] (bs++aX x0++aX x1++aX x2++aX x3++[x4,x5].flatMap bk++eJ x6) W6 HW6.out (by have:=HL6.out;simp only[Iz,IV];omega) (Ir gL Vu.out.size) (HT.out.below Vu.out.jV) (λn hn=>by simp only[IQ,Jw,or_false] at hn;rcases hn with rfl<;>assumption)).mono ?_;rintro e W7 ⟨rfl,hw,hk⟩;have HW7:Hid (cW _ _ _ _):=hw;have Mn:Hid _:=Vu.out.trans hk;have HX7:Hid _:=hk.keeps HX6.out (by omega) (by decide);have DQ:Hid _:=hk.keeps rD.out aT (by decide);have HL7:Hid ((bs++aX x0++aX x1++aX x2++aX x3++[x4,x5].flatMap bk++eJ x6++[x7].flatMap bk).length<=707700):=by
  have g1:=HL6.out;have g2:=eQ [x7] (λn hn=>by simp only[IQ,Jw,or_false] at hn;rcases hn with rfl<;>assumption);show Jt (bs++aX x0++aX x1++aX x2++aX x3++[x4,x5].flatMap bk++eJ x6++[x7].flatMap bk)<=_;rw[Ih];simp only[Iz,IV] at g2;omega
 clear hw hk y0 z0;have y0:=ae DQ.out 0;have z0:=ae HX7.out 8;go_wp2_with fail;refine(nf B b x8 (bs++aX x0++aX x1++aX x2++aX x3++[x4,x5].flatMap bk++eJ x6++[x7].flatMap bk) W7 HW7.out (by have:=HL7.out;omega) (Ir gL Mn.out.size) (HT.out.below Mn.out.jV)).mono ?_;rintro e W8 ⟨rfl,hw,hk⟩;have HW8:Hid (cW _ _ _ _):=hw;have HK8:Hid _:=Mn.out.trans hk;have HX8:Hid _:=hk.keeps HX7.out (by omega) (by decide);have HB8:Hid _:=hk.keeps DQ.out aT (by decide);have HL8:Hid ((bs++aX x0++aX x1++aX x2++aX x3++[x4,x5].flatMap bk++eJ x6++[x7].flatMap bk++eJ x8).length<=708800):=by
  have g1:=HL7.out;have g2:=iN x8;show Jt (bs++aX x0++aX x1++aX x2++aX x3++[x4,x5].flatMap bk++eJ x6++[x7].flatMap bk++eJ x8)<=_;rw[Ih];omega
 clear hw hk y0 z0;have rC:Hid (cW B b (bs++EL) W8):=by
  have h:=HW8.out;rw[GL.out];simp only[Ip] at h ⊢;exact h
 go_wp2_with fail;simp[JU,results,Tryz.results265];exact⟨rC.out,HK8.out⟩
def Gw.dv(m:Gw.bC):List Value:=aX m.aC++[m.addr,m.version].flatMap bk
def Gw.j9(m:Gw.bC):Prop:=m.aC.size<=1000/\fR m.addr/\fR m.version
theorem Gw.lD{m:Gw.bC}(h:Gw.j9 m):(Gw.dv m).length<=2200:=by
 unfold Gw.dv;obtain⟨h0,h1,h2⟩:=h;have l0:=dH h0;have l1:=eQ [m.addr,m.version] (λn hn=>by simp only[IQ,Jw,or_false] at hn;rcases hn with rfl|rfl<;>assumption);simp only[Iz,IV] at l1;simp only[Ih];omega
theorem Gw.jM(B b wb:Nat)(m:Gw.bC)(bs:List Value)(w:World)(h:cW B b bs w)(hlen:bs.length<=700000)(gL:B<=w.heap.size)(hT:lY B w)(mw:w.heap[wb]?=AI (By #[If (AI ⟨b,0,be⟩)] 289 (0,0)))(aT:wb≠b)(hm:Gw.j9 m) :
 aF 267 #[.agg #[Y m.aC,U O m.addr,U O m.version],If (AI ⟨wb,0,be⟩)] w λe w'=>e=AT (Im #[])/\cW B b (bs++Gw.dv m) w'/\Kp B b w w':=by
 have GL:Hid (Gw.dv m=aX m.aC++[m.addr,m.version].flatMap bk):=rfl;generalize Gw.dv m=EL at *;obtain⟨x0,x1,x2⟩:=m;obtain⟨h0,h1,h2⟩:=hm;simp only at h0 h1 h2 GL ⊢;have gE:=h.lt;have Ge:=(BY.1 mw).1;obtain⟨W0,bA⟩:∃W0,W0=w.alloc (By #[Y x0,U O x1,U O x2] 77):=⟨_,rfl⟩;have bM:Below w.heap.size w W0:=by rw[bA];exact(Ib _ _).alloc (Ic _) _
 have vq:Kp B b w W0:=Kp.b9 bM gL;have sI:Hid (cW B b bs W0):=h.below bM;have wH:Hid _:=vq;have CE:Hid (W0.heap[w.heap.size]?=AI (By #[Y x0,U O x1,U O x2] 77 (0,0))):=by rw[bA];exact Ii w _
 have cY:Hid _:=(bM.block _ Ge).trans mw;have CF:Hid _:=hlen;have HT:Hid (lY B w):=hT;clear h bM vq mw hT hlen;go_enter Tryz.func267,Tryz.ntmps267;go_upto_region 1 with fail
 rw[<- bA];clear bA;have y0:=ae cY.out 0;have z0:=ae CE.out 0;go_wp2_with fail;refine(gx B b x0 (bs) W0 sI.out (by have:=CF.out;omega) (Ir gL wH.out.size) (HT.out.below wH.out.jV)).mono ?_;rintro e W1 ⟨rfl,hw,hk⟩;have nV:Hid (cW _ _ _ _):=hw;have mc:Hid _:=wH.out.trans hk;have jW:Hid _:=hk.keeps CE.out (by omega) (by decide);have aY:Hid _:=hk.keeps cY.out aT (by decide);have vt:Hid ((bs++aX x0).length<=701100):=by
  have g1:=CF.out;have g2:=dH h0;show Jt (bs++aX x0)<=_;rw[Ih];omega
 clear hw hk y0 z0;have y0:=ae aY.out 0;have z0:=ae jW.out 1;have z1:=ae jW.out 2;go_wp2_with fail;refine(gN B b [x1,x2] (bs++aX x0) W1 nV.out (by have:=vt.out;simp only[Iz,IV];omega) (Ir gL mc.out.size) (HT.out.below mc.out.jV) (λn hn=>by simp only[IQ,Jw,or_false] at hn;rcases hn with rfl|rfl<;>assumption)).mono ?_;rintro e W2 ⟨rfl,hw,hk⟩;have DO:Hid (cW _ _ _ _):=hw;have oQ:Hid _:=mc.out.trans hk;have AO:Hid _:=hk.keeps jW.out (by omega) (by decide);have bp:Hid _:=hk.keeps aY.out aT (by decide);have uG:Hid ((bs++aX x0++[x1,x2].flatMap bk).length<=702200):=by
  have g1:=vt.out;have g2:=eQ [x1,x2] (λn hn=>by simp only[IQ,Jw,or_false] at hn;rcases hn with rfl|rfl<;>assumption);show Jt (bs++aX x0++[x1,x2].flatMap bk)<=_;rw[Ih];simp only[Iz,IV] at g2;omega
 clear hw hk y0 z0 z1;have rC:Hid (cW B b (bs++EL) W2):=by
  have h:=DO.out;rw[GL.out];simp only[Ip] at h ⊢;exact h
 go_wp2_with fail;simp[JU,results,Tryz.results267];exact⟨rC.out,oQ.out⟩
def Wh.dv(m:Wh.bJ):List Value:=aX m.node++[m.x,m.y,m.z,m.h,m.s].flatMap bk
def Wh.j9(m:Wh.bJ):Prop:=m.node.size<=1000/\fR m.x/\fR m.y/\fR m.z/\fR m.h/\fR m.s
theorem Wh.lD{m:Wh.bJ}(h:Wh.j9 m):(Wh.dv m).length<=2200:=by
 unfold Wh.dv;obtain⟨h0,h1,h2,h3,h4,h5⟩:=h;have l0:=dH h0;have l1:=eQ [m.x,m.y,m.z,m.h,m.s] (λn hn=>by simp only[IQ,Jw,or_false] at hn;rcases hn with rfl|rfl|rfl|rfl|rfl<;>assumption);simp only[Iz,IV] at l1;simp only[Ih];omega
theorem Wh.jM(B b wb:Nat)(m:Wh.bJ)(bs:List Value)(w:World)(h:cW B b bs w)(hlen:bs.length<=700000)(gL:B<=w.heap.size)(hT:lY B w)(mw:w.heap[wb]?=AI (By #[If (AI ⟨b,0,be⟩)] 289 (0,0)))(aT:wb≠b)(hm:Wh.j9 m) :
 aF 269 #[.agg #[Y m.node,U O m.x,U O m.y,U O m.z,U O m.h,U O m.s],If (AI ⟨wb,0,be⟩)] w λe w'=>e=AT (Im #[])/\cW B b (bs++Wh.dv m) w'/\Kp B b w w':=by
 have GL:Hid (Wh.dv m=aX m.node++[m.x,m.y,m.z,m.h,m.s].flatMap bk):=rfl;generalize Wh.dv m=EL at *;obtain⟨x0,x1,x2,x3,x4,x5⟩:=m;obtain⟨h0,h1,h2,h3,h4,h5⟩:=hm;simp only at h0 h1 h2 h3 h4 h5 GL ⊢;have gE:=h.lt;have Ge:=(BY.1 mw).1;obtain⟨W0,bA⟩:∃W0,W0=w.alloc (By #[Y x0,U O x1,U O x2,U O x3,U O x4,U O x5] 116):=⟨_,rfl⟩;have bM:Below w.heap.size w W0:=by rw[bA];exact(Ib _ _).alloc (Ic _) _
 have vq:Kp B b w W0:=Kp.b9 bM gL;have sI:Hid (cW B b bs W0):=h.below bM;have wH:Hid _:=vq;have CE:Hid (W0.heap[w.heap.size]?=AI (By #[Y x0,U O x1,U O x2,U O x3,U O x4,U O x5] 116 (0,0))):=by rw[bA];exact Ii w _
 have cY:Hid _:=(bM.block _ Ge).trans mw;have CF:Hid _:=hlen;have HT:Hid (lY B w):=hT;clear h bM vq mw hT hlen;go_enter Tryz.func269,Tryz.ntmps269;go_upto_region 1 with fail
 rw[<- bA];clear bA;have y0:=ae cY.out 0;have z0:=ae CE.out 0;go_wp2_with fail;refine(gx B b x0 (bs) W0 sI.out (by have:=CF.out;omega) (Ir gL wH.out.size) (HT.out.below wH.out.jV)).mono ?_;rintro e W1 ⟨rfl,hw,hk⟩;have nV:Hid (cW _ _ _ _):=hw;have mc:Hid _:=wH.out.trans hk;have jW:Hid _:=hk.keeps CE.out (by omega) (by decide);have aY:Hid _:=hk.keeps cY.out aT (by decide);have vt:Hid ((bs++aX x0).length<=701100):=by
  have g1:=CF.out;have g2:=dH h0;show Jt (bs++aX x0)<=_;rw[Ih];omega
 clear hw hk y0 z0;have y0:=ae aY.out 0;have z0:=ae jW.out 1;have z1:=ae jW.out 2;have z2:=ae jW.out 3;have z3:=ae jW.out 4;have z4:=ae jW.out 5;go_wp2_with fail;refine(gN B b [x1,x2,x3,x4,x5] (bs++aX x0) W1 nV.out (by have:=vt.out;simp only[Iz,IV];omega) (Ir gL mc.out.size) (HT.out.below mc.out.jV) (λn hn=>by simp only[IQ,Jw,or_false] at hn;rcases hn with rfl|rfl|rfl|rfl|rfl<;>assumption)).mono ?_;rintro e W2 ⟨rfl,hw,hk⟩;have DO:Hid (cW _ _ _ _):=hw;have oQ:Hid _:=mc.out.trans hk;have AO:Hid _:=hk.keeps jW.out (by omega) (by decide);have bp:Hid _:=hk.keeps aY.out aT (by decide);have uG:Hid ((bs++aX x0++[x1,x2,x3,x4,x5].flatMap bk).length<=702200):=by
  have g1:=vt.out;have g2:=eQ [x1,x2,x3,x4,x5] (λn hn=>by simp only[IQ,Jw,or_false] at hn;rcases hn with rfl|rfl|rfl|rfl|rfl<;>assumption);show Jt (bs++aX x0++[x1,x2,x3,x4,x5].flatMap bk)<=_;rw[Ih];simp only[Iz,IV] at g2;omega
 clear hw hk y0 z0 z1 z2 z3 z4;have rC:Hid (cW B b (bs++EL) W2):=by
  have h:=DO.out;rw[GL.out];simp only[Ip] at h ⊢;exact h
 go_wp2_with fail;simp[JU,results,Tryz.results269];exact⟨rC.out,oQ.out⟩
theorem dK:∀(ms:List Mem),(∀m∈ms,j9 m)->(ms.flatMap dv).length<=3300*ms.length
 |[],_=>by simp
 |x::r,h=>by
  have h1:=lD (h x (by simp));have h2:=dK r (λm hm=>h m (by simp[hm]));rw[I1,Ih,Iz];omega
theorem ij(B b wb:Nat)(ms:List Mem)(v:Value)(bs:List Value)(w0 w:World)(h:cW B b bs w)(hv:Sl w0 v ms)(hB:B=w0.heap.size)(oV:Below B w0 w)(Pp:ms.length<=50)(hlen:bs.length+3300*ms.length<=600000)(gL:B<=w.heap.size)(hT:lY B w)(mw:w.heap[wb]?=AI (By #[If (AI ⟨b,0,be⟩)] 289 (0,0)))(aT:wb≠b)(hY:∀m∈ms,j9 m) :
 aF 261 #[If (AI ⟨b,0,be⟩),v,IP (.func 262) #[] #[If (AI ⟨wb,0,be⟩)]] w λe w'=>e=AT (Im #[])/\cW B b (bs++(bk ms.length++ms.flatMap dv)) w'/\Kp B b w w':=by
 have eg:=enters_of Tryz.func262 (by kernel_rfl) rfl;obtain⟨pa,ca,rfl,_,cO⟩:=hv;have HR:Hid _:=cO;have An:Hid _:=oV;have RO:Hid _:=mw;have kX:Hid _:=hY;have HT:Hid (lY B w):=hT;have HI:Hid (cW B b bs w):=h;have dR:Hid _:=hB;clear cO oV mw hY hT h hB;generalize qW:ms.length=nl at *;have jZ:Hid _:=qW;have qg:Hid _:=hlen;clear qW hlen;have AQ:Hid (aF 263 #[If (AI ⟨b,0,be⟩),J (AI ⟨w.heap.size,0,be⟩) 1 1] (w.alloc (By #[U O (nl:Int)] 3)) λe w'=>e=AT (Im #[])/\cW B b (bs++bk nl) w'/\Kp B b w w'):=by
  refine(gN B b [(nl:Int)] bs w HI.out (by have:=qg.out;simp only[Iz,IV];omega) gL HT.out (λn hn=>by simp at hn;rw[hn];exact cU (by omega))).mono ?_;rintro e w' ⟨rfl,h1,h2⟩;exact⟨rfl,by simpa using h1,h2⟩
 go_enter Tryz.func261,Tryz.ntmps261;go_wp2_with fail;refine AQ.out.mono ?_;rintro e w1 ⟨rfl,h1,jj⟩;have nV:Hid (cW _ _ _ _):=h1;have mc:Hid _:=jj;clear h1 jj AQ;go_wp2_with fail;go_loopw [15] (λi w'=>∃k:Nat,k<=nl/\i=U O k/\Hid (cW B b (bs++bk nl++(ms.take k).flatMap dv) w')/\Hid (Kp B b w w')) (λi _=>nl-(intOf i).toNat)
 case atStart=>exact⟨0,IH _,rfl,by simpa using nV,mc⟩
 case round=>
  obtain⟨k,hk,rfl,HW,HK⟩:=hrel;by_cases aR:k<nl
  .obtain⟨g,o,hp,di,hr⟩:∃b off,pa=AI ⟨b,off,be⟩/\b<w0.heap.size/\Row w0 b off ms:=by
    rcases HR.out with h|h
    .have:=jZ.out;rw[h] at this;simp at this;omega
    .exact h
   subst hp;have iI:k<ms.length:=by rw[jZ.out];exact aR
   obtain⟨c0,c1,c2,c3,c4⟩:=hr k iI;have aN:∀o,wr.cell? ⟨g,o,be⟩=w0.cell? ⟨g,o,be⟩:=λo=>(An.out.trans HK.out.jV).cell (p:=⟨g,o,be⟩) (by have:=dR.out;show g<B;omega);have GM:Hid (j9 (ms.getD k dm)):=kX.out _ (by rw[show ms.getD k dm=ms[k] by simp[Iq,Ie iI]];exact IG _);have sH:Hid ((ms.take (k+1)).flatMap dv=(ms.take k).flatMap dv++dv (ms.getD k dm)):=by
    show List.flatMap dv _=_;rw[II iI,Qf];simp[Iq,Ie iI]
   have CD:Hid ((bs++bk nl++(ms.take k).flatMap dv).length<=700000):=by
    have h1:=dK (ms.take k) (λn hn=>kX.out n (Je hn));have h2:(ms.take k).length<=k:=JK _ _;have h3:=qg.out;have h4:=dG (cU (n:=nl) (by omega));show(bs++bk nl++(ms.take k).flatMap dv).length<=700000;rw[Ih,Ih];omega
   generalize ms.getD k dm=x at *;generalize(ms.take k).flatMap dv=L at *;obtain⟨W2,bL⟩:∃W2,W2=wr.alloc (By #[Y x.name,U O x.state,U O x.aM,U O x.addr,Ia x.server] 50):=⟨_,rfl⟩;have aI:Below wr.heap.size wr W2:=by rw[bL];exact(Ib _ _).alloc (Ic _) _
   have xZ:=Ir gL HK.out.size;have dS:W2.heap[wr.heap.size]?=AI (By #[Y x.name,U O x.state,U O x.aM,U O x.addr,Ia x.server] 50 (0,0)):=by rw[bL];exact Ii wr _
   have AR:Hid _:=HK.out.trans (Kp.b9 aI xZ);have HC:Hid (aF _ _ _ _):=jM B b wb x _ W2 (HW.out.below aI) CD.out (Ir xZ aI.size) (HT.out.below AR.out.jV) (AR.out.keeps RO.out aT (by decide)) aT GM.out;generalize dv x=EX at *;obtain⟨x0,x1,x2,x3,x4⟩:=x;simp only at c0 c1 c2 c3 c4 dS bL HC;have d0:=(aN _).trans c0;have d1:=(aN _).trans c1;have d2:=(aN _).trans c2;have d3:=(aN _).trans c3;have d4:=(aN _).trans c4;clear aN c0 c1 c2 c3 c4 hr iI aI GM CD;have yI:(k:Int)<(nl:Int):=by omega
   go_upto_region 4 with fail
   rw[<- bL];clear bL d0 d1 d2 d3 d4;have z0:=ae dS 0;have z1:=ae dS 1;have z2:=ae dS 2;have z3:=ae dS 3;have z4:=ae dS 4;clear dS;go_wp2_with fail;refine HC.out.mono ?_;rintro e w3 ⟨rfl,h3,jw⟩;have yH:Hid (cW B b (bs++bk nl++(L++EX)) w3):=(show cW _ _ _ _ by rw[<- Ip];exact h3);have uf:Hid _:=AR.out.trans jw;clear h3 jw z0 z1 z2 z3 z4;go_wp2_with fail;go_roundw
   case rel=>exact⟨k+1,by omega,by go_num,by rw[sH.out];exact yH,uf⟩
   case measure=>simp[intOf];omega
  .have rC:Hid (cW B b (bs++(bk nl++ms.flatMap dv)) wr):=by
    have h:=HW.out;rw[Jk (by rw[jZ.out];omega),Ip] at h;exact h
   have yI:¬ (k:Int)<(nl:Int):=by omega
   go_wp2_with fail;simp[JU,results,Tryz.results261];exact⟨rC.out,HK.out⟩
theorem Sv.dK:∀(ms:List Sv.aW),(∀m∈ms,Sv.j9 m)->(ms.flatMap Sv.dv).length<=8800*ms.length
 |[],_=>by simp
 |x::r,h=>by
  have h1:=Sv.lD (h x (by simp));have h2:=Sv.dK r (λm hm=>h m (by simp[hm]));rw[I1,Ih,Iz];omega
theorem Sv.ij(B b wb:Nat)(ms:List Sv.aW)(v:Value)(bs:List Value)(w0 w:World)(h:cW B b bs w)(hv:Sv.Sl w0 v ms)(hB:B=w0.heap.size)(oV:Below B w0 w)(Pp:ms.length<=50)(hlen:bs.length+8800*ms.length<=600000)(gL:B<=w.heap.size)(hT:lY B w)(mw:w.heap[wb]?=AI (By #[If (AI ⟨b,0,be⟩)] 289 (0,0)))(aT:wb≠b)(hY:∀m∈ms,Sv.j9 m) :
 aF 264 #[If (AI ⟨b,0,be⟩),v,IP (.func 265) #[] #[If (AI ⟨wb,0,be⟩)]] w λe w'=>e=AT (Im #[])/\cW B b (bs++(bk ms.length++ms.flatMap Sv.dv)) w'/\Kp B b w w':=by
 have eg:=enters_of Tryz.func265 (by kernel_rfl) rfl;obtain⟨pa,ca,rfl,_,cO⟩:=hv;have HR:Hid _:=cO;have An:Hid _:=oV;have RO:Hid _:=mw;have kX:Hid _:=hY;have HT:Hid (lY B w):=hT;have HI:Hid (cW B b bs w):=h;have dR:Hid _:=hB;clear cO oV mw hY hT h hB;generalize qW:ms.length=nl at *;have jZ:Hid _:=qW;have qg:Hid _:=hlen;clear qW hlen;have AQ:Hid (aF 263 #[If (AI ⟨b,0,be⟩),J (AI ⟨w.heap.size,0,be⟩) 1 1] (w.alloc (By #[U O (nl:Int)] 3)) λe w'=>e=AT (Im #[])/\cW B b (bs++bk nl) w'/\Kp B b w w'):=by
  refine(gN B b [(nl:Int)] bs w HI.out (by have:=qg.out;simp only[Iz,IV];omega) gL HT.out (λn hn=>by simp at hn;rw[hn];exact cU (by omega))).mono ?_;rintro e w' ⟨rfl,h1,h2⟩;exact⟨rfl,by simpa using h1,h2⟩
 go_enter Tryz.func264,Tryz.ntmps264;go_wp2_with fail;refine AQ.out.mono ?_;rintro e w1 ⟨rfl,h1,jj⟩;have nV:Hid (cW _ _ _ _):=h1;have mc:Hid _:=jj;clear h1 jj AQ;go_wp2_with fail;go_loopw [15] (λi w'=>∃k:Nat,k<=nl/\i=U O k/\Hid (cW B b (bs++bk nl++(ms.take k).flatMap Sv.dv) w')/\Hid (Kp B b w w')) (λi _=>nl-(intOf i).toNat)
 case atStart=>exact⟨0,IH _,rfl,by simpa using nV,mc⟩
 case round=>
  obtain⟨k,hk,rfl,HW,HK⟩:=hrel;by_cases aR:k<nl
  .obtain⟨g,o,hp,di,hr⟩:∃b off,pa=AI ⟨b,off,be⟩/\b<w0.heap.size/\Sv.Row w0 b off ms:=by
    rcases HR.out with h|h
    .have:=jZ.out;rw[h] at this;simp at this;omega
    .exact h
   subst hp;have iI:k<ms.length:=by rw[jZ.out];exact aR
   obtain⟨c0,c1,c2,c3,c4,c5,c6,c7,c8⟩:=hr k iI;have aN:∀o,wr.cell? ⟨g,o,be⟩=w0.cell? ⟨g,o,be⟩:=λo=>(An.out.trans HK.out.jV).cell (p:=⟨g,o,be⟩) (by have:=dR.out;show g<B;omega);have GM:Hid (Sv.j9 (ms.getD k Sv.dm)):=kX.out _ (by rw[show ms.getD k Sv.dm=ms[k] by simp[Iq,Ie iI]];exact IG _);have sH:Hid ((ms.take (k+1)).flatMap Sv.dv=(ms.take k).flatMap Sv.dv++Sv.dv (ms.getD k Sv.dm)):=by
    show List.flatMap Sv.dv _=_;rw[II iI,Qf];simp[Iq,Ie iI]
   have CD:Hid ((bs++bk nl++(ms.take k).flatMap Sv.dv).length<=700000):=by
    have h1:=Sv.dK (ms.take k) (λn hn=>kX.out n (Je hn));have h2:(ms.take k).length<=k:=JK _ _;have h3:=qg.out;have h4:=dG (cU (n:=nl) (by omega));show(bs++bk nl++(ms.take k).flatMap Sv.dv).length<=700000;rw[Ih,Ih];omega
   generalize ms.getD k Sv.dm=x at *;generalize(ms.take k).flatMap Sv.dv=L at *;obtain⟨W2,bL⟩:∃W2,W2=wr.alloc (By #[Y x.node,Y x.bq,Y x.name,Y x.tag,U O x.addr,U O x.port,Ia x.aj,U O x.version,Ia x.gone] 46):=⟨_,rfl⟩;have aI:Below wr.heap.size wr W2:=by rw[bL];exact(Ib _ _).alloc (Ic _) _
   have xZ:=Ir gL HK.out.size;have dS:W2.heap[wr.heap.size]?=AI (By #[Y x.node,Y x.bq,Y x.name,Y x.tag,U O x.addr,U O x.port,Ia x.aj,U O x.version,Ia x.gone] 46 (0,0)):=by rw[bL];exact Ii wr _
   have AR:Hid _:=HK.out.trans (Kp.b9 aI xZ);have HC:Hid (aF _ _ _ _):=Sv.jM B b wb x _ W2 (HW.out.below aI) CD.out (Ir xZ aI.size) (HT.out.below AR.out.jV) (AR.out.keeps RO.out aT (by decide)) aT GM.out;generalize Sv.dv x=EX at *;obtain⟨x0,x1,x2,x3,x4,x5,x6,x7,x8⟩:=x;simp only at c0 c1 c2 c3 c4 c5 c6 c7 c8 dS bL HC;have d0:=(aN _).trans c0;have d1:=(aN _).trans c1;have d2:=(aN _).trans c2;have d3:=(aN _).trans c3;have d4:=(aN _).trans c4;have d5:=(aN _).trans c5;have d6:=(aN _).trans c6;have d7:=(aN _).trans c7;have d8:=(aN _).trans c8;clear aN c0 c1 c2 c3 c4 c5 c6 c7 c8 hr iI aI GM CD;have yI:(k:Int)<(nl:Int):=by omega
   go_upto_region 4 with fail
   rw[<- bL];clear bL d0 d1 d2 d3 d4 d5 d6 d7 d8;have z0:=ae dS 0;have z1:=ae dS 1;have z2:=ae dS 2;have z3:=ae dS 3;have z4:=ae dS 4;have z5:=ae dS 5;have z6:=ae dS 6;have z7:=ae dS 7;have z8:=ae dS 8;clear dS;go_wp2_with fail;refine HC.out.mono ?_;rintro e w3 ⟨rfl,h3,jw⟩;have yH:Hid (cW B b (bs++bk nl++(L++EX)) w3):=(show cW _ _ _ _ by rw[<- Ip];exact h3);have uf:Hid _:=AR.out.trans jw;clear h3 jw z0 z1 z2 z3 z4 z5 z6 z7 z8;go_wp2_with fail;go_roundw
   case rel=>exact⟨k+1,by omega,by go_num,by rw[sH.out];exact yH,uf⟩
   case measure=>simp[intOf];omega
  .have rC:Hid (cW B b (bs++(bk nl++ms.flatMap Sv.dv)) wr):=by
    have h:=HW.out;rw[Jk (by rw[jZ.out];omega),Ip] at h;exact h
   have yI:¬ (k:Int)<(nl:Int):=by omega
   go_wp2_with fail;simp[JU,results,Tryz.results264];exact⟨rC.out,HK.out⟩
theorem Gw.dK:∀(ms:List Gw.bC),(∀m∈ms,Gw.j9 m)->(ms.flatMap Gw.dv).length<=2200*ms.length
 |[],_=>by simp
 |x::r,h=>by
  have h1:=Gw.lD (h x (by simp));have h2:=Gw.dK r (λm hm=>h m (by simp[hm]));rw[I1,Ih,Iz];omega
theorem Gw.ij(B b wb:Nat)(ms:List Gw.bC)(v:Value)(bs:List Value)(w0 w:World)(h:cW B b bs w)(hv:Gw.Sl w0 v ms)(hB:B=w0.heap.size)(oV:Below B w0 w)(Pp:ms.length<=50)(hlen:bs.length+2200*ms.length<=600000)(gL:B<=w.heap.size)(hT:lY B w)(mw:w.heap[wb]?=AI (By #[If (AI ⟨b,0,be⟩)] 289 (0,0)))(aT:wb≠b)(hY:∀m∈ms,Gw.j9 m) :
 aF 266 #[If (AI ⟨b,0,be⟩),v,IP (.func 267) #[] #[If (AI ⟨wb,0,be⟩)]] w λe w'=>e=AT (Im #[])/\cW B b (bs++(bk ms.length++ms.flatMap Gw.dv)) w'/\Kp B b w w':=by
 have eg:=enters_of Tryz.func267 (by kernel_rfl) rfl;obtain⟨pa,ca,rfl,_,cO⟩:=hv;have HR:Hid _:=cO;have An:Hid _:=oV;have RO:Hid _:=mw;have kX:Hid _:=hY;have HT:Hid (lY B w):=hT;have HI:Hid (cW B b bs w):=h;have dR:Hid _:=hB;clear cO oV mw hY hT h hB;generalize qW:ms.length=nl at *;have jZ:Hid _:=qW;have qg:Hid _:=hlen;clear qW hlen;have AQ:Hid (aF 263 #[If (AI ⟨b,0,be⟩),J (AI ⟨w.heap.size,0,be⟩) 1 1] (w.alloc (By #[U O (nl:Int)] 3)) λe w'=>e=AT (Im #[])/\cW B b (bs++bk nl) w'/\Kp B b w w'):=by
  refine(gN B b [(nl:Int)] bs w HI.out (by have:=qg.out;simp only[Iz,IV];omega) gL HT.out (λn hn=>by simp at hn;rw[hn];exact cU (by omega))).mono ?_;rintro e w' ⟨rfl,h1,h2⟩;exact⟨rfl,by simpa using h1,h2⟩
 go_enter Tryz.func266,Tryz.ntmps266;go_wp2_with fail;refine AQ.out.mono ?_;rintro e w1 ⟨rfl,h1,jj⟩;have nV:Hid (cW _ _ _ _):=h1;have mc:Hid _:=jj;clear h1 jj AQ;go_wp2_with fail;go_loopw [15] (λi w'=>∃k:Nat,k<=nl/\i=U O k/\Hid (cW B b (bs++bk nl++(ms.take k).flatMap Gw.dv) w')/\Hid (Kp B b w w')) (λi _=>nl-(intOf i).toNat)
 case atStart=>exact⟨0,IH _,rfl,by simpa using nV,mc⟩
 case round=>
  obtain⟨k,hk,rfl,HW,HK⟩:=hrel;by_cases aR:k<nl
  .obtain⟨g,o,hp,di,hr⟩:∃b off,pa=AI ⟨b,off,be⟩/\b<w0.heap.size/\Gw.Row w0 b off ms:=by
    rcases HR.out with h|h
    .have:=jZ.out;rw[h] at this;simp at this;omega
    .exact h
   subst hp;have iI:k<ms.length:=by rw[jZ.out];exact aR
   obtain⟨c0,c1,c2⟩:=hr k iI;have aN:∀o,wr.cell? ⟨g,o,be⟩=w0.cell? ⟨g,o,be⟩:=λo=>(An.out.trans HK.out.jV).cell (p:=⟨g,o,be⟩) (by have:=dR.out;show g<B;omega);have GM:Hid (Gw.j9 (ms.getD k Gw.dm)):=kX.out _ (by rw[show ms.getD k Gw.dm=ms[k] by simp[Iq,Ie iI]];exact IG _);have sH:Hid ((ms.take (k+1)).flatMap Gw.dv=(ms.take k).flatMap Gw.dv++Gw.dv (ms.getD k Gw.dm)):=by
    show List.flatMap Gw.dv _=_;rw[II iI,Qf];simp[Iq,Ie iI]
   have CD:Hid ((bs++bk nl++(ms.take k).flatMap Gw.dv).length<=700000):=by
    have h1:=Gw.dK (ms.take k) (λn hn=>kX.out n (Je hn));have h2:(ms.take k).length<=k:=JK _ _;have h3:=qg.out;have h4:=dG (cU (n:=nl) (by omega));show(bs++bk nl++(ms.take k).flatMap Gw.dv).length<=700000;rw[Ih,Ih];omega
   generalize ms.getD k Gw.dm=x at *;generalize(ms.take k).flatMap Gw.dv=L at *;obtain⟨W2,bL⟩:∃W2,W2=wr.alloc (By #[Y x.aC,U O x.addr,U O x.version] 77):=⟨_,rfl⟩;have aI:Below wr.heap.size wr W2:=by rw[bL];exact(Ib _ _).alloc (Ic _) _
   have xZ:=Ir gL HK.out.size;have dS:W2.heap[wr.heap.size]?=AI (By #[Y x.aC,U O x.addr,U O x.version] 77 (0,0)):=by rw[bL];exact Ii wr _
   have AR:Hid _:=HK.out.trans (Kp.b9 aI xZ);have HC:Hid (aF _ _ _ _):=Gw.jM B b wb x _ W2 (HW.out.below aI) CD.out (Ir xZ aI.size) (HT.out.below AR.out.jV) (AR.out.keeps RO.out aT (by decide)) aT GM.out;generalize Gw.dv x=EX at *;obtain⟨x0,x1,x2⟩:=x;simp only at c0 c1 c2 dS bL HC;have d0:=(aN _).trans c0;have d1:=(aN _).trans c1;have d2:=(aN _).trans c2;clear aN c0 c1 c2 hr iI aI GM CD;have yI:(k:Int)<(nl:Int):=by omega
   go_upto_region 4 with fail
   rw[<- bL];clear bL d0 d1 d2;have z0:=ae dS 0;have z1:=ae dS 1;have z2:=ae dS 2;clear dS;go_wp2_with fail;refine HC.out.mono ?_;rintro e w3 ⟨rfl,h3,jw⟩;have yH:Hid (cW B b (bs++bk nl++(L++EX)) w3):=(show cW _ _ _ _ by rw[<- Ip];exact h3);have uf:Hid _:=AR.out.trans jw;clear h3 jw z0 z1 z2;go_wp2_with fail;go_roundw
   case rel=>exact⟨k+1,by omega,by go_num,by rw[sH.out];exact yH,uf⟩
   case measure=>simp[intOf];omega
  .have rC:Hid (cW B b (bs++(bk nl++ms.flatMap Gw.dv)) wr):=by
    have h:=HW.out;rw[Jk (by rw[jZ.out];omega),Ip] at h;exact h
   have yI:¬ (k:Int)<(nl:Int):=by omega
   go_wp2_with fail;simp[JU,results,Tryz.results266];exact⟨rC.out,HK.out⟩
theorem Wh.dK:∀(ms:List Wh.bJ),(∀m∈ms,Wh.j9 m)->(ms.flatMap Wh.dv).length<=2200*ms.length
 |[],_=>by simp
 |x::r,h=>by
  have h1:=Wh.lD (h x (by simp));have h2:=Wh.dK r (λm hm=>h m (by simp[hm]));rw[I1,Ih,Iz];omega
theorem Wh.ij(B b wb:Nat)(ms:List Wh.bJ)(v:Value)(bs:List Value)(w0 w:World)(h:cW B b bs w)(hv:Wh.Sl w0 v ms)(hB:B=w0.heap.size)(oV:Below B w0 w)(Pp:ms.length<=50)(hlen:bs.length+2200*ms.length<=600000)(gL:B<=w.heap.size)(hT:lY B w)(mw:w.heap[wb]?=AI (By #[If (AI ⟨b,0,be⟩)] 289 (0,0)))(aT:wb≠b)(hY:∀m∈ms,Wh.j9 m) :
 aF 268 #[If (AI ⟨b,0,be⟩),v,IP (.func 269) #[] #[If (AI ⟨wb,0,be⟩)]] w λe w'=>e=AT (Im #[])/\cW B b (bs++(bk ms.length++ms.flatMap Wh.dv)) w'/\Kp B b w w':=by
 have eg:=enters_of Tryz.func269 (by kernel_rfl) rfl;obtain⟨pa,ca,rfl,_,cO⟩:=hv;have HR:Hid _:=cO;have An:Hid _:=oV;have RO:Hid _:=mw;have kX:Hid _:=hY;have HT:Hid (lY B w):=hT;have HI:Hid (cW B b bs w):=h;have dR:Hid _:=hB;clear cO oV mw hY hT h hB;generalize qW:ms.length=nl at *;have jZ:Hid _:=qW;have qg:Hid _:=hlen;clear qW hlen;have AQ:Hid (aF 263 #[If (AI ⟨b,0,be⟩),J (AI ⟨w.heap.size,0,be⟩) 1 1] (w.alloc (By #[U O (nl:Int)] 3)) λe w'=>e=AT (Im #[])/\cW B b (bs++bk nl) w'/\Kp B b w w'):=by
  refine(gN B b [(nl:Int)] bs w HI.out (by have:=qg.out;simp only[Iz,IV];omega) gL HT.out (λn hn=>by simp at hn;rw[hn];exact cU (by omega))).mono ?_;rintro e w' ⟨rfl,h1,h2⟩;exact⟨rfl,by simpa using h1,h2⟩
 go_enter Tryz.func268,Tryz.ntmps268;go_wp2_with fail;refine AQ.out.mono ?_;rintro e w1 ⟨rfl,h1,jj⟩;have nV:Hid (cW _ _ _ _):=h1;have mc:Hid _:=jj;clear h1 jj AQ;go_wp2_with fail;go_loopw [15] (λi w'=>∃k:Nat,k<=nl/\i=U O k/\Hid (cW B b (bs++bk nl++(ms.take k).flatMap Wh.dv) w')/\Hid (Kp B b w w')) (λi _=>nl-(intOf i).toNat)
 case atStart=>exact⟨0,IH _,rfl,by simpa using nV,mc⟩
 case round=>
  obtain⟨k,hk,rfl,HW,HK⟩:=hrel;by_cases aR:k<nl
  .obtain⟨g,o,hp,di,hr⟩:∃b off,pa=AI ⟨b,off,be⟩/\b<w0.heap.size/\Wh.Row w0 b off ms:=by
    rcases HR.out with h|h
    .have:=jZ.out;rw[h] at this;simp at this;omega
    .exact h
   subst hp;have iI:k<ms.length:=by rw[jZ.out];exact aR
   obtain⟨c0,c1,c2,c3,c4,c5⟩:=hr k iI;have aN:∀o,wr.cell? ⟨g,o,be⟩=w0.cell? ⟨g,o,be⟩:=λo=>(An.out.trans HK.out.jV).cell (p:=⟨g,o,be⟩) (by have:=dR.out;show g<B;omega);have GM:Hid (Wh.j9 (ms.getD k Wh.dm)):=kX.out _ (by rw[show ms.getD k Wh.dm=ms[k] by simp[Iq,Ie iI]];exact IG _);have sH:Hid ((ms.take (k+1)).flatMap Wh.dv=(ms.take k).flatMap Wh.dv++Wh.dv (ms.getD k Wh.dm)):=by
    show List.flatMap Wh.dv _=_;rw[II iI,Qf];simp[Iq,Ie iI]
   have CD:Hid ((bs++bk nl++(ms.take k).flatMap Wh.dv).length<=700000):=by
    have h1:=Wh.dK (ms.take k) (λn hn=>kX.out n (Je hn));have h2:(ms.take k).length<=k:=JK _ _;have h3:=qg.out;have h4:=dG (cU (n:=nl) (by omega));show(bs++bk nl++(ms.take k).flatMap Wh.dv).length<=700000;rw[Ih,Ih];omega
   generalize ms.getD k Wh.dm=x at *;generalize(ms.take k).flatMap Wh.dv=L at *;obtain⟨W2,bL⟩:∃W2,W2=wr.alloc (By #[Y x.node,U O x.x,U O x.y,U O x.z,U O x.h,U O x.s] 116):=⟨_,rfl⟩;have aI:Below wr.heap.size wr W2:=by rw[bL];exact(Ib _ _).alloc (Ic _) _
   have xZ:=Ir gL HK.out.size;have dS:W2.heap[wr.heap.size]?=AI (By #[Y x.node,U O x.x,U O x.y,U O x.z,U O x.h,U O x.s] 116 (0,0)):=by rw[bL];exact Ii wr _
   have AR:Hid _:=HK.out.trans (Kp.b9 aI xZ);have HC:Hid (aF _ _ _ _):=Wh.jM B b wb x _ W2 (HW.out.below aI) CD.out (Ir xZ aI.size) (HT.out.below AR.out.jV) (AR.out.keeps RO.out aT (by decide)) aT GM.out;generalize Wh.dv x=EX at *;obtain⟨x0,x1,x2,x3,x4,x5⟩:=x;simp only at c0 c1 c2 c3 c4 c5 dS bL HC;have d0:=(aN _).trans c0;have d1:=(aN _).trans c1;have d2:=(aN _).trans c2;have d3:=(aN _).trans c3;have d4:=(aN _).trans c4;have d5:=(aN _).trans c5;clear aN c0 c1 c2 c3 c4 c5 hr iI aI GM CD;have yI:(k:Int)<(nl:Int):=by omega
   go_upto_region 4 with fail
   rw[<- bL];clear bL d0 d1 d2 d3 d4 d5;have z0:=ae dS 0;have z1:=ae dS 1;have z2:=ae dS 2;have z3:=ae dS 3;have z4:=ae dS 4;have z5:=ae dS 5;clear dS;go_wp2_with fail;refine HC.out.mono ?_;rintro e w3 ⟨rfl,h3,jw⟩;have yH:Hid (cW B b (bs++bk nl++(L++EX)) w3):=(show cW _ _ _ _ by rw[<- Ip];exact h3);have uf:Hid _:=AR.out.trans jw;clear h3 jw z0 z1 z2 z3 z4 z5;go_wp2_with fail;go_roundw
   case rel=>exact⟨k+1,by omega,by go_num,by rw[sH.out];exact yH,uf⟩
   case measure=>simp[intOf];omega
  .have rC:Hid (cW B b (bs++(bk nl++ms.flatMap Wh.dv)) wr):=by
    have h:=HW.out;rw[Jk (by rw[jZ.out];omega),Ip] at h;exact h
   have yI:¬ (k:Int)<(nl:Int):=by omega
   go_wp2_with fail;simp[JU,results,Tryz.results268];exact⟨rC.out,HK.out⟩
end Go.Proofs.YtfidhgjmifendaaGreatDoor
