import Derived.OneCell
import Derived.Test.YtfidhgjmifendaaGreatDoornt24
import Derived.Test.YtfidhgjmifendaaGreatDoornt25
set_option maxHeartbeats 4000000
set_option maxRecDepth 100000
open Nat renaming le_refl→Ic
open Option renaming none→be,some→AI
open Go renaming TypeId→I4,ownsRow_setCell_other→Iu,redrawn→Iz
open Array renaming getElem?_eq_some_iff→BY
open Go.Joins renaming block_setCell→IB
open Go.Value renaming int→U,slice→J,string→Y,bool→Ia,ownBlock→Jy
open Go.IntKind renaming i64→O
open Go.Sort renaming grow→Io
open List renaming getD→Ip,getElem?_eq_getElem→If,any_eq_true→Qj,pairwise_iff_getElem→I5
namespace Go.Proofs.YtfidhgjmifendaaGreatDoor
open Go.RowKit
structure Sh(S:Nat->Prop)(w w':World):Prop where
 os:w'.os=w.os
 tape:w'.tape=w.tape
 output:w'.output=w.output
 size:w.heap.size<=w'.heap.size
 block:∀k,k<w.heap.size->¬ S k->w'.heap[k]?=w.heap[k]?
theorem Sh.refl(S:Nat->Prop)(w:World):Sh S w w:=⟨rfl,rfl,rfl,Ic _,λ_ _ _=>rfl⟩
theorem Sh.trans{S:Nat->Prop}{a b c:World}(h:Sh S a b)(k:Sh S b c):Sh S a c:=⟨k.os.trans h.os,k.tape.trans h.tape,k.output.trans h.output,Nat.le_trans h.size k.size,λi hi hn=>(k.block i (Nat.lt_of_lt_of_le hi h.size) hn).trans (h.block i hi hn)⟩
theorem Sh.of{S:Nat->Prop}{w w':World}(h:Below w.heap.size w w'):Sh S w w':=⟨h.os,h.tape,h.output,h.size,λk hk _=>h.block k hk⟩
theorem Sh.next{S:Nat->Prop}{a w w':World}(h:Sh S a w)(k:Below w.heap.size w w'):Sh S a w':=h.trans (.of k)
theorem Sh.alloc{S:Nat->Prop}{a w:World}(h:Sh S a w)(o:Obj):Sh S a (w.alloc o):=h.next ((Below.refl _ _).alloc (Ic _) _)
theorem Sh.setCell{S:Nat->Prop}{a w:World}(h:Sh S a w){b i:Nat}(hb:S b)(x:Value):Sh S a (w.setCell ⟨b,i,be⟩ x):=
 h.trans ⟨rfl,rfl,rfl,by simp[World.setCell],λk _ hn=>Below.heap_setCell w _ x k (λe=>hn (by simp only at e;rw[e];exact hb))⟩
theorem Sh.below{S:Nat->Prop}{w w':World}{B:Nat}(h:Sh S w w')(hB:B<=w.heap.size)(hS:∀k,S k->B<=k):Below B w w':=⟨h.os,h.tape,h.output,h.size,λk hk=>h.block k (by omega) (λe=>by have:=hS k e;omega)⟩
theorem Sh.mono{S T:Nat->Prop}{w w':World}(h:Sh S w w')(hS:∀k,S k->T k):Sh T w w':=⟨h.os,h.tape,h.output,h.size,λk hk hn=>h.block k hk (λe=>hn (hS k e))⟩
theorem an{w:World}{b:Nat}{cs:Array Value}{T:I4}(h:w.heap[b]?=AI (.cells cs T (0,0)))(o:Nat):w.frozen? ⟨b,o,be⟩=false:=by simp[World.frozen?,h]
def Wk(L:Nat)(w:World)(b:Nat)(n:Nd):Prop:=∃vm vr vs vg vw,w.heap[b]?=AI (.cells (dt n vm vr vs vg vw) 90 (0,0))/\cL L w n vm vr vs vg vw /\
 (vm.ownBlock≠AI b/\vr.ownBlock≠AI b/\vs.ownBlock≠AI b/\vg.ownBlock≠AI b/\vw.ownBlock≠AI b)/\il n
theorem Wk.below{L b:Nat}{w w':World}{n:Nd}(h:Wk L w b n)(hb:Below w.heap.size w w'):Wk L w' b n:=by
 obtain⟨vm,vr,vs,vg,vw,h1,h2,h3,h4⟩:=h;exact⟨vm,vr,vs,vg,vw,(hb.block _ (BY.1 h1).1).trans h1,h2.below hb,h3,h4⟩
theorem Wk.lt{L b:Nat}{w:World}{n:Nd}(h:Wk L w b n):b<w.heap.size:=by
 obtain⟨vm,vr,vs,vg,vw,h1,_⟩:=h;exact(BY.1 h1).1
theorem Wk.Hq{L b:Nat}{W w1:World}{n:Nd}(h:Wk L W b n)(hL:L<=W.heap.size)(hb:Below W.heap.size W w1){v:Value}{l:List Mem}(ho:Own W.heap.size w1 v l)(hl:(∀m∈l,m.name.size<=maxLen)):Wk L (w1.setCell ⟨b,2,be⟩ v) b { n with ms:=l }:=by
 obtain⟨vm,vr,vs,vg,vw,h1,h2,h3,h4⟩:=h;have aN:=(BY.1 h1).1;refine⟨v,vr,vs,vg,vw,?_,⟨Iu (ho.mono hL) (λe=>by have:=ho.lt b e;omega) _,Iu (h2.rs.below hb) h3.2.1 _,Iu (h2.sv.below hb) h3.2.2.1 _,Iu (h2.gw.below hb) h3.2.2.2.1 _,Iu (h2.wh.below hb) h3.2.2.2.2 _⟩,⟨λe=>by have:=ho.lt b e;omega,h3.2.1,h3.2.2.1,h3.2.2.2.1,h3.2.2.2.2⟩,⟨hl,h4.rs,h4.sv,h4.gw,h4.wh,h4.name,h4.aD⟩⟩;exact IB (i:=2) ((hb.block _ aN).trans h1) v
theorem Wk.Ht{L b:Nat}{W w1:World}{n:Nd}(h:Wk L W b n)(hL:L<=W.heap.size)(hb:Below W.heap.size W w1){v:Value}{l:List bL}(ho:cH W.heap.size w1 v l)(hl:(∀r∈l,r.m.name.size<=maxLen)):Wk L (w1.setCell ⟨b,3,be⟩ v) b { n with rs:=l }:=by
 obtain⟨vm,vr,vs,vg,vw,h1,h2,h3,h4⟩:=h;have aN:=(BY.1 h1).1;refine⟨vm,v,vs,vg,vw,?_,⟨Iu (h2.ms.below hb) h3.1 _,Iu (ho.base hL) (λe=>by have:=ho.lt b e;omega) _,Iu (h2.sv.below hb) h3.2.2.1 _,Iu (h2.gw.below hb) h3.2.2.2.1 _,Iu (h2.wh.below hb) h3.2.2.2.2 _⟩,⟨h3.1,λe=>by have:=ho.lt b e;omega,h3.2.2.1,h3.2.2.2.1,h3.2.2.2.2⟩,⟨h4.ms,hl,h4.sv,h4.gw,h4.wh,h4.name,h4.aD⟩⟩;exact IB (i:=3) ((hb.block _ aN).trans h1) v
theorem Wk.Bm{L b:Nat}{W w1:World}{n:Nd}(h:Wk L W b n)(hL:L<=W.heap.size)(hb:Below W.heap.size W w1){v:Value}{l:List Sv.aT}(ho:Sv.Own W.heap.size w1 v l)(hl:(∀m∈l,m.ok)):Wk L (w1.setCell ⟨b,4,be⟩ v) b { n with sv:=l }:=by
 obtain⟨vm,vr,vs,vg,vw,h1,h2,h3,h4⟩:=h;have aN:=(BY.1 h1).1;refine⟨vm,vr,v,vg,vw,?_,⟨Iu (h2.ms.below hb) h3.1 _,Iu (h2.rs.below hb) h3.2.1 _,Iu (ho.mono hL) (λe=>by have:=ho.lt b e;omega) _,Iu (h2.gw.below hb) h3.2.2.2.1 _,Iu (h2.wh.below hb) h3.2.2.2.2 _⟩,⟨h3.1,h3.2.1,λe=>by have:=ho.lt b e;omega,h3.2.2.2.1,h3.2.2.2.2⟩,⟨h4.ms,h4.rs,hl,h4.gw,h4.wh,h4.name,h4.aD⟩⟩;exact IB (i:=4) ((hb.block _ aN).trans h1) v
theorem Wk.Hu{L b:Nat}{W w1:World}{n:Nd}(h:Wk L W b n)(hL:L<=W.heap.size)(hb:Below W.heap.size W w1){v:Value}{l:List Gw.bK}(ho:Gw.Own W.heap.size w1 v l)(hl:(∀m∈l,m.ok)):Wk L (w1.setCell ⟨b,5,be⟩ v) b { n with gw:=l }:=by
 obtain⟨vm,vr,vs,vg,vw,h1,h2,h3,h4⟩:=h;have aN:=(BY.1 h1).1;refine⟨vm,vr,vs,v,vw,?_,⟨Iu (h2.ms.below hb) h3.1 _,Iu (h2.rs.below hb) h3.2.1 _,Iu (h2.sv.below hb) h3.2.2.1 _,Iu (ho.mono hL) (λe=>by have:=ho.lt b e;omega) _,Iu (h2.wh.below hb) h3.2.2.2.2 _⟩,⟨h3.1,h3.2.1,h3.2.2.1,λe=>by have:=ho.lt b e;omega,h3.2.2.2.2⟩,⟨h4.ms,h4.rs,h4.sv,hl,h4.wh,h4.name,h4.aD⟩⟩;exact IB (i:=5) ((hb.block _ aN).trans h1) v
theorem Wk.R0{L b:Nat}{W w1:World}{n:Nd}(h:Wk L W b n)(hL:L<=W.heap.size)(hb:Below W.heap.size W w1){v:Value}{l:List Wh.bE}(ho:Wh.Own W.heap.size w1 v l)(hl:(∀m∈l,m.ok)):Wk L (w1.setCell ⟨b,11,be⟩ v) b { n with wh:=l }:=by
 obtain⟨vm,vr,vs,vg,vw,h1,h2,h3,h4⟩:=h;have aN:=(BY.1 h1).1;refine⟨vm,vr,vs,vg,v,?_,⟨Iu (h2.ms.below hb) h3.1 _,Iu (h2.rs.below hb) h3.2.1 _,Iu (h2.sv.below hb) h3.2.2.1 _,Iu (h2.gw.below hb) h3.2.2.2.1 _,Iu (ho.mono hL) (λe=>by have:=ho.lt b e;omega) _⟩,⟨h3.1,h3.2.1,h3.2.2.1,h3.2.2.2.1,λe=>by have:=ho.lt b e;omega⟩,⟨h4.ms,h4.rs,h4.sv,h4.gw,hl,h4.name,h4.aD⟩⟩;exact IB (i:=11) ((hb.block _ aN).trans h1) v
theorem Wk.VU{L b:Nat}{W:World}{n:Nd}(h:Wk L W b n)(q:Pl):Wk L (((((W.setCell ⟨b,6,be⟩ (U O q.x)).setCell ⟨b,7,be⟩ (U O q.y)).setCell ⟨b,8,be⟩ (U O q.z)).setCell ⟨b,9,be⟩ (U O q.h)).setCell ⟨b,10,be⟩ (U O q.s)) b { n with p:=q }:=by
 obtain⟨vm,vr,vs,vg,vw,h1,h2,h3,h4⟩:=h;have e:∀{base k m:Nat} {T:I4} {v:Value} {xs:List Value},W.ownsRow base T k v m xs->v.ownBlock≠AI b->(((((W.setCell ⟨b,6,be⟩ (U O q.x)).setCell ⟨b,7,be⟩ (U O q.y)).setCell ⟨b,8,be⟩ (U O q.z)).setCell ⟨b,9,be⟩ (U O q.h)).setCell ⟨b,10,be⟩ (U O q.s)).ownsRow base T k v m xs:=λh hn=>Iu (Iu (Iu (Iu (Iu h hn _) hn _) hn _) hn _) hn _;refine⟨vm,vr,vs,vg,vw,?_,⟨e h2.ms h3.1,e h2.rs h3.2.1,e h2.sv h3.2.2.1,e h2.gw h3.2.2.2.1,e h2.wh h3.2.2.2.2⟩,h3,⟨h4.ms,h4.rs,h4.sv,h4.gw,h4.wh,h4.name,h4.aD⟩⟩;exact IB (i:=10) (IB (i:=9) (IB (i:=8) (IB (i:=7) (IB (i:=6) h1 _) _) _) _) _
end Go.Proofs.YtfidhgjmifendaaGreatDoor
namespace Go.Proofs.YtfidhgjmifendaaGreatDoor
namespace Wh
open Go.RowKit
theorem lP{a b:List bE}(kL:a.length<=20)(kK:b.length<=20)(k:Nat):(dF a b k).length<=40:=by
 unfold dF;split
 .simp
 .split
  .omega
  .have:=di b a;omega
structure Bn(w:World)(pb:Nat)(a b:List bE)(k:Nat)(l:List bE)(pk:Option Addr)(ck:Nat):Prop where
 cell:w.cell? ⟨pb,k,be⟩=AI (J pk l.length ck)
 row:l=[]\/∃b off,pk=AI ⟨b,off,be⟩/\b<w.heap.size/\Row w b off l
 Hv:∀m∈l,(m).ok
 len:l.length<=20
 Bo:(dF a b k).length<=20
 tr:bn (dF a b k)
 Bp:∀m∈dF a b k,(m).ok
 step:dF a b (k+1)=av (dF a b k) l
theorem ox{a b:List bE}{va vb:Value}{pb:Nat}{w:World}(ha:Sl w va a)(hb:Sl w vb b)(hc0:w.cell? ⟨pb,0,be⟩=AI va)(hc1:w.cell? ⟨pb,1,be⟩=AI vb)(kL:a.length<=20)(kK:b.length<=20)(ra:bn a)(k:Nat)(hk:k<2) :
 ∃l pk ck,Bn w pb a b k l pk ck:=by
 obtain⟨pa,ca,rfl,Hw,ha⟩:=ha;obtain⟨pv,cb,rfl,R6,hb⟩:=hb;have fZ:k=0\/k=1:=by omega
 rcases fZ with rfl|rfl
 .exact⟨a,pa,ca,hc0,ha,dw Hw,kL,by simp[dF],by simp[dF],by simp[dF],(iq a ra).symm⟩
 .exact⟨b,pv,cb,hc1,hb,dw R6,kK,kL,ra,dw Hw,rfl⟩
theorem iu(a b:List bE)(va vb:Value)(pb cap:Nat)(w:World)(ha:Sl w va a)(hb:Sl w vb b)(hpb:pb<w.heap.size)(hc0:w.cell? ⟨pb,0,be⟩=AI va)(hc1:w.cell? ⟨pb,1,be⟩=AI vb)(kL:a.length<=20)(kK:b.length<=20)(ra:bn a) :
 Calls Tryz.prog 238 #[.func (.func 112) #[] #[],.func (.func 237) #[] #[],J (AI ⟨pb,0,be⟩) 2 cap] w λe w'=>∃v',e=.returned v'/\Own w.heap.size w' v' (av a b)/\Below w.heap.size w w':=by
 have HK:Hid (∀k,k<2->∃l pk ck,Bn w pb a b k l pk ck):=λk hk=>ox ha hb hc0 hc1 kL kK ra k hk;have uK:Hid (∀k,(dF a b k).length<=40):=lP kL kK;clear ha hb hc0 hc1 kL kK ra;go_enter Tryz.func238,Tryz.ntmps238;go_wp2_with fail;go_loopw [7,16] (λkn i w'=>∃k:Nat,k<=2/\i=U O k/\Below w.heap.size w w'/\Hid (Own w.heap.size w' kn (dF a b k))) (λ_ i _=>2-(intOf i).toNat)
 case atStart=>exact⟨0,by omega,rfl,Below.refl _ _,bY _ _⟩
 case round=>
  obtain⟨k,hk,rfl,aN,HO⟩:=hrel;obtain⟨eG,nz⟩:=cz aN;have cF:=aN.size;by_cases jz:k<2
  .obtain⟨l,pk,ck,oy⟩:=HK.out k jz
   have oz:Hid (Bn w pb a b k l pk ck):=oy;have fM:=oy.cell;clear oy;generalize ri:l.length=nl at *;have jZ:Hid (l.length=nl):=ri;clear ri;have Hx:nl<=20:=by have:=oz.out.len;have:=jZ.out;omega
   have R7:(k:Int)<2:=by omega
   go_wp2_with fail;go_loopw [7,22] (λkn j w'=>∃q:Nat,q<=nl/\j=U O q/\Below w.heap.size w w'/\Hid (Own w.heap.size w' kn (av (dF a b k) (l.take q)))) (λ_ j _=>nl-(intOf j).toNat)
   case atStart=>exact⟨0,Nat.zero_le _,rfl,aN,HO⟩
   case round=>
    clear eG nz cF aN HO fM;obtain⟨q,hq,rfl,aN,HO⟩:=hrel;obtain⟨eG,nz⟩:=cz aN;have cF:=aN.size;by_cases aW:q<nl
    .obtain⟨b2,off,Bq,Pu,cQ⟩:∃xk off,pk=AI ⟨xk,off,be⟩/\xk<w.heap.size/\Row w xk off l:=by
      rcases oz.out.row with h|h
      .have:=jZ.out;rw[h] at this;simp at this;omega
      .exact h
     subst Bq;obtain⟨c0,c1,c2,c3,c4,c5⟩:=cQ q (by rw[jZ.out];exact aW);clear cQ;have HJ:Hid (av (dF a b k) (l.take (q+1))=aP (av (dF a b k) (l.take q)) (l.getD q dm)):=gd (dF a b k) l q (by rw[jZ.out];exact aW);have HR:Hid (bn (av (dF a b k) (l.take q))):=dE _ _ oz.out.tr;have Mr:Hid (∀j,((av (dF a b k) (l.take q)).getD j dm).ok):=cB (iI _ _ oz.out.Bp (λx hx=>oz.out.Hv x (List.mem_of_mem_take hx)));have HL:Hid ((av (dF a b k) (l.take q)).length<=40):=by
      have h1:=di (l.take q) (dF a b k);have h2:(l.take q).length<=q:=List.length_take_le _ _;have h3:=oz.out.Bo;show(av (dF a b k) (l.take q)).length<=40;omega
     generalize l.getD q dm=m at *;generalize av (dF a b k) (l.take q)=known at *;have Ef:known.length<=40:=HL.out;obtain⟨W1,cM,aB,fg,cK⟩:=bW wr #[Y m.node,U O m.x,U O m.y,U O m.z,U O m.h,U O m.s] 116;have lC:Hid (Own w.heap.size W1 u7 known):=HO.out.below aB;have HF:Hid (Calls Tryz.prog 111 #[u7,.agg #[Y m.node,U O m.x,U O m.y,U O m.z,U O m.h,U O m.s],.func (.func 112) #[] #[]] W1 λe w'=>∃(p:Nat) (f:Bool),e=.returned (.tuple #[U O p,Ia f])/\Below W1.heap.size W1 w'/\At known m p f):=
      ff known u7 m W1 (lC.out.sl Mr.out) HL.out HR.out
     have aV:Hid (Below w.heap.size w W1):=aN.trans (aB.mono cF);have HT:Hid (As W1 wr.heap.size 0 m):=⟨ae cK 0,ae cK 1,ae cK 2,ae cK 3,ae cK 4,ae cK 5⟩;have nZ:Hid _:=cM;have uR:w.heap.size<=W1.heap.size:=by omega
     clear cK aB HO HL HR cM;go_wp2_with fail;rw[<- nZ.out];refine HF.out.mono ?_;rintro e w2 ⟨p,f,rfl,aJ,cv⟩;have fS:Hid _:=cv;have R8:=cv.le;have R9:=aJ.size;have gX:Hid (Own _ _ _ _):=lC.out.below aJ;have bp:Hid _:=aV.out.trans (aJ.mono uR);have xl:Hid (As w2 wr.heap.size 0 m):=HT.out.eq (λo=>aJ.cell (p:=⟨wr.heap.size,o,be⟩) (by show wr.heap.size<W1.heap.size;omega));obtain⟨t0,t1,t2,t3,t4,t5⟩:w2.cell? ⟨wr.heap.size,0,be⟩=AI (Y m.node)/\w2.cell? ⟨wr.heap.size,1,be⟩=AI (U O m.x)/\w2.cell? ⟨wr.heap.size,2,be⟩=AI (U O m.y)/\w2.cell? ⟨wr.heap.size,3,be⟩=AI (U O m.z)/\w2.cell? ⟨wr.heap.size,4,be⟩=AI (U O m.h)/\w2.cell? ⟨wr.heap.size,5,be⟩=AI (U O m.s):=xl.out;have gY:w.heap.size<=w2.heap.size:=by omega
     have Br:wr.heap.size<w2.heap.size:=by omega
     clear cv HF eG nz c0 c1 c2 c3 c4 c5 aJ lC aV HT;cases f
     .have aM:Hid (u7.ownBlock≠AI w2.heap.size):=λe=>by have:=gX.out.lt _ e;omega
      have dY:Hid (Own w.heap.size (w2.alloc (.cells #[Y m.node,U O m.x,U O m.y,U O m.z,U O m.h,U O m.s] 116)) u7 known):=gX.out.below ((Below.refl _ _).alloc (Ic _) _);have pt:Hid ((w2.alloc (.cells #[Y m.node,U O m.x,U O m.y,U O m.z,U O m.h,U O m.s] 116)).heap[w2.heap.size]?=AI (.cells m.cs.toArray 116 (0,0))):=heap_alloc_new w2 _;go_wp2_with (go_at_call 113;refine(fj w.heap.size p w2.heap.size u7 known m _ dY.out fS.out.le (by omega) (by simp;omega) pt.out aM.out).mono ?_;rintro e w4 ⟨v',rfl,g1,g2⟩);go_roundw
      case rel=>
       have jf:∃oA:Nat,oA<=nl/\U O ((q:Int)+1)=U O oA/\Below w.heap.size w w4/\Hid (Own w.heap.size w4 v' (av (dF a b k) (l.take oA))):=⟨q+1,by omega,by go_num,fc (bp.out.alloc gY _) dY.out g2 (by simp;omega),by rw[HJ.out,dd known m p false fS.out];exact g1⟩;first|exact jf|((repeat apply Exists.intro);exact⟨jf,rfl⟩)
      case measure=>simp[intOf];omega
     .have hp:p<known.length:=(fS.out.is.1 rfl).1
      obtain⟨g,c,hu⟩:=jJ gX.out p hp;subst hu;have F:=(ez gX.out p hp).re;have dn:=gX.out.lt g rfl;have Mw:g<w2.heap.size:=dn.2;generalize hm:known.getD p dm=m2 at *;have Hm:Hid _:=hm;clear hm;have hN:∀d os,Calls Tryz.prog 237 #[.agg #[Y m.node,U O m.x,U O m.y,U O m.z,U O m.h,U O m.s],.agg #[Y m2.node,U O m2.x,U O m2.y,U O m2.z,U O m2.h,U O m2.s]] (Io (Iz w2 d) os) λe gD=>e=.returned (Ia (bP m m2))/\∃p:Regrown,gD=Io (Iz w2 p.d) p.os:=λd os=>Calls.regrown_of (gf m m2 _);have G:=xl.out.re;simp only[As,Nat.zero_add] at F G;have rf:∀o,w2.frozen? ⟨g,o,be⟩=false:=λo=>World.ownsRow.frozenAt gX.out o;have TF:Hid _:=rf;clear rf t0 t1 t2 t3 t4 t5;generalize Hy:bP m m2=nw at *;have Hz:Hid _:=Hy;clear Hy;go_wp2_with fail;refine wp_region_quiet_below (by kernel_rfl) (by kernel_rfl) ?_;repeat(quiet_step (exact hN _ _))
      refine bN λdq kj ed=>?_;clear hN F G;cases nw
      .go_wp2_with fail
       go_roundw
       case rel=>
        have jf:∃oA:Nat,oA<=nl/\U O ((q:Int)+1)=U O oA/\Below w.heap.size w (Io (Iz w2 dq) kj)/\Hid (Own w.heap.size (Io (Iz w2 dq) kj) (J (AI ⟨g,0,be⟩) known.length c) (av (dF a b k) (l.take oA))):=⟨q+1,by omega,by go_num,bp.out.trans (ed.out.mono gY),by rw[HJ.out,dd known m p true fS.out,if_pos rfl,Hm.out,if_neg (λh=>Bool.false_ne_true (Hz.out.symm.trans h))];exact gX.out.below ed.out⟩;first|exact jf|((repeat apply Exists.intro);exact⟨jf,rfl⟩)
       case measure=>simp[intOf];omega
      .generalize Io (Iz w2 dq) kj=w3 at *
       have dY:Hid (Own _ _ _ _):=gX.out.below ed.out;obtain⟨c0,c1,c2,c3,c4,c5⟩:=ez dY.out p hp;rw[Hm.out] at c0 c1 c2 c3 c4 c5;have ji:=(dY.out.lt g rfl).2;have rf:∀o,w3.frozen? ⟨g,o,be⟩=false:=λo=>World.ownsRow.frozenAt dY.out o;obtain⟨s0,s1,s2,s3,s4,s5⟩:w3.cell? ⟨wr.heap.size,0,be⟩=AI (Y m.node)/\w3.cell? ⟨wr.heap.size,1,be⟩=AI (U O m.x)/\w3.cell? ⟨wr.heap.size,2,be⟩=AI (U O m.y)/\w3.cell? ⟨wr.heap.size,3,be⟩=AI (U O m.z)/\w3.cell? ⟨wr.heap.size,4,be⟩=AI (U O m.h)/\w3.cell? ⟨wr.heap.size,5,be⟩=AI (U O m.s):=xl.out.eq (λo=>ed.out.cell (p:=⟨wr.heap.size,o,be⟩) Br);go_wp2_with fail;refine⟨⟨q+1,by omega,by go_num,?_,?_⟩,by simp[intOf];omega⟩
       .exact(((((((bp.out.trans (ed.out.mono gY)).setCell (p:=⟨g,p*6,be⟩) dn.1 (Y m.node)).setCell (p:=⟨g,p*6+1,be⟩) dn.1 (U O m.x)).setCell (p:=⟨g,p*6+2,be⟩) dn.1 (U O m.y)).setCell (p:=⟨g,p*6+3,be⟩) dn.1 (U O m.z)).setCell (p:=⟨g,p*6+4,be⟩) dn.1 (U O m.h)).setCell (p:=⟨g,p*6+5,be⟩) dn.1 (U O m.s))
       .rw[HJ.out,dd known m p true fS.out,if_pos rfl,Hm.out,if_pos Hz.out]
        exact lr dY.out hp m
    .have Eg:q=nl:=by omega
     subst Eg;have dY:Hid (Own w.heap.size wr u7 (dF a b (k+1))):=by
      have h:=HO.out;rw[List.take_of_length_le (by rw[jZ.out];exact Ic _)] at h;rw[oz.out.step];exact h
     go_wp2_with fail;go_roundw
     case rel=>exact⟨k+1,by omega,by go_num,aN,dY⟩
     case measure=>simp[intOf];omega
  .have jO:k=2:=by omega
   subst jO;go_wp2_with fail;go_ret;exact⟨_,rfl,HO.out,aN⟩
end Wh
end Go.Proofs.YtfidhgjmifendaaGreatDoor
namespace Go.Proofs.YtfidhgjmifendaaGreatDoor
open Go.RowKit
def uW(wh:List Wh.bE)(x:Wh.bE):List Wh.bE:=if(wh.any λy=>decide (y.node=x.node))=true\/20<=wh.length then wh else Wh.aP wh x
def Bs(wh l:List Wh.bE):List Wh.bE:=l.foldl uW wh
theorem HQ(wh l:List Wh.bE)(k:Nat)(hk:k<l.length):Bs wh (l.take (k+1))=uW (Bs wh (l.take k)) (l.getD k Wh.dm):=by
 unfold Bs;rw[List.take_succ_eq_append_getElem hk,List.foldl_append];simp[Ip,If hk]
structure Wh.oB(wh:List Wh.bE):Prop where
 Eh:Wh.bn wh
 len:wh.length<=20
 ok:∀m∈wh,m.ok
theorem Ei{wh:List Wh.bE}{x:Wh.bE}(h:Wh.oB wh)(hx:x.ok):Wh.oB (uW wh x):=by
 unfold uW;split
 .exact h
 .rename_i hn
  have h2:=(Wh.kT wh x).2;exact⟨Wh.iv wh x h.Eh,by omega,Wh.pL h.ok hx⟩
theorem zq{wh l:List Wh.bE}(h:Wh.oB wh)(hl:∀m∈l,m.ok):Wh.oB (Bs wh l):=by
 unfold Bs;induction l generalizing wh with
 |nil=>exact h
 |cons x r ih=>exact ih (Ei h (hl x (by simp))) (λm hm=>hl m (by simp[hm]))
theorem Sa{wh:List Wh.bE}{x:Wh.bE}{p:Nat}{f:Bool}(hr:Wh.bn wh)(h:Wh.At wh x p f):(wh.any λy=>decide (y.node=x.node))=f:=by
 have ho:∀y:Wh.bE,Wh.ord y x=0↔y.node=x.node:=λy=>bT _ _;cases f
 .rcases hh:(wh.any λy=>decide (y.node=x.node)) with _|_
  .rfl
  .obtain⟨y,hy,he⟩:=Qj.1 hh
   obtain⟨j,hj,rfl⟩:=List.getElem_of_mem hy;have he:wh[j].node=x.node:=by simpa using he
   have e:wh.getD j Wh.dm=wh[j]:=by simp[Ip,If hj]
   have h2:Wh.At wh x j true:=by
    refine⟨by omega,λi hi=>?_,λi hi hl=>?_,⟨λ_=>⟨hj,by rw[e];exact(ho _).2 he⟩,λ_=>rfl⟩⟩
    .have hp:=I5.1 hr i j (by omega) hj hi
     rw[show wh.getD i Wh.dm=wh[i]'(by omega) by simp[Ip,If (show i<wh.length by omega)]];show bO _ _<0;rw[<- he];exact hp
    .rw[show wh.getD i Wh.dm=wh[i]'hl by simp[Ip,If hl]]
     rcases Nat.lt_or_eq_of_le hi with h3|rfl
     .have hp:=I5.1 hr j i hj hl h3
      have vG:bO wh[j].node wh[i].node<0:=hp;have h4:0<bO wh[i].node wh[j].node:=by rw[nf];rw[fB] at vG;exact vG
      show 0<=bO wh[i].node x.node;rw[<- he];omega
     .show 0<=bO wh[j].node x.node
      rw[(bT _ _).2 he];omega
   have:=(Wh.ey h h2).2;cases this
 .obtain⟨h1,h2⟩:=h.is.1 rfl
  rw[Qj];refine⟨wh[p],List.getElem_mem h1,?_⟩;rw[show wh.getD p Wh.dm=wh[p] by simp[Ip,If h1]] at h2;simpa using(ho _).1 h2
theorem xo{B B' k k' n n':Nat}{T T':I4}{w:World}{v v':Value}{xs xs':List Value}(h:w.ownsRow B T k v n xs)(h':w.ownsRow B' T' k' v' n' xs')(hT:T≠T'):v.ownBlock=be\/v.ownBlock≠v'.ownBlock:=by
 rcases h.2 with⟨rfl,_⟩|⟨g,c,cur,rfl,_,hg,_⟩
 .exact .inl rfl
 .refine .inr λe=>?_
  rcases h'.2 with⟨rfl,_⟩|⟨g',c',dR,rfl,_,uQ,_⟩
  .cases e
  .have:g=g':=by simpa[Jy] using e
   subst this;rw[hg] at uQ;injection uQ with e1;injection e1 with _ e2;exact hT e2
theorem eL{B k n b:Nat}{T T':I4}{w:World}{v:Value}{xs:List Value}{cs:Array Value}(h:w.ownsRow B T k v n xs)(hb:w.heap[b]?=AI (.cells cs T' (0,0)))(hT:T≠T'):v.ownBlock≠AI b:=by
 rcases h.2 with⟨rfl,_⟩|⟨g,c,cur,rfl,_,hg,_⟩
 .intro e;cases e
 .intro e
  have:g=b:=by simpa[Jy] using e
  subst this;rw[hg] at hb;injection hb with e1;injection e1 with _ e2;exact hT e2
theorem Wk.ins{L b:Nat}{W w1:World}{n:Nd}{vm vr vs vg vw v:Value}{l:List Wh.bE}(h1:W.heap[b]?=AI (.cells (dt n vm vr vs vg vw) 90 (0,0)))(h2:cL L W n vm vr vs vg vw)(h3:vm.ownBlock≠AI b/\vr.ownBlock≠AI b/\vs.ownBlock≠AI b/\vg.ownBlock≠AI b/\vw.ownBlock≠AI b)(h4:il n)(hg:W.grownBy w1 vw.ownBlock)(ho:Wh.Own L w1 v l)(hl:∀m∈l,m.ok):Wk L (w1.setCell ⟨b,11,be⟩ v) b { n with wh:=l }:=by
 have aN:=(BY.1 h1).1;have aB:=(hg.block b aN (λe=>h3.2.2.2.2 e.symm)).trans h1;have hv:=eL ho aB (by decide);refine⟨vm,vr,vs,vg,v,IB (i:=11) aB v,⟨?_,?_,?_,?_,Iu ho hv _⟩,⟨h3.1,h3.2.1,h3.2.2.1,h3.2.2.2.1,hv⟩,⟨h4.ms,h4.rs,h4.sv,h4.gw,hl,h4.name,h4.aD⟩⟩
 .exact Iu (h2.ms.kept hg (xo h2.ms h2.wh (by decide))) h3.1 _
 .exact Iu (h2.rs.kept hg (xo h2.rs h2.wh (by decide))) h3.2.1 _
 .exact Iu (h2.sv.kept hg (xo h2.sv h2.wh (by decide))) h3.2.2.1 _
 .exact Iu (h2.gw.kept hg (xo h2.gw h2.wh (by decide))) h3.2.2.2.1 _
namespace Sv
end Sv
namespace Gw
end Gw
abbrev TQ(s:Sv.aT):Value:=.agg #[Y s.node,Y s.bu,Y s.name,Y s.tag,U O s.addr,U O s.port,Ia s.aj,U O s.version,Ia s.gone]
theorem Sb{ms:List Sv.aT}(h:∀x∈ms,x.ok)(p:Nat)(f:Bool):(Sv.qF ms p f).ok:=by
 have hd:(Sv.dm).ok:=by simp[Sv.dm,Sv.aT.ok]
 have hg:(Sv.et ms p f).ok:=by
  unfold Sv.et;split
  .exact Sv.cB h p
  .exact hd
 exact hg
end Go.Proofs.YtfidhgjmifendaaGreatDoor
