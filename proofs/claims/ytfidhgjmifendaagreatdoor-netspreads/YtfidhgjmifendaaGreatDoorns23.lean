import Derived.Test.YtfidhgjmifendaaGreatDoorns18
import Derived.OneCell
import Derived.Test.YtfidhgjmifendaaGreatDoorns22
set_option maxHeartbeats 12800000
set_option maxRecDepth 100000
open Nat renaming le_refl→Ic,lt_of_lt_of_le→IL,lt_or_eq_of_le→Qm
open Go.RowKit.Below renaming refl→Ib
open Option renaming none→be,some→AI
open Go.Obj renaming cells→By
open Go renaming TypeId→I5,maxLen→Il,ownsRow_setCell_other→Iu,heap_alloc_new→Ih,redrawn→Iz
open Array renaming getElem?_eq_some_iff→BY
open Go.Joins renaming block_setCell→IB
open Go.Value renaming int→U,agg→Ij,string→Y,bool→Ia,tuple→Ik,slice→J,pointer→Ie,ownBlock→Jz
open Go.IntKind renaming i64→O
open List renaming getD→Ip,getElem?_eq_getElem→If,findIdx_le_length→Qw,pairwise_iff_getElem→I3,length_append→Ig,mem_append→Jq,mem_of_mem_eraseIdx→JI,getElem_of_mem→IX,getElem_mem→IJ,pairwise_append→QQ,length_set→IM,any_eq_true→Qg
open Bool renaming and_eq_true→IF
open Go.Ending renaming returned→AT
open Go.Sort renaming grow→Im
namespace Go.Proofs.YtfidhgjmifendaaGreatDoor
open Go.RowKit
structure Sh(S:Nat->Prop)(w w':World):Prop where
 os:w'.os=w.os
 tape:w'.tape=w.tape
 output:w'.output=w.output
 size:w.heap.size<=w'.heap.size
 block:∀k,k<w.heap.size->¬ S k->w'.heap[k]?=w.heap[k]?
theorem Sh.refl(S:Nat->Prop)(w:World):Sh S w w:=⟨rfl,rfl,rfl,Ic _,λ_ _ _=>rfl⟩
theorem Sh.trans{S:Nat->Prop}{a b c:World}(h:Sh S a b)(k:Sh S b c):Sh S a c:=⟨k.os.trans h.os,k.tape.trans h.tape,k.output.trans h.output,Nat.le_trans h.size k.size,λi hi hn=>(k.block i (IL hi h.size) hn).trans (h.block i hi hn)⟩
theorem Sh.of{S:Nat->Prop}{w w':World}(h:Below w.heap.size w w'):Sh S w w':=⟨h.os,h.tape,h.output,h.size,λk hk _=>h.block k hk⟩
theorem Sh.next{S:Nat->Prop}{a w w':World}(h:Sh S a w)(k:Below w.heap.size w w'):Sh S a w':=h.trans (.of k)
theorem Sh.alloc{S:Nat->Prop}{a w:World}(h:Sh S a w)(o:Obj):Sh S a (w.alloc o):=h.next ((Ib _ _).alloc (Ic _) _)
theorem Sh.setCell{S:Nat->Prop}{a w:World}(h:Sh S a w){b i:Nat}(hb:S b)(x:Value):Sh S a (w.setCell ⟨b,i,be⟩ x):=
 h.trans ⟨rfl,rfl,rfl,by simp[World.setCell],λk _ hn=>Below.heap_setCell w _ x k (λe=>hn (by simp only at e;rw[e];exact hb))⟩
theorem Sh.below{S:Nat->Prop}{w w':World}{B:Nat}(h:Sh S w w')(hB:B<=w.heap.size)(hS:∀k,S k->B<=k):Below B w w':=⟨h.os,h.tape,h.output,h.size,λk hk=>h.block k (by omega) (λe=>by have:=hS k e;omega)⟩
theorem Sh.mono{S T:Nat->Prop}{w w':World}(h:Sh S w w')(hS:∀k,S k->T k):Sh T w w':=⟨h.os,h.tape,h.output,h.size,λk hk hn=>h.block k hk (λe=>hn (hS k e))⟩
theorem aj{w:World}{b:Nat}{cs:Array Value}{T:I5}(h:w.heap[b]?=AI (By cs T (0,0)))(o:Nat):w.frozen? ⟨b,o,be⟩=false:=by simp[World.frozen?,h]
def Wk(L:Nat)(w:World)(b:Nat)(n:Nd):Prop:=∃vm vr vs vg vw,w.heap[b]?=AI (By (dv n vm vr vs vg vw) 90 (0,0))/\cP L w n vm vr vs vg vw /\
 (vm.ownBlock≠AI b/\vr.ownBlock≠AI b/\vs.ownBlock≠AI b/\vg.ownBlock≠AI b/\vw.ownBlock≠AI b)/\iw n
theorem Wk.below{L b:Nat}{w w':World}{n:Nd}(h:Wk L w b n)(hb:Below w.heap.size w w'):Wk L w' b n:=by
 obtain⟨vm,vr,vs,vg,vw,h1,h2,h3,h4⟩:=h;exact⟨vm,vr,vs,vg,vw,(hb.block _ (BY.1 h1).1).trans h1,h2.below hb,h3,h4⟩
theorem Wk.lt{L b:Nat}{w:World}{n:Nd}(h:Wk L w b n):b<w.heap.size:=by
 obtain⟨vm,vr,vs,vg,vw,h1,_⟩:=h;exact(BY.1 h1).1
theorem Wk.Kn{L b:Nat}{W w1:World}{n:Nd}(h:Wk L W b n)(hL:L<=W.heap.size)(hb:Below W.heap.size W w1){v:Value}{l:List Mem}(ho:Own W.heap.size w1 v l)(hl:(∀m∈l,m.name.size<=Il)):Wk L (w1.setCell ⟨b,2,be⟩ v) b { n with ms:=l }:=by
 obtain⟨vm,vr,vs,vg,vw,h1,h2,h3,h4⟩:=h;have aR:=(BY.1 h1).1;refine⟨v,vr,vs,vg,vw,?_,⟨Iu (ho.mono hL) (λe=>by have:=ho.lt b e;omega) _,Iu (h2.rs.below hb) h3.2.1 _,Iu (h2.sv.below hb) h3.2.2.1 _,Iu (h2.gw.below hb) h3.2.2.2.1 _,Iu (h2.wh.below hb) h3.2.2.2.2 _⟩,⟨λe=>by have:=ho.lt b e;omega,h3.2.1,h3.2.2.1,h3.2.2.2.1,h3.2.2.2.2⟩,⟨hl,h4.rs,h4.sv,h4.gw,h4.wh,h4.name,h4.aD⟩⟩;exact IB (i:=2) ((hb.block _ aR).trans h1) v
theorem Wk.Ko{L b:Nat}{W w1:World}{n:Nd}(h:Wk L W b n)(hL:L<=W.heap.size)(hb:Below W.heap.size W w1){v:Value}{l:List bE}(ho:cL W.heap.size w1 v l)(hl:(∀r∈l,r.m.name.size<=Il)):Wk L (w1.setCell ⟨b,3,be⟩ v) b { n with rs:=l }:=by
 obtain⟨vm,vr,vs,vg,vw,h1,h2,h3,h4⟩:=h;have aR:=(BY.1 h1).1;refine⟨vm,v,vs,vg,vw,?_,⟨Iu (h2.ms.below hb) h3.1 _,Iu (ho.base hL) (λe=>by have:=ho.lt b e;omega) _,Iu (h2.sv.below hb) h3.2.2.1 _,Iu (h2.gw.below hb) h3.2.2.2.1 _,Iu (h2.wh.below hb) h3.2.2.2.2 _⟩,⟨h3.1,λe=>by have:=ho.lt b e;omega,h3.2.2.1,h3.2.2.2.1,h3.2.2.2.2⟩,⟨h4.ms,hl,h4.sv,h4.gw,h4.wh,h4.name,h4.aD⟩⟩;exact IB (i:=3) ((hb.block _ aR).trans h1) v
theorem Wk.BS{L b:Nat}{W w1:World}{n:Nd}(h:Wk L W b n)(hL:L<=W.heap.size)(hb:Below W.heap.size W w1){v:Value}{l:List Sv.aY}(ho:Sv.Own W.heap.size w1 v l)(hl:(∀m∈l,m.ok)):Wk L (w1.setCell ⟨b,4,be⟩ v) b { n with sv:=l }:=by
 obtain⟨vm,vr,vs,vg,vw,h1,h2,h3,h4⟩:=h;have aR:=(BY.1 h1).1;refine⟨vm,vr,v,vg,vw,?_,⟨Iu (h2.ms.below hb) h3.1 _,Iu (h2.rs.below hb) h3.2.1 _,Iu (ho.mono hL) (λe=>by have:=ho.lt b e;omega) _,Iu (h2.gw.below hb) h3.2.2.2.1 _,Iu (h2.wh.below hb) h3.2.2.2.2 _⟩,⟨h3.1,h3.2.1,λe=>by have:=ho.lt b e;omega,h3.2.2.2.1,h3.2.2.2.2⟩,⟨h4.ms,h4.rs,hl,h4.gw,h4.wh,h4.name,h4.aD⟩⟩;exact IB (i:=4) ((hb.block _ aR).trans h1) v
theorem Wk.Kr{L b:Nat}{W w1:World}{n:Nd}(h:Wk L W b n)(hL:L<=W.heap.size)(hb:Below W.heap.size W w1){v:Value}{l:List Gw.bL}(ho:Gw.Own W.heap.size w1 v l)(hl:(∀m∈l,m.ok)):Wk L (w1.setCell ⟨b,5,be⟩ v) b { n with gw:=l }:=by
 obtain⟨vm,vr,vs,vg,vw,h1,h2,h3,h4⟩:=h;have aR:=(BY.1 h1).1;refine⟨vm,vr,vs,v,vw,?_,⟨Iu (h2.ms.below hb) h3.1 _,Iu (h2.rs.below hb) h3.2.1 _,Iu (h2.sv.below hb) h3.2.2.1 _,Iu (ho.mono hL) (λe=>by have:=ho.lt b e;omega) _,Iu (h2.wh.below hb) h3.2.2.2.2 _⟩,⟨h3.1,h3.2.1,h3.2.2.1,λe=>by have:=ho.lt b e;omega,h3.2.2.2.2⟩,⟨h4.ms,h4.rs,h4.sv,hl,h4.wh,h4.name,h4.aD⟩⟩;exact IB (i:=5) ((hb.block _ aR).trans h1) v
theorem Wk.Ss{L b:Nat}{W w1:World}{n:Nd}(h:Wk L W b n)(hL:L<=W.heap.size)(hb:Below W.heap.size W w1){v:Value}{l:List Wh.bK}(ho:Wh.Own W.heap.size w1 v l)(hl:(∀m∈l,m.ok)):Wk L (w1.setCell ⟨b,11,be⟩ v) b { n with wh:=l }:=by
 obtain⟨vm,vr,vs,vg,vw,h1,h2,h3,h4⟩:=h;have aR:=(BY.1 h1).1;refine⟨vm,vr,vs,vg,v,?_,⟨Iu (h2.ms.below hb) h3.1 _,Iu (h2.rs.below hb) h3.2.1 _,Iu (h2.sv.below hb) h3.2.2.1 _,Iu (h2.gw.below hb) h3.2.2.2.1 _,Iu (ho.mono hL) (λe=>by have:=ho.lt b e;omega) _⟩,⟨h3.1,h3.2.1,h3.2.2.1,h3.2.2.2.1,λe=>by have:=ho.lt b e;omega⟩,⟨h4.ms,h4.rs,h4.sv,h4.gw,hl,h4.name,h4.aD⟩⟩;exact IB (i:=11) ((hb.block _ aR).trans h1) v
theorem Wk.Wi{L b:Nat}{W:World}{n:Nd}(h:Wk L W b n)(q:Pl):Wk L (((((W.setCell ⟨b,6,be⟩ (U O q.x)).setCell ⟨b,7,be⟩ (U O q.y)).setCell ⟨b,8,be⟩ (U O q.z)).setCell ⟨b,9,be⟩ (U O q.h)).setCell ⟨b,10,be⟩ (U O q.s)) b { n with p:=q }:=by
 obtain⟨vm,vr,vs,vg,vw,h1,h2,h3,h4⟩:=h;have e:∀{base k m:Nat} {T:I5} {v:Value} {xs:List Value},W.ownsRow base T k v m xs->v.ownBlock≠AI b->(((((W.setCell ⟨b,6,be⟩ (U O q.x)).setCell ⟨b,7,be⟩ (U O q.y)).setCell ⟨b,8,be⟩ (U O q.z)).setCell ⟨b,9,be⟩ (U O q.h)).setCell ⟨b,10,be⟩ (U O q.s)).ownsRow base T k v m xs:=λh hn=>Iu (Iu (Iu (Iu (Iu h hn _) hn _) hn _) hn _) hn _;refine⟨vm,vr,vs,vg,vw,?_,⟨e h2.ms h3.1,e h2.rs h3.2.1,e h2.sv h3.2.2.1,e h2.gw h3.2.2.2.1,e h2.wh h3.2.2.2.2⟩,h3,⟨h4.ms,h4.rs,h4.sv,h4.gw,h4.wh,h4.name,h4.aD⟩⟩;exact IB (i:=10) (IB (i:=9) (IB (i:=8) (IB (i:=7) (IB (i:=6) h1 _) _) _) _) _
def tN(ms:List Mem)(t:ByteArray):Nat:=ms.findIdx λm => !decide (bR m.name t<0)
def M6(ms:List Mem)(t:ByteArray):Bool:=decide (tN ms t<ms.length)&&decide (bR (ms.getD (tN ms t) dm).name t=0)
theorem xM{ms:List Mem}(hr:bp ms)(t:ByteArray):At ms t (tN ms t) (M6 ms t):=by
 have kQ:∀j (h:j<ms.length),ms.getD j dm=ms[j]:=λj h=>by simp[Ip,If h]
 refine⟨Qw,λj hj=>?_,λj hj hl=>?_,?_⟩
 .have hl:j<ms.length:=IL hj Qw
  have h:=List.not_of_lt_findIdx hj;rw[kQ j hl];simpa using h
 .have hp:tN ms t<ms.length:=by omega
  have h:=List.findIdx_getElem (xs:=ms) (p:=λm:Mem => !decide (bR m.name t<0)) (w:=hp);apply Int.not_lt.1;intro hx;have h2:=dU hr t (tN ms t) j hj hl hx;rw[kQ _ hp] at h2;have h3:(!decide (bR (ms[tN ms t]'hp).name t<0))=true:=h;rw[decide_eq_true h2] at h3;cases h3
 .unfold M6
  rw[IF,decide_eq_true_eq,decide_eq_true_eq]
theorem gN{ms:List Mem}{t:ByteArray}{p:Nat}(h:At ms t p true):cv ms t=AI (ms.getD p dm):=by
 obtain⟨h1,h2⟩:=h.is.1 rfl;refine nL h1 (λj hj e=>?_) ((bQ _ _).1 h2);have:=h.lo j hj;rw[e,(bQ t t).2 rfl] at this;omega
theorem rP{ms:List Mem}{t:ByteArray}{p:Nat}(hr:bp ms)(h:At ms t p false):cv ms t=be:=by
 refine qW λj hj e=>?_;have kQ:∀j (h:j<ms.length),ms.getD j dm=ms[j]:=λj h=>by simp[Ip,If h]
 have h2:At ms t j true:=by
  refine⟨by omega,λi hi=>?_,λi hi hl=>?_,⟨λ_=>⟨hj,(bQ _ _).2 e⟩,λ_=>rfl⟩⟩
  .have:=I3.1 hr i j (by omega) hj hi
   rw[<- e,fL,kQ i (by omega),kQ j hj];exact this
  .rcases Qm hi with h3|rfl
   .have:=I3.1 hr j i hj hl h3
    have h4:0<bR (ms.getD i dm).name t:=by rw[<- e,nD,kQ i hl,kQ j hj];exact this
    omega
   .rw[(bQ _ _).2 e];omega
 have:=(eN h h2).2;cases this
theorem Su{ms:List Mem}{t:ByteArray}{p:Nat}{f:Bool}(hr:bp ms)(h:At ms t p f):cv ms t=if f=true then AI (ms.getD p dm) else be:=by
 cases f
 .rw[rP hr h];rfl
 .rw[gN h];rfl
theorem Sw{a b:ByteArray}(h:bR a b<0):a≠b:=λe=>by rw[(bQ a b).2 e] at h;omega
theorem eo(x:Mem)(r:List Mem)(t:ByteArray):cv (x::r) t=if x.name=t then AI x else cv r t:=by
 unfold cv;rw[List.find?_cons];by_cases h:x.name=t<;>simp[h]
theorem mX(m:Mem)(t:ByteArray)(ht:m.name≠t):∀ms,cv (aO ms m) t=cv ms t
 |[]=>by rw[aO,eo,if_neg ht]
 |x::r=>by
  rw[aO];split
  .rw[eo,eo,mX m t ht r]
  .rename_i h1
   split
   .rename_i h2
    have e:=(bQ _ _).1 h2;split
    .rw[eo,eo,if_neg ht,if_neg (by rw[e];exact ht)]
    .rfl
   .rw[eo,if_neg ht]
theorem mY(m:Mem):∀ms,aO ms m≠ms->cv (aO ms m) m.name=AI m
 |[],_=>by rw[aO,eo,if_pos rfl]
 |x::r,h=>by
  rw[aO] at h ⊢;split
  .rename_i h1
   rw[if_pos h1] at h;rw[eo,if_neg (Sw h1)];exact mY m r (λe=>h (by rw[e]))
  .rename_i h1
   rw[if_neg h1] at h;split
   .rename_i h2
    rw[if_pos h2] at h;split
    .rw[eo,if_pos rfl]
    .rename_i h3;rw[if_neg h3] at h;exact absurd rfl h
   .rw[eo,if_pos rfl]
def yQ(rs:List bE)(t:ByteArray):Nat:=rs.findIdx λr=>decide (r.m.name=t)
theorem Ks{rs:List bE}{t:ByteArray}{j:Nat}(h:j<yQ rs t):(rs.getD j dr).m.name≠t:=by
 have hl:=IL h Qw;have h:=List.not_of_lt_findIdx h;rw[show rs.getD j dr=rs[j] by simp[Ip,If hl]];simpa using h
theorem BU{rs:List bE}{t:ByteArray}(h:yQ rs t<rs.length):(rs.getD (yQ rs t) dr).m.name=t:=by
 have h2:=List.findIdx_getElem (xs:=rs) (p:=λr:bE=>decide (r.m.name=t)) (w:=h);rw[show rs.getD (yQ rs t) dr=rs[yQ rs t] by simp[Ip,If h]];exact of_decide_eq_true h2
theorem BV{rs:List bE}{t:ByteArray}(h:¬ yQ rs t<rs.length):Db rs t:=λj hj=>Ks (by
 have:yQ rs t<=rs.length:=Qw
 omega)
theorem Sx{rs:List bE}(hd:dL rs){t:ByteArray}{j:Nat}(hj:j<rs.length)(aQ:j≠yQ rs t):(rs.getD j dr).m.name≠t:=by
 rcases Nat.lt_or_ge j (yQ rs t) with h|h
 .exact Ks h
 .have aX:yQ rs t<j:=by omega
  intro e;exact hd (yQ rs t) j aX hj (by rw[e];exact BU (by omega))
def gm(rs:List bE)(m:Mem):List bE:=
 if yQ rs m.name<rs.length then(if eb m (rs.getD (yQ rs m.name) dr).m=true then rs.eraseIdx (yQ rs m.name)++[⟨m,0⟩] else rs) else rs++[⟨m,0⟩]
def ia(rs:List bE)(m:Mem):Int:=if 20<(gm rs m).length then 2 else 0
theorem M7(rs:List bE)(v:Value)(m:Mem)(w:World)(hv:mR w v rs)(hm:m.name.size<=Il)(h0:dZ rs=0)(he:m.e=0) :
 aI 168 #[v,Ij #[Y m.name,U O m.state,U O m.aJ,U O m.addr,Ia m.server]] w λe w'=>∃a k c,e=AT (Ik #[J a k c,U O (ia rs m)])/\Below w.heap.size w w'/\(ia rs m=0->cL w.heap.size w' (J a k c) (gm rs m)):=by
 have hl:=(lY h0).1;have sl:∀{W:World} {B:Nat} {u:Value} {l:List bE},cL B W u l->∃a k c,u=J a k c:=λh=>by
  obtain⟨a,c,e⟩:=h.slice;exact⟨a,_,c,e⟩
 by_cases hp:yQ rs m.name<rs.length
 .rcases hn:eb m (rs.getD (yQ rs m.name) dr).m with _|_
  .have e1:gm rs m=rs:=by unfold gm;rw[if_pos hp,if_neg (by rw[hn];simp)]
   have e2:ia rs m=0:=by unfold ia;rw[e1,if_neg (by omega)]
   refine(MJ rs v m w hv hm h0 he _ hp (BU hp) hn).mono ?_;rintro e w' ⟨v',rfl,ho,hb⟩;obtain⟨a,k,c,rfl⟩:=sl ho;exact⟨a,k,c,by rw[e2],hb,λ_=>by rw[e1];exact ho⟩
  .have e1:gm rs m=rs.eraseIdx (yQ rs m.name)++[⟨m,0⟩]:=by unfold gm;rw[if_pos hp,if_pos hn]
   have e2:ia rs m=0:=by unfold ia;rw[e1,if_neg (by rw[Ig,List.length_eraseIdx_of_lt hp];simp;omega)]
   refine(Ei rs v m w hv hm h0 he _ hp (BU hp) hn).mono ?_;rintro e w' ⟨v',rfl,ho,hb⟩;obtain⟨a,k,c,rfl⟩:=sl ho;exact⟨a,k,c,by rw[e2],hb,λ_=>by rw[e1];exact ho⟩
 .have e1:gm rs m=rs++[⟨m,0⟩]:=by unfold gm;rw[if_neg hp]
  by_cases hf:rs.length=20
  .have e2:ia rs m=2:=by unfold ia;rw[e1,if_pos (by rw[Ig];simp;omega)]
   refine(Hu rs v m w hv hm h0 he (BV hp) hf).mono ?_;rintro e w' ⟨rfl,hb⟩;exact⟨be,0,0,by rw[e2],hb,λh=>by rw[e2] at h;cases h⟩
  .have e2:ia rs m=0:=by unfold ia;rw[e1,if_neg (by rw[Ig];simp;omega)]
   refine(M8 rs v m w hv hm h0 he (BV hp) (by omega)).mono ?_;rintro e w' ⟨v',rfl,ho,hb⟩;obtain⟨a,k,c,rfl⟩:=sl ho;exact⟨a,k,c,by rw[e2],hb,λ_=>by rw[e1];exact ho⟩
theorem M9{rs:List bE}{m:Mem}(h:∀r∈rs,r.m.name.size<=Il)(hm:m.name.size<=Il):∀r∈gm rs m,r.m.name.size<=Il:=by
 intro r hr;unfold gm at hr;split at hr
 .split at hr
  .rcases Jq.1 hr with hr|hr
   .exact h r (JI hr)
   .simp at hr;subst hr;exact hm
  .exact h r hr
 .rcases Jq.1 hr with hr|hr
  .exact h r hr
  .simp at hr;subst hr;exact hm
theorem tO(L b:Nat)(n:Nd)(t:ByteArray)(m:Mem)(w:World)(h:Wk L w b n)(hL:L<=b)(gQ:n.ms.length<=1000)(oz:dZ n.rs=0)(hm:eF n.ms t=m)(he:m.e=0)(cI:m.name.size<=Il) :
 aI 107 #[Ie (AI ⟨b,0,be⟩),Y t] w λe w'=>e=AT (U O (ia n.rs m))/\Sh (λk=>k=b) w w'/\(ia n.rs m=0->Wk L w' b { n with rs:=gm n.rs m }):=by
 have qj:Hid (Wk L w b n):=h;have aR:=h.lt;obtain⟨vm,vr,vs,vg,vw,h1,h2,h3,h4⟩:=h;have mC:Hid _:=h2.is h4;obtain⟨am,cm,od,_⟩:=aA h2.ms;obtain⟨ar,cr,vA,_⟩:=aA h2.rs;subst od vA;have Ep:Hid (kL 67 #[Ie (AI ⟨b,0,be⟩),Y t] w (Ik #[Ij #[Y m.name,U O m.state,U O m.aJ,U O m.addr,Ia m.server],Ia (cv n.ms t).isSome])):=by
  have hq:=jc b am n.ms.length cm n.ms t w (ae h1 2) mC.out.ms gQ;rw[hm] at hq;exact hq
 have yL:Hid (∀W,Below w.heap.size w W->aI _ _ _ _):=λW hW=>M7 n.rs _ m W (mC.out.rs.below hW) cI oz he;have tP:Hid (∀W w1 a k c,Below w.heap.size w W->Below W.heap.size W w1->(ia n.rs m=0->cL W.heap.size w1 (J a k c) (gm n.rs m))->ia n.rs m=0->Wk L (w1.setCell ⟨b,3,be⟩ (J a k c)) b { n with rs:=gm n.rs m }):=λW w1 a k c hW h1 h2 h0=>
  (qj.out.below hW).Ko (by have:=hW.size;omega) h1 (h2 h0) (M9 h4.rs cI)
 have HX:Hid (∀W,Below w.heap.size w W->W.heap[b]?=AI (By (dv n (J am n.ms.length cm) (J ar n.rs.length cr) vs vg vw) 90 (0,0))):=λW hW=>(hW.block _ aR).trans h1;have y2:=ae h1 2;generalize ia n.rs m=pe at *;generalize Bo:n.rs.length=kr at *;generalize tQ:n.ms.length=km at *;clear Bo tQ h1 h2 h3 h4 hm he oz;generalize(cv n.ms t).isSome=fd at *;obtain⟨mn,st,lf,ad,sv⟩:=m;simp only at Ep yL cI;go_enter Tryz.func107,Tryz.ntmps107;go_wp2_with fail;refine Ep.out.mono ?_;rintro e w1 ⟨rfl,aB⟩;obtain⟨W2,bJ⟩:∃W2,W2=w1.alloc (By #[Y mn,U O st,U O lf,U O ad,Ia sv] 50):=⟨_,rfl⟩;have aK:Below w.heap.size w W2:=by rw[bJ];exact aB.alloc aB.size _
 have bu:Hid _:=aK;have dS:W2.heap[w1.heap.size]?=AI (By #[Y mn,U O st,U O lf,U O ad,Ia sv] 50 (0,0)):=by rw[bJ];exact Ih w1 _
 obtain⟨x0,x1,x2,x3,x4⟩:=jw dS;have y3:=ae (HX.out W2 aK) 3;go_upto_region 2 with fail
 rw[<- bJ];clear bJ aB aK dS y2 Ep;have Sy:b<W2.heap.size:=by have:=bu.out.size;omega
 go_region_with (first|(go_at_call 168;refine(yL.out _ bu.out.drew).mono ?_;rintro e w3 ⟨a,k,c,rfl,bX,lE⟩;have cJ:Hid (Below W2.heap.size W2 w3):=(Ib W2.heap.size W2).drew.trans bX;have ec:Hid (pe=0->Wk L (w3.setCell ⟨b,3,be⟩ (J a k c)) b { n with rs:=gm n.rs ⟨mn,st,lf,ad,sv⟩ }):=tP.out _ _ a k c bu.out.drew bX lE;have ix:=HX.out w3 (bu.out.trans (cJ.out.mono bu.out.size));have z3:w3.cell? ⟨b,3,be⟩=AI (J ar kr cr):=ae ix 3;have zf:w3.frozen? ⟨b,3,be⟩=false:=aj ix 3;clear bX lE ix))
 all_goals
  go_wp2_with fail;go_ret;exact⟨rfl,((Sh.of bu.out).next cJ.out).setCell (S:=λk=>k=b) rfl _,ec.out⟩
theorem mZ(rs:List bE):dL rs↔rs.Pairwise λa b=>a.m.name≠b.m.name:=by
 have kQ:∀j (h:j<rs.length),rs.getD j dr=rs[j]:=λj h=>by simp[Ip,If h]
 rw[I3];exact⟨λh i j hi hj iS=>by have:=h i j iS hj;rwa [kQ i hi,kQ j hj] at this,λh i j iS hj=>by rw[kQ i (by omega),kQ j hj];exact h i j (by omega) hj iS⟩
theorem zI(rs:List bE):hJ rs↔∀r∈rs,within r.told 0 100=true:=by
 have kQ:∀j (h:j<rs.length),rs.getD j dr=rs[j]:=λj h=>by simp[Ip,If h]
 constructor
 .intro h r hr
  obtain⟨j,hj,rfl⟩:=IX hr;have:=h j hj;rwa [kQ j hj] at this
 .intro h j hj
  rw[kQ j hj];exact h _ (IJ _)
theorem Na{rs:List bE}(h1:rs.length<=20)(h2:∀r∈rs,r.m.e=0)(h3:∀r∈rs,within r.told 0 100=true)(h4:rs.Pairwise λa b=>a.m.name≠b.m.name):dZ rs=0:=by
 have kQ:∀j (h:j<rs.length),rs.getD j dr=rs[j]:=λj h=>by simp[Ip,If h]
 exact xN h1 (λj hj=>by rw[kQ j hj];exact h2 _ (IJ _)) ((zI rs).2 h3) ((mZ rs).2 h4)
theorem ql{rs:List bE}{m:Mem}{r:bE}(h:r∈gm rs m):r∈rs\/r=⟨m,0⟩:=by
 unfold gm at h;split at h
 .split at h
  .rcases Jq.1 h with h|h
   .exact .inl (JI h)
   .exact .inr (by simpa using h)
  .exact .inl h
 .rcases Jq.1 h with h|h
  .exact .inl h
  .exact .inr (by simpa using h)
theorem zJ{rs:List bE}{m:Mem}(h:dZ rs=0)(hm:m.e=0)(hp:ia rs m=0):dZ (gm rs m)=0:=by
 obtain⟨l1,l2,l3,l4⟩:=lY h;have hlen:(gm rs m).length<=20:=by
  unfold ia at hp;split at hp
  .cases hp
  .omega
 rw[zI] at l3;have hd:=(mZ rs).1 l4;refine Na hlen (λr hr=>?_) (λr hr=>?_) ?_
 .rcases ql hr with h|rfl
  .exact l2 r h
  .exact hm
 .rcases ql hr with h|rfl
  .exact l3 r h
  .rfl
 .unfold gm
  split
  .rename_i aX
   split
   .rw[QQ]
    refine⟨hd.sublist (List.eraseIdx_sublist _ _),by simp,λa ha b hb=>?_⟩;simp at hb;subst hb;obtain⟨i,hi,aQ,rfl⟩:=List.mem_eraseIdx_iff_getElem.1 ha;have:=Sx l4 hi aQ
    rwa [show rs.getD i dr=rs[i] by simp[Ip,If hi]] at this
   .exact hd
  .rename_i aX
   rw[QQ];refine⟨hd,by simp,λa ha b hb=>?_⟩;simp at hb;subst hb;obtain⟨i,hi,rfl⟩:=IX ha;have:=BV aX i hi
   rwa [show rs.getD i dr=rs[i] by simp[Ip,If hi]] at this
theorem ki{ms:List Mem}(h1:ms.length<=20)(h2:bp ms)(h3:∀m∈ms,m.e=0):bl ms=0:=by
 have kQ:∀j (h:j<ms.length),ms.getD j dm=ms[j]:=λj h=>by simp[Ip,If h]
 rw[rM ms h1 (λj hj=>by rw[kQ j hj];exact h3 _ (IJ _)),if_pos (jR ms h2)]
theorem Kt{ms:List Mem}{m:Mem}(h:bl ms=0)(hm:m.e=0)(hl:(aO ms m).length<=20):bl (aO ms m)=0:=by
 obtain⟨_,h2,_⟩:=af h;refine ki hl (gq ms m h2) (λx hx=>?_);rcases dn ms m x hx with rfl|hx
 .exact hm
 .exact lX h x hx
theorem wB{ms:List Mem}{m:Mem}(h:bl ms=0)(hm:m.e=0):aE ms [m]=if 20<(aO ms m).length then 2 else 0:=by
 unfold aE aP;rw[if_pos h,jV,if_pos hm];rfl
def oW(ms:List Mem)(m:Mem):Bool:=match cv ms m.name with
 |none=>true
 |some k=>eb m k
theorem gO(m:Mem):eb m m=false:=by
 unfold eb oK;simp
theorem nc{ms:List Mem}(hr:bp ms)(m:Mem):oW ms m=true↔aO ms m≠ms:=by
 have cH:=xM hr m.name;have hf:=Su hr cH;have hh:=df ms m _ _ cH;unfold oW;rw[hf,hh];rcases he:M6 ms m.name with _|_
 .simp only[Bool.false_eq_true,if_false,ne_eq,true_iff]
  intro e;have:=congrArg List.length e;have hle:=cH.le;simp at this;omega
 .simp only[if_true]
  rw[he] at cH;have hp:=(cH.is.1 rfl).1;by_cases hn:eb m (ms.getD (tN ms m.name) dm)=true
  .rw[if_pos hn]
   refine⟨λ_ e=>?_,λ_=>hn⟩;have h2:ms.getD (tN ms m.name) dm=m:=by
    have:(ms.set (tN ms m.name) m).getD (tN ms m.name) dm=m:=by simp[Ip,hp]
    rwa [e] at this
   rw[h2,gO] at hn;cases hn
  .rw[if_neg hn]
   exact⟨λh=>absurd h hn,λh=>absurd rfl h⟩
def jq(n:Nd):Nat:=tN n.ms n.name
def nf(n:Nd):Bool:=M6 n.ms n.name
def nP(n:Nd):List Mem:=sw n.ms (jq n) (nf n)
def xO(n:Nd):Mem:=eF (nP n) n.name
def yR(n:Nd):Int:=if jd n.ms (jq n) (nf n)=0 then(if iK n.ms (jq n) (nf n)=true then ia n.rs (xO n) else 0) else jd n.ms (jq n) (nf n)
def sM(n:Nd):Nd:=if iK n.ms (jq n) (nf n)=true then{ n with ms:=nP n,rs:=gm n.rs (xO n) } else{ n with ms:=nP n }
def eR(n:Nd)(m:Mem):Nd:=if oW n.ms m=true then{ n with ms:=aO n.ms m,rs:=gm n.rs m } else{ n with ms:=aO n.ms m }
def jx(n:Nd)(m:Mem):Int:=if aE n.ms [m]=0 then(if oW n.ms m=true then ia n.rs m else 0) else aE n.ms [m]
def lr(n:Nd)(m:Mem):Int:=if jx n m=0 then(if m.name=n.name then yR (eR n m) else 0) else jx n m
def kj(n:Nd)(m:Mem):Nd:=if m.name=n.name then sM (eR n m) else eR n m
theorem Sz{ms:List Mem}{t:ByteArray}{p:Nat}(h:At ms t p true):eF ms t=ms.getD p dm:=hU (gN h)
theorem BW{ms:List Mem}{t:ByteArray}{p:Nat}(h:At ms t p true){x:Mem}(hx:x.name=t):At (ms.set p x) t p true:=by
 obtain⟨h1,h2⟩:=h.is.1 rfl;have hg:∀j,(ms.set p x).getD j dm=if j=p then x else ms.getD j dm:=λj=>by
  by_cases e:j=p
  .subst e;simp[Ip,h1]
  .simp[Ip,List.getElem?_set_ne (Ne.symm e),e]
 refine⟨by rw[IM];exact h.le,λj hj=>?_,λj hj hl=>?_,⟨λ_=>⟨by rw[IM];exact h1,?_⟩,λ_=>rfl⟩⟩
 .rw[hg j,if_neg (by omega)];exact h.lo j hj
 .rw[hg j]
  split
  .rw[hx,(bQ t t).2 rfl];omega
  .rw[IM] at hl;exact h.hi j hj hl
 .rw[hg p,if_pos rfl,hx];exact(bQ t t).2 rfl
theorem kR(m:Mem):m.e=0↔bc m.name=true/\within m.state 1 4=true/\within m.aJ 1 1000000=true/\within m.addr 0 4294967295=true:=by
 unfold Mem.e vo;constructor
 .intro h
  split at h
  .rename_i h1
   split at h
   .rename_i h2
    split at h
    .rename_i h3
     split at h
     .rename_i h4;exact⟨h1,h2,h3,h4⟩
     .cases h
    .cases h
   .cases h
  .cases h
 .rintro⟨h1,h2,h3,h4⟩
  rw[if_pos h1,if_pos h2,if_pos h3,if_pos h4]
theorem within_iff{n a b:Int}:within n a b=true↔a<=n/\n<=b:=by unfold within;rw[IF,decide_eq_true_eq,decide_eq_true_eq]
theorem zK{m:Mem}(h:m.e=0)(hl:m.aJ≠1000000):(cA m).e=0:=by
 obtain⟨h1,h2,h3,h4⟩:=(kR m).1 h;rw[within_iff] at h3;exact(kR _).2 ⟨h1,rfl,within_iff.2 ⟨by show(1:Int)<=m.aJ+1;omega,by show m.aJ+1<=1000000;omega⟩,h4⟩
theorem qm{n:Nd}(h:bl n.ms=0)(hR:iK n.ms (jq n) (nf n)=true) :
 nf n=true/\At n.ms n.name (jq n) true/\nP n=n.ms.set (jq n) (cA (n.ms.getD (jq n) dm))/\xO n=cA (n.ms.getD (jq n) dm)/\(xO n).e=0/\(n.ms.getD (jq n) dm).name=n.name/\jq n<n.ms.length:=by
 have hr:=(af h).2.1;have cH:At n.ms n.name (jq n) (nf n):=xM hr n.name;have hR2:=hR;unfold iK at hR;rw[IF,IF] at hR;obtain⟨⟨h1,_⟩,h3⟩:=hR;rw[h1] at cH;obtain⟨hp,hc⟩:=cH.is.1 rfl;have hn:=(bQ _ _).1 hc;have hL:nP n=n.ms.set (jq n) (cA (n.ms.getD (jq n) dm)):=by unfold nP sw;rw[if_pos hR2]
 have hM:xO n=cA (n.ms.getD (jq n) dm):=by
  unfold xO;rw[hL,Sz (BW cH (x:=cA (n.ms.getD (jq n) dm)) hn)];simp[Ip,hp]
 have he:(n.ms.getD (jq n) dm).e=0:=lX h _ (by rw[show n.ms.getD (jq n) dm=n.ms[jq n] by simp[Ip,If hp]];exact IJ _);exact⟨h1,cH,hL,hM,by rw[hM];exact zK he (by simpa using h3),hn,hp⟩
theorem Nb{ms:List Mem}{p:Nat}{f:Bool}(h:∀m∈ms,m.name.size<=Il):∀m∈sw ms p f,m.name.size<=Il:=by
 intro m hm;unfold sw at hm;split at hm
 .rcases List.mem_or_eq_of_mem_set hm with hm|rfl
  .exact h m hm
  .exact cy h p
 .exact h m hm
theorem xP{ms:List Mem}{p:Nat}{f:Bool}(h:iK ms p f=true):jd ms p f=0:=by
 unfold iK at h;unfold jd;rw[IF] at h;obtain⟨h1,h2⟩:=h;simp only[Bool.not_eq_true'] at h2;rw[h2];simp
theorem BX(L b:Nat)(n:Nd)(w:World)(h:Wk L w b n)(hL:L<=b)(gQ:bl n.ms=0)(oz:dZ n.rs=0)(hl:bc n.name=true) :
 aI 108 #[Ie (AI ⟨b,0,be⟩)] w λe w'=>e=AT (U O (yR n))/\Sh (λk=>k=b) w w'/\Hid (yR n=0->Wk L w' b (sM n)):=by
 have qj:Hid (Wk L w b n):=h;have aR:=h.lt;obtain⟨vm,vr,vs,vg,vw,h1,h2,h3,h4⟩:=h;have mC:Hid _:=h2.is h4;obtain⟨am,cm,od,_⟩:=aA h2.ms;subst od;have HRF:Hid (∀W,Below w.heap.size w W->aI 169 #[J am n.ms.length cm,Y n.name] W λe w'=>∃a k c,e=AT (Ik #[J a k c,Ia (iK n.ms (jq n) (nf n)),U O (jd n.ms (jq n) (nf n))])/\Below W.heap.size W w'/\(jd n.ms (jq n) (nf n)=0->Own W.heap.size w' (J a k c) (nP n))):=λW hW=>by
  refine(zL n.ms _ n.name W (mC.out.ms.below hW) gQ h4.name hl (jq n) (nf n) (xM (af gQ).2.1 n.name)).mono ?_;rintro e w' ⟨v',rfl,hb,hx,ho⟩;by_cases h0:jd n.ms (jq n) (nf n)=0
  .obtain⟨a,c,rfl,_⟩:=aA (ho h0)
   exact⟨a,_,c,rfl,hb,λ_=>ho h0⟩
  .rw[hx h0]
   exact⟨be,0,0,rfl,hb,λh=>absurd h h0⟩
 have tR:Hid (∀W w1 a k c,Below w.heap.size w W->Below W.heap.size W w1->(jd n.ms (jq n) (nf n)=0->Own W.heap.size w1 (J a k c) (nP n))->jd n.ms (jq n) (nf n)=0->Wk L (w1.setCell ⟨b,2,be⟩ (J a k c)) b { n with ms:=nP n }):=λW w1 a k c hW h1 h2 h0=>
  (qj.out.below hW).Kn (by have:=hW.size;omega) h1 (h2 h0) (Nb h4.ms)
 have HX:Hid (∀W,Below w.heap.size w W->W.heap[b]?=AI (By (dv n (J am n.ms.length cm) vr vs vg vw) 90 (0,0))):=λW hW=>(hW.block _ aR).trans h1;have Nc:Hid (∀W,iK n.ms (jq n) (nf n)=true->Wk L W b { n with ms:=nP n }->aI 107 #[Ie (AI ⟨b,0,be⟩),Y n.name] W λe w'=>e=AT (U O (ia n.rs (xO n)))/\Sh (λk=>k=b) W w'/\(ia n.rs (xO n)=0->Wk L w' b { n with ms:=nP n,rs:=gm n.rs (xO n) })):=λW hR hW=>by
  obtain⟨_,_,f3,f4,f5,f6,f7⟩:=qm gQ hR;exact tO L b { n with ms:=nP n } n.name (xO n) W hW hL (by show(nP n).length<=1000;rw[f3,IM];have:=(af gQ).1;omega) oz rfl f5 (by rw[f4];show(n.ms.getD (jq n) dm).name.size<=Il;rw[f6];exact h4.name)
 have HE:Hid (iK n.ms (jq n) (nf n)=true->yR n=ia n.rs (xO n)/\sM n={ n with ms:=nP n,rs:=gm n.rs (xO n) }):=λhR=>by
  unfold yR sM;rw[if_pos (xP hR),if_pos hR,if_pos hR];exact⟨rfl,rfl⟩
 have kM:Hid (iK n.ms (jq n) (nf n)=false->yR n=jd n.ms (jq n) (nf n)/\sM n={ n with ms:=nP n }):=λhR=>by
  unfold yR sM;rw[hR];simp only[Bool.false_eq_true,if_false];refine⟨?_,trivial⟩;split
  .rename_i h;exact h.symm
  .rfl
 have HEZ:Hid (iK n.ms (jq n) (nf n)=true->jd n.ms (jq n) (nf n)=0):=λhR=>xP hR;have y0:=ae h1 0;have y2:=ae h1 2;have Nf:Hid (∀W,Wk L W b { n with ms:=nP n }->W.cell? ⟨b,0,be⟩=AI (Y n.name)):=λW hW=>by
  obtain⟨_,_,_,_,_,g1,_⟩:=hW;exact ae g1 0
 generalize yR n=res at *;generalize jd n.ms (jq n) (nf n)=re at *;generalize iK n.ms (jq n) (nf n)=rr at *;generalize ia n.rs (xO n)=pe at *;generalize tQ:n.ms.length=km at *;clear tQ h1 h2 h3 h4 gQ oz;go_enter Tryz.func108,Tryz.ntmps108;go_wp2_with fail;go_region_with (first|(go_at_call 169;refine(HRF.out _ (Ib _ _).drew).mono ?_;rintro e w1 ⟨a,k,c,rfl,aB,zF⟩;have ba:Hid (Below w.heap.size w w1):=(Ib w.heap.size w).drew.trans aB;have lQ:Hid (re=0->Wk L (w1.setCell ⟨b,2,be⟩ (J a k c)) b { n with ms:=nP n }):=tR.out _ _ a k c (Ib _ _).drew aB zF;have ix:=HX.out w1 ba.out;have z2:w1.cell? ⟨b,2,be⟩=AI (J am km cm):=ae ix 2;have zf:w1.frozen? ⟨b,2,be⟩=false:=aj ix 2;have vp:Hid (w1.heap[b]?=AI (By (dv n (J am km cm) vr vs vg vw) 90 (0,0))):=ix;clear aB zF ix))
 all_goals
  obtain⟨W2,bJ⟩:∃W2,W2=w1.setCell ⟨b,2,be⟩ (J a k c):=⟨_,rfl⟩;rw[<- bJ] at lQ;have xQ:Hid (Sh (λk=>k=b) w W2):=by rw[bJ];exact(Sh.of ba.out).setCell (S:=λk=>k=b) rfl _
  rw[<- bJ];clear bJ z2 zf y0 y2;cases rr
  .obtain⟨e1,e2⟩:=kM.out rfl
   have HR:Hid _:=e1;have HN:Hid _:=e2;clear e1 e2 HE kM Nc;go_wp2_with fail;go_ret;exact⟨ai HR.out.symm,xQ.out,λh=>by rw[HN.out];exact lQ.out (HR.out.symm.trans h)⟩
  .obtain⟨e1,e2⟩:=HE.out rfl
   have HR:Hid _:=e1;have HN:Hid _:=e2;have Du:=lQ.out (HEZ.out rfl);have HTC:Hid (aI _ _ _ _):=Nc.out W2 rfl Du;have y0:=Nf.out W2 Du;clear e1 e2 HE kM Nc Du lQ;go_wp2_with fail;refine HTC.out.mono ?_;rintro e w4 ⟨rfl,AZ,Wj⟩;have GP:Hid _:=xQ.out.trans AZ;have Eb:Hid _:=Wj;clear AZ Wj;go_wp2_with fail;go_ret;exact⟨ai HR.out.symm,GP.out,λh=>by rw[HN.out];exact Eb.out (HR.out.symm.trans h)⟩
end Go.Proofs.YtfidhgjmifendaaGreatDoor
namespace Go.Proofs.YtfidhgjmifendaaGreatDoor
namespace Wh
open Go.RowKit
theorem mf{a b:List bK}(kC:a.length<=20)(kA:b.length<=20)(k:Nat):(dG a b k).length<=40:=by
 unfold dG;split
 .simp
 .split
  .omega
  .have:=dj b a;omega
structure BZ(w:World)(pb:Nat)(a b:List bK)(k:Nat)(l:List bK)(pk:Option Addr)(ck:Nat):Prop where
 cell:w.cell? ⟨pb,k,be⟩=AI (J pk l.length ck)
 row:l=[]\/∃b off,pk=AI ⟨b,off,be⟩/\b<w.heap.size/\Row w b off l
 Ku:∀m∈l,(m).ok
 len:l.length<=20
 B0:(dG a b k).length<=20
 tS:bp (dG a b k)
 B1:∀m∈dG a b k,(m).ok
 step:dG a b (k+1)=av (dG a b k) l
theorem oX{a b:List bK}{va vb:Value}{pb:Nat}{w:World}(ha:Sl w va a)(hb:Sl w vb b)(hc0:w.cell? ⟨pb,0,be⟩=AI va)(hc1:w.cell? ⟨pb,1,be⟩=AI vb)(kC:a.length<=20)(kA:b.length<=20)(ra:bp a)(k:Nat)(hk:k<2) :
 ∃l pk ck,BZ w pb a b k l pk ck:=by
 obtain⟨pa,ca,rfl,Kv,ha⟩:=ha;obtain⟨pv,cb,rfl,SA,hb⟩:=hb;have gr:k=0\/k=1:=by omega
 rcases gr with rfl|rfl
 .exact⟨a,pa,ca,hc0,ha,dy Kv,kC,by simp[dG],by simp[dG],by simp[dG],(iJ a ra).symm⟩
 .exact⟨b,pv,cb,hc1,hb,dy SA,kA,kC,ra,dy Kv,rfl⟩
theorem iL(a b:List bK)(va vb:Value)(pb cap:Nat)(w:World)(ha:Sl w va a)(hb:Sl w vb b)(hpb:pb<w.heap.size)(hc0:w.cell? ⟨pb,0,be⟩=AI va)(hc1:w.cell? ⟨pb,1,be⟩=AI vb)(kC:a.length<=20)(kA:b.length<=20)(ra:bp a) :
 Calls Tryz.prog 238 #[.func (.func 112) #[] #[],.func (.func 237) #[] #[],J (AI ⟨pb,0,be⟩) 2 cap] w λe w'=>∃v',e=AT v'/\Own w.heap.size w' v' (av a b)/\Below w.heap.size w w':=by
 have HK:Hid (∀k,k<2->∃l pk ck,BZ w pb a b k l pk ck):=λk hk=>oX ha hb hc0 hc1 kC kA ra k hk;have vi:Hid (∀k,(dG a b k).length<=40):=mf kC kA;clear ha hb hc0 hc1 kC kA ra;go_enter Tryz.func238,Tryz.ntmps238;go_wp2_with fail;go_loopw [7,16] (λkn i w'=>∃k:Nat,k<=2/\i=U O k/\Below w.heap.size w w'/\Hid (Own w.heap.size w' kn (dG a b k))) (λ_ i _=>2-(intOf i).toNat)
 case atStart=>exact⟨0,by omega,rfl,Ib _ _,b9 _ _⟩
 case round=>
  obtain⟨k,hk,rfl,aR,HO⟩:=hrel;obtain⟨eM,nQ⟩:=cC aR;have cI:=aR.size;by_cases jJ:k<2
  .obtain⟨l,pk,ck,oY⟩:=HK.out k jJ
   have oZ:Hid (BZ w pb a b k l pk ck):=oY;have fW:=oY.cell;clear oY;generalize oD:l.length=nl at *;have iu:Hid (l.length=nl):=oD;clear oD;have Kw:nl<=20:=by have:=oZ.out.len;have:=iu.out;omega
   have SB:(k:Int)<2:=by omega
   go_wp2_with fail;go_loopw [7,22] (λkn j w'=>∃q:Nat,q<=nl/\j=U O q/\Below w.heap.size w w'/\Hid (Own w.heap.size w' kn (av (dG a b k) (l.take q)))) (λ_ j _=>nl-(intOf j).toNat)
   case atStart=>exact⟨0,Nat.zero_le _,rfl,aR,HO⟩
   case round=>
    clear eM nQ cI aR HO fW;obtain⟨q,hq,rfl,aR,HO⟩:=hrel;obtain⟨eM,nQ⟩:=cC aR;have cI:=aR.size;by_cases aX:q<nl
    .obtain⟨b2,off,B2,Mo,cR⟩:∃xR off,pk=AI ⟨xR,off,be⟩/\xR<w.heap.size/\Row w xR off l:=by
      rcases oZ.out.row with h|h
      .have:=iu.out;rw[h] at this;simp at this;omega
      .exact h
     subst B2;obtain⟨c0,c1,c2,c3,c4,c5⟩:=cR q (by rw[iu.out];exact aX);clear cR;have HJ:Hid (av (dG a b k) (l.take (q+1))=aO (av (dG a b k) (l.take q)) (l.getD q dm)):=gl (dG a b k) l q (by rw[iu.out];exact aX);have HR:Hid (bp (av (dG a b k) (l.take q))):=dF _ _ oZ.out.tS;have MS:Hid (∀j,((av (dG a b k) (l.take q)).getD j dm).ok):=cy (iU _ _ oZ.out.B1 (λx hx=>oZ.out.Ku x (List.mem_of_mem_take hx)));have HL:Hid ((av (dG a b k) (l.take q)).length<=40):=by
      have h1:=dj (l.take q) (dG a b k);have h2:(l.take q).length<=q:=List.length_take_le _ _;have h3:=oZ.out.B0;show(av (dG a b k) (l.take q)).length<=40;omega
     generalize l.getD q dm=m at *;generalize av (dG a b k) (l.take q)=known at *;have ED:known.length<=40:=HL.out;obtain⟨W1,cT,aB,ft,cO⟩:=bY wr #[Y m.node,U O m.x,U O m.y,U O m.z,U O m.h,U O m.s] 116;have lQ:Hid (Own w.heap.size W1 u7 known):=HO.out.below aB;have HF:Hid (Calls Tryz.prog 111 #[u7,Ij #[Y m.node,U O m.x,U O m.y,U O m.z,U O m.h,U O m.s],.func (.func 112) #[] #[]] W1 λe w'=>∃(p:Nat) (f:Bool),e=AT (Ik #[U O p,Ia f])/\Below W1.heap.size W1 w'/\At known m p f):=
      fu known u7 m W1 (lQ.out.sl MS.out) HL.out HR.out
     have ba:Hid (Below w.heap.size w W1):=aR.trans (aB.mono cI);have HT:Hid (As W1 wr.heap.size 0 m):=⟨ae cO 0,ae cO 1,ae cO 2,ae cO 3,ae cO 4,ae cO 5⟩;have oE:Hid _:=cT;have vt:w.heap.size<=W1.heap.size:=by omega
     clear cO aB HO HL HR cT;go_wp2_with fail;rw[<- oE.out];refine HF.out.mono ?_;rintro e w2 ⟨p,f,rfl,aK,cH⟩;have gj:Hid _:=cH;have SC:=cH.le;have SD:=aK.size;have iq:Hid (Own _ _ _ _):=lQ.out.below aK;have bu:Hid _:=ba.out.trans (aK.mono vt);have xl:Hid (As w2 wr.heap.size 0 m):=HT.out.eq (λo=>aK.cell (p:=⟨wr.heap.size,o,be⟩) (by show wr.heap.size<W1.heap.size;omega));obtain⟨t0,t1,t2,t3,t4,t5⟩:w2.cell? ⟨wr.heap.size,0,be⟩=AI (Y m.node)/\w2.cell? ⟨wr.heap.size,1,be⟩=AI (U O m.x)/\w2.cell? ⟨wr.heap.size,2,be⟩=AI (U O m.y)/\w2.cell? ⟨wr.heap.size,3,be⟩=AI (U O m.z)/\w2.cell? ⟨wr.heap.size,4,be⟩=AI (U O m.h)/\w2.cell? ⟨wr.heap.size,5,be⟩=AI (U O m.s):=xl.out;have iv:w.heap.size<=w2.heap.size:=by omega
     have B3:wr.heap.size<w2.heap.size:=by omega
     clear cH HF eM nQ c0 c1 c2 c3 c4 c5 aK lQ ba HT;cases f
     .have aQ:Hid (u7.ownBlock≠AI w2.heap.size):=λe=>by have:=iq.out.lt _ e;omega
      have ec:Hid (Own w.heap.size (w2.alloc (By #[Y m.node,U O m.x,U O m.y,U O m.z,U O m.h,U O m.s] 116)) u7 known):=iq.out.below ((Ib _ _).alloc (Ic _) _);have qf:Hid ((w2.alloc (By #[Y m.node,U O m.x,U O m.y,U O m.z,U O m.h,U O m.s] 116)).heap[w2.heap.size]?=AI (By m.cs.toArray 116 (0,0))):=Ih w2 _;go_wp2_with (go_at_call 113;refine(fC w.heap.size p w2.heap.size u7 known m _ ec.out gj.out.le (by omega) (by simp;omega) qf.out aQ.out).mono ?_;rintro e w4 ⟨v',rfl,g1,g2⟩);go_roundw
      case rel=>
       have jy:∃o5:Nat,o5<=nl/\U O ((q:Int)+1)=U O o5/\Below w.heap.size w w4/\Hid (Own w.heap.size w4 v' (av (dG a b k) (l.take o5))):=⟨q+1,by omega,by go_num,fq (bu.out.alloc iv _) ec.out g2 (by simp;omega),by rw[HJ.out,df known m p false gj.out];exact g1⟩;first|exact jy|((repeat apply Exists.intro);exact⟨jy,rfl⟩)
      case measure=>simp[intOf];omega
     .have hp:p<known.length:=(gj.out.is.1 rfl).1
      obtain⟨g,c,hu⟩:=jT iq.out p hp;subst hu;have F:=(eE iq.out p hp).re;have du:=iq.out.lt g rfl;have Ng:g<w2.heap.size:=du.2;generalize hm:known.getD p dm=m2 at *;have Hm:Hid _:=hm;clear hm;have hN:∀d os,Calls Tryz.prog 237 #[Ij #[Y m.node,U O m.x,U O m.y,U O m.z,U O m.h,U O m.s],Ij #[Y m2.node,U O m2.x,U O m2.y,U O m2.z,U O m2.h,U O m2.s]] (Im (Iz w2 d) os) λe fT=>e=AT (Ia (bT m m2))/\∃p:Regrown,fT=Im (Iz w2 p.d) p.os:=λd os=>Calls.regrown_of (gu m m2 _);have G:=xl.out.re;simp only[As,Nat.zero_add] at F G;have rI:∀o,w2.frozen? ⟨g,o,be⟩=false:=λo=>World.ownsRow.frozenAt iq.out o;have Va:Hid _:=rI;clear rI t0 t1 t2 t3 t4 t5;generalize EE:bT m m2=nw at *;have Kx:Hid _:=EE;clear EE;go_wp2_with fail;refine wp_region_quiet_below (by kernel_rfl) (by kernel_rfl) ?_;repeat(quiet_step (exact hN _ _))
      refine bM λdq jL ee=>?_;clear hN F G;cases nw
      .go_wp2_with fail
       go_roundw
       case rel=>
        have jy:∃o5:Nat,o5<=nl/\U O ((q:Int)+1)=U O o5/\Below w.heap.size w (Im (Iz w2 dq) jL)/\Hid (Own w.heap.size (Im (Iz w2 dq) jL) (J (AI ⟨g,0,be⟩) known.length c) (av (dG a b k) (l.take o5))):=⟨q+1,by omega,by go_num,bu.out.trans (ee.out.mono iv),by rw[HJ.out,df known m p true gj.out,if_pos rfl,Hm.out,if_neg (λh=>Bool.false_ne_true (Kx.out.symm.trans h))];exact iq.out.below ee.out⟩;first|exact jy|((repeat apply Exists.intro);exact⟨jy,rfl⟩)
       case measure=>simp[intOf];omega
      .generalize Im (Iz w2 dq) jL=w3 at *
       have ec:Hid (Own _ _ _ _):=iq.out.below ee.out;obtain⟨c0,c1,c2,c3,c4,c5⟩:=eE ec.out p hp;rw[Hm.out] at c0 c1 c2 c3 c4 c5;have lF:=(ec.out.lt g rfl).2;have rI:∀o,w3.frozen? ⟨g,o,be⟩=false:=λo=>World.ownsRow.frozenAt ec.out o;obtain⟨s0,s1,s2,s3,s4,s5⟩:w3.cell? ⟨wr.heap.size,0,be⟩=AI (Y m.node)/\w3.cell? ⟨wr.heap.size,1,be⟩=AI (U O m.x)/\w3.cell? ⟨wr.heap.size,2,be⟩=AI (U O m.y)/\w3.cell? ⟨wr.heap.size,3,be⟩=AI (U O m.z)/\w3.cell? ⟨wr.heap.size,4,be⟩=AI (U O m.h)/\w3.cell? ⟨wr.heap.size,5,be⟩=AI (U O m.s):=xl.out.eq (λo=>ee.out.cell (p:=⟨wr.heap.size,o,be⟩) B3);go_wp2_with fail;refine⟨⟨q+1,by omega,by go_num,?_,?_⟩,by simp[intOf];omega⟩
       .exact(((((((bu.out.trans (ee.out.mono iv)).setCell (p:=⟨g,p*6,be⟩) du.1 (Y m.node)).setCell (p:=⟨g,p*6+1,be⟩) du.1 (U O m.x)).setCell (p:=⟨g,p*6+2,be⟩) du.1 (U O m.y)).setCell (p:=⟨g,p*6+3,be⟩) du.1 (U O m.z)).setCell (p:=⟨g,p*6+4,be⟩) du.1 (U O m.h)).setCell (p:=⟨g,p*6+5,be⟩) du.1 (U O m.s))
       .rw[HJ.out,df known m p true gj.out,if_pos rfl,Hm.out,if_pos Kx.out]
        exact lK ec.out hp m
    .have EF:q=nl:=by omega
     subst EF;have ec:Hid (Own w.heap.size wr u7 (dG a b (k+1))):=by
      have h:=HO.out;rw[List.take_of_length_le (by rw[iu.out];exact Ic _)] at h;rw[oZ.out.step];exact h
     go_wp2_with fail;go_roundw
     case rel=>exact⟨k+1,by omega,by go_num,aR,ec⟩
     case measure=>simp[intOf];omega
  .have jY:k=2:=by omega
   subst jY;go_wp2_with fail;go_ret;exact⟨_,rfl,HO.out,aR⟩
end Wh
end Go.Proofs.YtfidhgjmifendaaGreatDoor
namespace Go.Proofs.YtfidhgjmifendaaGreatDoor
open Go.RowKit
def vB(wh:List Wh.bK)(x:Wh.bK):List Wh.bK:=if(wh.any λy=>decide (y.node=x.node))=true\/20<=wh.length then wh else Wh.aO wh x
def B4(wh l:List Wh.bK):List Wh.bK:=l.foldl vB wh
theorem Ky(wh l:List Wh.bK)(k:Nat)(hk:k<l.length):B4 wh (l.take (k+1))=vB (B4 wh (l.take k)) (l.getD k Wh.dm):=by
 unfold B4;rw[List.take_succ_eq_append_getElem hk,List.foldl_append];simp[Ip,If hk]
structure Wh.o6(wh:List Wh.bK):Prop where
 EH:Wh.bp wh
 len:wh.length<=20
 ok:∀m∈wh,m.ok
theorem EI{wh:List Wh.bK}{x:Wh.bK}(h:Wh.o6 wh)(hx:x.ok):Wh.o6 (vB wh x):=by
 unfold vB;split
 .exact h
 .rename_i hn
  have h2:=(Wh.lu wh x).2;exact⟨Wh.gq wh x h.EH,by omega,Wh.qo h.ok hx⟩
theorem zM{wh l:List Wh.bK}(h:Wh.o6 wh)(hl:∀m∈l,m.ok):Wh.o6 (B4 wh l):=by
 unfold B4;induction l generalizing wh with
 |nil=>exact h
 |cons x r ih=>exact ih (EI h (hl x (by simp))) (λm hm=>hl m (by simp[hm]))
theorem SE{wh:List Wh.bK}{x:Wh.bK}{p:Nat}{f:Bool}(hr:Wh.bp wh)(h:Wh.At wh x p f):(wh.any λy=>decide (y.node=x.node))=f:=by
 have ho:∀y:Wh.bK,Wh.ord y x=0↔y.node=x.node:=λy=>bQ _ _;cases f
 .rcases hh:(wh.any λy=>decide (y.node=x.node)) with _|_
  .rfl
  .obtain⟨y,hy,he⟩:=Qg.1 hh
   obtain⟨j,hj,rfl⟩:=IX hy;have he:wh[j].node=x.node:=by simpa using he
   have e:wh.getD j Wh.dm=wh[j]:=by simp[Ip,If hj]
   have h2:Wh.At wh x j true:=by
    refine⟨by omega,λi hi=>?_,λi hi hl=>?_,⟨λ_=>⟨hj,by rw[e];exact(ho _).2 he⟩,λ_=>rfl⟩⟩
    .have hp:=I3.1 hr i j (by omega) hj hi
     rw[show wh.getD i Wh.dm=wh[i]'(by omega) by simp[Ip,If (show i<wh.length by omega)]];show bR _ _<0;rw[<- he];exact hp
    .rw[show wh.getD i Wh.dm=wh[i]'hl by simp[Ip,If hl]]
     rcases Qm hi with h3|rfl
     .have hp:=I3.1 hr j i hj hl h3
      have sL:bR wh[j].node wh[i].node<0:=hp;have h4:0<bR wh[i].node wh[j].node:=by rw[nD];rw[fL] at sL;exact sL
      show 0<=bR wh[i].node x.node;rw[<- he];omega
     .show 0<=bR wh[j].node x.node
      rw[(bQ _ _).2 he];omega
   have:=(Wh.eN h h2).2;cases this
 .obtain⟨h1,h2⟩:=h.is.1 rfl
  rw[Qg];refine⟨wh[p],IJ h1,?_⟩;rw[show wh.getD p Wh.dm=wh[p] by simp[Ip,If h1]] at h2;simpa using(ho _).1 h2
theorem xS{B B' k k' n n':Nat}{T T':I5}{w:World}{v v':Value}{xs xs':List Value}(h:w.ownsRow B T k v n xs)(h':w.ownsRow B' T' k' v' n' xs')(hT:T≠T'):v.ownBlock=be\/v.ownBlock≠v'.ownBlock:=by
 rcases h.2 with⟨rfl,_⟩|⟨g,c,cur,rfl,_,hg,_⟩
 .exact .inl rfl
 .refine .inr λe=>?_
  rcases h'.2 with⟨rfl,_⟩|⟨g',c',dV,rfl,_,vj,_⟩
  .cases e
  .have:g=g':=by simpa[Jz] using e
   subst this;rw[hg] at vj;injection vj with e1;injection e1 with _ e2;exact hT e2
theorem eS{B k n b:Nat}{T T':I5}{w:World}{v:Value}{xs:List Value}{cs:Array Value}(h:w.ownsRow B T k v n xs)(hb:w.heap[b]?=AI (By cs T' (0,0)))(hT:T≠T'):v.ownBlock≠AI b:=by
 rcases h.2 with⟨rfl,_⟩|⟨g,c,cur,rfl,_,hg,_⟩
 .intro e;cases e
 .intro e
  have:g=b:=by simpa[Jz] using e
  subst this;rw[hg] at hb;injection hb with e1;injection e1 with _ e2;exact hT e2
theorem Wk.ins{L b:Nat}{W w1:World}{n:Nd}{vm vr vs vg vw v:Value}{l:List Wh.bK}(h1:W.heap[b]?=AI (By (dv n vm vr vs vg vw) 90 (0,0)))(h2:cP L W n vm vr vs vg vw)(h3:vm.ownBlock≠AI b/\vr.ownBlock≠AI b/\vs.ownBlock≠AI b/\vg.ownBlock≠AI b/\vw.ownBlock≠AI b)(h4:iw n)(hg:W.grownBy w1 vw.ownBlock)(ho:Wh.Own L w1 v l)(hl:∀m∈l,m.ok):Wk L (w1.setCell ⟨b,11,be⟩ v) b { n with wh:=l }:=by
 have aR:=(BY.1 h1).1;have aB:=(hg.block b aR (λe=>h3.2.2.2.2 e.symm)).trans h1;have hv:=eS ho aB (by decide);refine⟨vm,vr,vs,vg,v,IB (i:=11) aB v,⟨?_,?_,?_,?_,Iu ho hv _⟩,⟨h3.1,h3.2.1,h3.2.2.1,h3.2.2.2.1,hv⟩,⟨h4.ms,h4.rs,h4.sv,h4.gw,hl,h4.name,h4.aD⟩⟩
 .exact Iu (h2.ms.kept hg (xS h2.ms h2.wh (by decide))) h3.1 _
 .exact Iu (h2.rs.kept hg (xS h2.rs h2.wh (by decide))) h3.2.1 _
 .exact Iu (h2.sv.kept hg (xS h2.sv h2.wh (by decide))) h3.2.2.1 _
 .exact Iu (h2.gw.kept hg (xS h2.gw h2.wh (by decide))) h3.2.2.2.1 _
end Go.Proofs.YtfidhgjmifendaaGreatDoor
