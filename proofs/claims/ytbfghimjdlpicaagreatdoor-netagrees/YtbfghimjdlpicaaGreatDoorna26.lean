import Derived.Deep.AppendLies
import Derived.Test.YtbfghimjdlpicaaGreatDoorna14
set_option maxHeartbeats 12800000
set_option maxRecDepth 100000
open Option renaming none→be,some→AI
open Go renaming TypeId→Ja,heap_alloc_new→Ij
open Go.RowKit.Below renaming heap_setCell→I0,refl→Ib,heap_alloc→II
open Array renaming getElem?_eq_some_iff→BY
open Go.Obj renaming cells→By
open Go.Value renaming int→U,string→Y,slice→J,pointer→If,func→IQ
open Go.IntKind renaming i64→O
open Go.Proofs.Tryz renaming prog→AS,underlying3→IH
open Nat renaming le_refl→Ie,le_trans→Is
namespace Go.Proofs.YtbfghimjdlpicaaGreatDoor
open Go.RowKit
def aF(b:Nat):List Value->Nat->World->World
 |[],_,w=>w
 |x::r,j,w=>aF b r (j+1) (w.setCell ⟨b,j,be⟩ x)
theorem aU{B b:Nat}(hb:B<=b):∀(L:List Value) (j:Nat) {a w:World},Below B a w->Below B a (aF b L j w)
 |[],_,_,_,h=>h
 |_::r,j,_,_,h=>aU hb r (j+1) (h.setCell (p:=⟨b,j,be⟩) hb _)
theorem cP{base b n k:Nat}{T:Ja}{v:Value}{xs:List Value}(hb:b<base):∀(L:List Value) (j:Nat) {w:World},w.ownsRow base T k v n xs->(aF b L j w).ownsRow base T k v n xs
 |[],_,_,h=>h
 |_::r,j,_,h=>cP hb r (j+1) (ownsRow_setCell_below h hb _)
theorem bc{b c:Nat}(hc:c≠b):∀(L:List Value) (j:Nat) (w:World),(aF b L j w).heap[c]?=w.heap[c]?
 |[],_,_=>rfl
 |_::r,j,_=>(bc hc r (j+1) _).trans (I0 _ _ _ _ hc)
theorem gp(b:Nat):∀(L:List Value) (j:Nat) (w:World),(aF b L j w).heap.size=w.heap.size
 |[],_,_=>rfl
 |_::r,j,_=>(gp b r (j+1) _).trans (by simp[World.setCell])
theorem vA{base n k:Nat}{T:Ja}{w w':World}{v:Value}{xs:List Value}(h:w.ownsRow base T k v n xs)(hb:Below w.heap.size w w'):w'.ownsRow base T k v n xs:=by
 rcases h.2 with⟨rfl,h0⟩|⟨g,c,cur,rfl,eX,hg,gK,et,cE,bo⟩
 .exact⟨h.1,.inl ⟨rfl,h0⟩⟩
 .have aX:=(BY.1 hg).1
  exact⟨h.1,.inr ⟨g,c,cur,rfl,eX,(hb.block g aX).trans hg,gK,et,cE,bo⟩⟩
theorem dS(w:World):w.drew.heap=w.heap:=rfl
theorem yi{base n k:Nat}{T:Ja}{w:World}{v:Value}{xs:List Value}(h:w.ownsRow base T k v n xs):w.drew.ownsRow base T k v n xs:=h
theorem cQ{B:Nat}{a w:World}(h:Below B a w):Below B a w.drew:=⟨h.os,h.tape,h.output,h.size,h.block⟩
theorem bB{b:Nat}{T:Ja}{f:Nat×Nat}:∀(L pre Su:List Value) {w:World},w.heap[b]?=AI (By (pre++Su).toArray T f)->Su.length=L.length->(aF b L pre.length w).heap[b]?=AI (By (pre++L).toArray T f)
 |[],pre,Su,w,h,hl=>by
  have:Su=[]:=List.eq_nil_of_length_eq_zero (by simpa using hl)
  subst this;exact h
 |x::r,pre,[],w,h,hl=>absurd hl (by simp)
 |x::r,pre,y::s,w,h,hl=>by
  have h1:=Joins.block_setCell (i:=pre.length) h x;rw[List.setIfInBounds_toArray,show(pre++y::s).set pre.length x=(pre++[x])++s by simp] at h1;have h2:=bB r (pre++[x]) s h1 (by simpa using hl);rw[show(pre++[x]).length=pre.length+1 by simp,show(pre++[x])++r=pre++x::r by simp] at h2;exact h2
theorem mw{b:Nat}{w:World}{T:Ja}{f:Nat×Nat}{c0 c1 c2 c3 c4 c5 c6 c7 c8 c9 c10 c11:Value}(h:w.heap[b]?=AI (By #[c0,c1,c2,c3,c4,c5,c6,c7,c8,c9,c10,c11] T f))(x0 x1 x2 x3 x4 x5 x6 x7 x8 x9 x10 x11:Value):(aF b [x0,x1,x2,x3,x4,x5,x6,x7,x8,x9,x10,x11] 0 w).heap[b]?=AI (By #[x0,x1,x2,x3,x4,x5,x6,x7,x8,x9,x10,x11] T f):=bB [x0,x1,x2,x3,x4,x5,x6,x7,x8,x9,x10,x11] [] [c0,c1,c2,c3,c4,c5,c6,c7,c8,c9,c10,c11] h rfl
theorem rU{b:Nat}{w:World}{T:Ja}{f:Nat×Nat}{c0 c1 c2 c3 c4 c5:Value}(h:w.heap[b]?=AI (By #[c0,c1,c2,c3,c4,c5] T f))(x0 x1 x2 x3 x4 x5:Value):(aF b [x0,x1,x2,x3,x4,x5] 0 w).heap[b]?=AI (By #[x0,x1,x2,x3,x4,x5] T f):=bB [x0,x1,x2,x3,x4,x5] [] [c0,c1,c2,c3,c4,c5] h rfl
theorem Nj(w:World)(A B:Array Value)(S0 S1:Ja):∃W,W=(w.alloc (By A S0)).alloc (By B S1)/\Below w.heap.size w W/\W.heap.size=w.heap.size+2/\W.heap[w.heap.size]?=AI (By A S0 (0,0))/\W.heap[w.heap.size+1]?=AI (By B S1 (0,0)):=by
 obtain⟨W,e⟩:∃W,W=(w.alloc (By A S0)).alloc (By B S1):=⟨_,rfl⟩;exact⟨W,e,(by rw[e];exact((Ib _ _).alloc (by simp<;>omega) _).alloc (by simp<;>omega) _),(by rw[e];simp),(by
  have h:=Ij w (By A S0);rw[e,II _ _ _ (by simp<;>omega)];simpa using h),(by
  have h:=Ij (w.alloc (By A S0)) (By B S1);rw[e];simpa using h)⟩
theorem qN(w:World)(A B C:Array Value)(S0 S1 S2:Ja):∃W,W=((w.alloc (By A S0)).alloc (By B S1)).alloc (By C S2)/\Below w.heap.size w W/\W.heap.size=w.heap.size+3/\W.heap[w.heap.size]?=AI (By A S0 (0,0))/\W.heap[w.heap.size+1]?=AI (By B S1 (0,0))/\W.heap[w.heap.size+2]?=AI (By C S2 (0,0)):=by
 obtain⟨W,e⟩:∃W,W=((w.alloc (By A S0)).alloc (By B S1)).alloc (By C S2):=⟨_,rfl⟩;exact⟨W,e,(by rw[e];exact(((Ib _ _).alloc (by simp<;>omega) _).alloc (by simp<;>omega) _).alloc (by simp<;>omega) _),(by rw[e];simp),(by
  have h:=Ij w (By A S0);rw[e,II _ _ _ (by simp<;>omega),II _ _ _ (by simp<;>omega)];simpa using h),(by
  have h:=Ij (w.alloc (By A S0)) (By B S1);rw[e,II _ _ _ (by simp<;>omega)];simpa using h),(by
  have h:=Ij ((w.alloc (By A S0)).alloc (By B S1)) (By C S2);rw[e];simpa using h)⟩
theorem Xc(w:World)(A B C D:Array Value)(S0 S1 S2 S3:Ja):∃W,W=(((w.alloc (By A S0)).alloc (By B S1)).alloc (By C S2)).alloc (By D S3)/\Below w.heap.size w W/\W.heap.size=w.heap.size+4/\W.heap[w.heap.size]?=AI (By A S0 (0,0))/\W.heap[w.heap.size+1]?=AI (By B S1 (0,0))/\W.heap[w.heap.size+2]?=AI (By C S2 (0,0))/\W.heap[w.heap.size+3]?=AI (By D S3 (0,0)):=by
 obtain⟨W,e⟩:∃W,W=(((w.alloc (By A S0)).alloc (By B S1)).alloc (By C S2)).alloc (By D S3):=⟨_,rfl⟩;exact⟨W,e,(by rw[e];exact((((Ib _ _).alloc (by simp<;>omega) _).alloc (by simp<;>omega) _).alloc (by simp<;>omega) _).alloc (by simp<;>omega) _),(by rw[e];simp),(by
  have h:=Ij w (By A S0);rw[e,II _ _ _ (by simp<;>omega),II _ _ _ (by simp<;>omega),II _ _ _ (by simp<;>omega)];simpa using h),(by
  have h:=Ij (w.alloc (By A S0)) (By B S1);rw[e,II _ _ _ (by simp<;>omega),II _ _ _ (by simp<;>omega)];simpa using h),(by
  have h:=Ij ((w.alloc (By A S0)).alloc (By B S1)) (By C S2);rw[e,II _ _ _ (by simp<;>omega)];simpa using h),(by
  have h:=Ij (((w.alloc (By A S0)).alloc (By B S1)).alloc (By C S2)) (By D S3);rw[e];simpa using h)⟩
theorem Xd(w:World)(A B C D E:Array Value)(S0 S1 S2 S3 S4:Ja):∃W,W=((((w.alloc (By A S0)).alloc (By B S1)).alloc (By C S2)).alloc (By D S3)).alloc (By E S4)/\Below w.heap.size w W/\W.heap.size=w.heap.size+5/\W.heap[w.heap.size]?=AI (By A S0 (0,0))/\W.heap[w.heap.size+1]?=AI (By B S1 (0,0))/\W.heap[w.heap.size+2]?=AI (By C S2 (0,0))/\W.heap[w.heap.size+3]?=AI (By D S3 (0,0))/\W.heap[w.heap.size+4]?=AI (By E S4 (0,0)):=by
 obtain⟨W,e⟩:∃W,W=((((w.alloc (By A S0)).alloc (By B S1)).alloc (By C S2)).alloc (By D S3)).alloc (By E S4):=⟨_,rfl⟩;exact⟨W,e,(by rw[e];exact(((((Ib _ _).alloc (by simp<;>omega) _).alloc (by simp<;>omega) _).alloc (by simp<;>omega) _).alloc (by simp<;>omega) _).alloc (by simp<;>omega) _),(by rw[e];simp),(by
  have h:=Ij w (By A S0);rw[e,II _ _ _ (by simp<;>omega),II _ _ _ (by simp<;>omega),II _ _ _ (by simp<;>omega),II _ _ _ (by simp<;>omega)];simpa using h),(by
  have h:=Ij (w.alloc (By A S0)) (By B S1);rw[e,II _ _ _ (by simp<;>omega),II _ _ _ (by simp<;>omega),II _ _ _ (by simp<;>omega)];simpa using h),(by
  have h:=Ij ((w.alloc (By A S0)).alloc (By B S1)) (By C S2);rw[e,II _ _ _ (by simp<;>omega),II _ _ _ (by simp<;>omega)];simpa using h),(by
  have h:=Ij (((w.alloc (By A S0)).alloc (By B S1)).alloc (By C S2)) (By D S3);rw[e,II _ _ _ (by simp<;>omega)];simpa using h),(by
  have h:=Ij ((((w.alloc (By A S0)).alloc (By B S1)).alloc (By C S2)).alloc (By D S3)) (By E S4);rw[e];simpa using h)⟩
theorem Tryz.Xe:(Tryz.prog.info? 92).map (λi=>(i.zero,i.size,i.bytes))=AI (AI (.agg #[U O 0,Y ⟨#[]⟩]),2,24):=by kernel_rfl
structure Ev where
 kind:Int
 which:Int
 other:Int
 n:Int
 name:ByteArray
 p:Pl
 s:Sv.aV
def plA(un ul:Value)(v:Ev):Array Value:=#[un,ul,U O v.kind,U O v.which,U O v.other,U O v.n,Y v.name,U O v.p.x,U O v.p.y,U O v.p.z,U O v.p.h,U O v.p.s,Y v.s.node,Y v.s.bf,Y v.s.name,Y v.s.tag,U O v.s.addr,U O v.s.port,.bool v.s.af,U O v.s.version,.bool v.s.gone]
structure Mv(C:Nat)(w w':World):Prop where
 below:Below C w w'
 fN:∀(b:Nat) (cs:Array Value) (T:Ja) (f:Nat×Nat),w.heap[b]?=AI (By cs T f)->T≠92->T≠74->w'.heap[b]?=AI (By cs T f)
theorem Mv.of{C:Nat}{w w':World}(h:Below w.heap.size w w')(hC:C<=w.heap.size):Mv C w w':=⟨h.mono hC,λb _ _ _ hb _ _=>(h.block b (BY.1 hb).1).trans hb⟩
theorem Mv.trans{C:Nat}{w w' fR:World}(h:Mv C w w')(h':Mv C w' fR):Mv C w fR:=⟨h.below.trans h'.below,λb cs T f hb h1 h2=>h'.fN b cs T f (h.fN b cs T f hb h1 h2) h1 h2⟩
theorem eS{C:Nat}{T:Ja}{k n:Nat}{v:Value}{xs:List Value}{w w':World}(ho:w.ownsRow C T k v n xs)(hk:∀(b:Nat) (cs:Array Value) (f:Nat×Nat),w.heap[b]?=AI (By cs T f)->w'.heap[b]?=AI (By cs T f)):w'.ownsRow C T k v n xs:=by
 rcases ho.2 with⟨rfl,h0⟩|⟨b,c,cur,rfl,eX,hb,hr⟩
 .exact⟨ho.1,.inl ⟨rfl,h0⟩⟩
 .exact⟨ho.1,.inr ⟨b,c,cur,rfl,eX,hk _ _ _ hb,hr⟩⟩
theorem jx{C:Nat}{T:Ja}{k n:Nat}{v:Value}{xs:List Value}{w:World}(ho:w.ownsRow C T k v n xs){b:Nat}(e:v.ownBlock=AI b):C<=b/\∃cs,w.heap[b]?=AI (By cs T (0,0)):=by
 rcases ho.2 with⟨rfl,h0⟩|⟨b',c,cur,rfl,eX,hb,hr⟩
 .cases e
 .have:b'=b:=by simpa[Value.ownBlock] using e
  subst this;exact⟨eX,_,hb⟩
theorem aQ{C:Nat}{T:Ja}{k n:Nat}{v:Value}{xs:List Value}{w:World}(ho:w.ownsRow C T k v n xs):∃a c,v=J a n c:=by
 rcases ho.2 with⟨rfl,rfl⟩|⟨b',c,cur,rfl,_⟩
 .exact⟨be,0,rfl⟩
 .exact⟨_,c,rfl⟩
structure lU(C:Nat)(w:World)(g:Nat)(un ul:Value)(ls:List Lt.fy)(v:Ev):Prop where
 hg:w.heap[g]?=AI (By (plA un ul v) 74 (0,0))
 le:C<=g
 ls:Lt.Own C w ul ls
theorem lU.below{C:Nat}{w w':World}{g:Nat}{un ul:Value}{ls:List Lt.fy}{v:Ev}(h:lU C w g un ul ls v)(hb:Below w.heap.size w w'):lU C w' g un ul ls v:=
 ⟨(hb.block g (BY.1 h.hg).1).trans h.hg,h.le,eS h.ls (λb _ _ e=>(hb.block b (BY.1 e).1).trans e)⟩
theorem Xf{w:World}{g:Nat}{un ul x:Value}{v:Ev}(h:w.heap[g]?=AI (By (plA un ul v) 74 (0,0))):(w.setCell ⟨g,1,be⟩ x).heap[g]?=AI (By (plA un x v) 74 (0,0)):=Joins.block_setCell h x
theorem lU.turn{C g:Nat}{un ul x:Value}{ls ls':List Lt.fy}{v:Ev}{w w5:World}(h:lU C w g un ul ls v)(hb:Below C w w5)(hk:∀b,b<w.heap.size->ul.ownBlock≠AI b->w5.heap[b]?=w.heap[b]?)(hown:Lt.Own C w5 x ls'):Mv C w (w5.setCell ⟨g,1,be⟩ x)/\lU C (w5.setCell ⟨g,1,be⟩ x) g un x ls' v:=by
 have dv:=(BY.1 h.hg).1;have aP:ul.ownBlock≠AI g:=λe=>by
  obtain⟨_,cs,h2⟩:=jx h.ls e;rw[h.hg] at h2;simp at h2
 have h5:=(hk g dv aP).trans h.hg;refine⟨⟨hb.setCell (p:=⟨g,1,be⟩) h.le _,λb cs T f e h1 h2=>?_⟩,⟨Xf h5,h.le,eS hown (λb cs f e=>?_)⟩⟩
 .have eX:b≠g:=λe2=>by
   subst e2;rw[h.hg] at e;simp at e;exact h2 e.2.1.symm
  have aO:ul.ownBlock≠AI b:=λe2=>by
   obtain⟨_,cs2,h3⟩:=jx h.ls e2;rw[e] at h3;simp at h3;exact h1 h3.2.1
  rw[I0 _ _ _ _ eX];exact(hk b (BY.1 e).1 aO).trans e
 .have eX:b≠g:=λe2=>by
   subst e2;rw[h5] at e;simp at e
  rw[I0 _ _ _ _ eX];exact e
theorem Nk(C g:Nat)(un ul:Value)(ls:List Lt.fy)(v:Ev)(t_o:Int)(tx:ByteArray)(w:World)(h:lU C w g un ul ls v)(hC:C<=w.heap.size)(h20:ls.length<20) :
 Calls AS 124 #[If (AI ⟨g,0,be⟩),.agg #[U O t_o,Y tx]] w λe w'=>e=.returned (U O 0)/\Mv C w w'/\∃a k c,lU C w' g un (J a k c) (ls++[⟨t_o,tx⟩]) v:=by
 obtain⟨i0,fH,dt,gJ,gB⟩:=info_parts (Tryz.Xe);obtain⟨au,cu,Rg⟩:=aQ h.ls;subst Rg;have dv:=(BY.1 h.hg).1;obtain⟨X,hX⟩:∃X,X=w.alloc (By #[U O t_o,Y tx] 92):=⟨_,rfl⟩;have Sw:Below w.heap.size w X:=by rw[hX];exact(Ib _ _).alloc (Ie _) _
 have Vp:Hid (X.heap.size=w.heap.size+1):=by show _=_;rw[hX];simp
 have hx:X.heap[w.heap.size]?=AI (By #[U O t_o,Y tx] 92 (0,0)):=by rw[hX];exact Ij w _
 have x0:=ae hx 0;have x1:=ae hx 1;have hgX:=(Sw.block g dv).trans h.hg;have y1:X.cell? ⟨g,1,be⟩=AI (J au ls.length cu):=ae hgX 1;have HP:Hid (lU C w g un (J au ls.length cu) ls v):=h;have y1a:∀o,(X.alloc o).cell? ⟨g,1,be⟩=AI (J au ls.length cu):=λo=>(((Ib X.heap.size X).alloc (Ie _) o).cell (p:=⟨g,1,be⟩) (Nat.lt_of_lt_of_le dv Sw.size)).trans y1;have jF:Hid (Below w.heap.size w X):=Sw;have cL:X.ownsRow C 92 2 (J au ls.length cu) ls.length (Lt.fl ls):=eS h.ls (λb _ _ e=>(Sw.block b (BY.1 e).1).trans e);have Du:Hid ((Value.slice au ls.length cu).ownBlock≠AI g):=λe=>by
  obtain⟨_,cs,h2⟩:=jx h.ls e;rw[h.hg] at h2;simp at h2
 have HFL:Hid (Lt.fl (ls++[⟨t_o,tx⟩])=Lt.fl ls++[U O t_o,Y tx]):=by show _=_;rw[Lt.cU];rfl
 have hd:((ls.length:Int)==20)=false:=by simp;omega
 have pM:Hid (ls.length+1=(ls++[(⟨t_o,tx⟩:Lt.fy)]).length):=by show _=_;simp
 have h63:ls.length+1<=maxLen:=by unfold maxLen;omega
 have Nl:(ls.length+1)*24<=140737488355328:=by omega
 have HGX:Hid _:=hgX;clear h Sw hx hgX h20;generalize ls.length=m at *;go_enter Tryz.func124,Tryz.ntmps124;go_upto_region 1 with fail
 rw[<- hX];clear hX;go_wp2_with fail;go_region_law (refine step_append_lies _ (by rfl) _ _ _ (by rfl) C 92 i0 _ 2 24 Tryz.underlying25 fH dt gJ gB rfl (by omega) (J au m cu) m (Lt.fl ls) (by rfl) ((World.ownsRow.alloc cL _).drew) ⟨X.heap.size,0,be⟩ 1 1 [U O t_o,Y tx] (by rfl) (by rfl) (World.news_of_block (cs:=#[U O t_o,Y tx]) (t:=92) (fr:=(0,0)) (Ij X _)) (by simp[Value.oneCell']) (by omega) h63 Nl (by have:=Vp.out;simp<;>omega) (X.heap.size+1) (by simp) ?_;intro gg cap w5 Bx gI cA aX;have CF:w5.heap[g]?=AI (By (plA un (J au m cu) v) 74 (0,0)):=((gI.block g (by have:=Vp.out;simp<;>omega) (Ne.symm Du.out)).trans (II X _ _ (by have:=Vp.out;omega))).trans HGX.out;have z1:w5.cell? ⟨g,1,be⟩=AI (J au m cu):=ae CF 1;have zf:w5.frozen? ⟨g,1,be⟩=false:=(by simp[World.frozen?,CF]);have HR:Hid (Mv C w (w5.setCell ⟨g,1,be⟩ (J (AI ⟨gg,0,be⟩) (m+1) cap))/\lU C (w5.setCell ⟨g,1,be⟩ (J (AI ⟨gg,0,be⟩) (m+1) cap)) g un (J (AI ⟨gg,0,be⟩) (m+1) cap) (ls++[⟨t_o,tx⟩]) v):=lU.turn HP.out (((jF.out.alloc jF.out.size _).drew.mono hC).grown gI (by have:=Vp.out;simp<;>omega) (λk hk=>(jx HP.out.ls hk).1)) (λb aX aP=>(gI.block b (by have:=Vp.out;simp<;>omega) (Ne.symm aP)).trans ((II X _ _ (by have:=Vp.out;omega)).trans (jF.out.block b aX))) (by show World.ownsRow _ _ _ _ _ _ _;rw[<- pM.out,HFL.out];exact Bx);clear CF Bx gI cA aX)
 all_goals
  go_wp2_with fail;go_ret;exact⟨rfl,HR.out.1,_,_,_,HR.out.2⟩
theorem Xg(g nb o n cap j:Nat)(x0 x1:ByteArray)(a2 a3 a4 a5 a11:Option Addr)(n2 k2 n3 k3 n4 k4 n5 k5 n11 k11:Nat)(x6 x7 x8 x9 x10:Int)(w:World)(g0:w.cell? ⟨g,0,be⟩=AI (J (AI ⟨nb,o,be⟩) n cap))(g3:w.cell? ⟨g,3,be⟩=AI (U O (j:Int)))(hj:j<n)(c0:w.cell? ⟨nb,o+j*12,be⟩=AI (Y x0))(c1:w.cell? ⟨nb,o+j*12+1,be⟩=AI (Y x1))(c2:w.cell? ⟨nb,o+j*12+2,be⟩=AI (J a2 n2 k2))(c3:w.cell? ⟨nb,o+j*12+3,be⟩=AI (J a3 n3 k3))(c4:w.cell? ⟨nb,o+j*12+4,be⟩=AI (J a4 n4 k4))(c5:w.cell? ⟨nb,o+j*12+5,be⟩=AI (J a5 n5 k5))(c6:w.cell? ⟨nb,o+j*12+6,be⟩=AI (U O x6))(c7:w.cell? ⟨nb,o+j*12+7,be⟩=AI (U O x7))(c8:w.cell? ⟨nb,o+j*12+8,be⟩=AI (U O x8))(c9:w.cell? ⟨nb,o+j*12+9,be⟩=AI (U O x9))(c10:w.cell? ⟨nb,o+j*12+10,be⟩=AI (U O x10))(c11:w.cell? ⟨nb,o+j*12+11,be⟩=AI (J a11 n11 k11)) :
 Calls AS 80 #[If (AI ⟨g,0,be⟩)] w λe w'=>e=.returned (.agg #[Y x0,Y x1,J a2 n2 k2,J a3 n3 k3,J a4 n4 k4,J a5 n5 k5,U O x6,U O x7,U O x8,U O x9,U O x10,J a11 n11 k11])/\Below w.heap.size w w':=by
 have dv:g<w.heap.size:=World.block_lt_of_cell? w _ g0;have aO:nb<w.heap.size:=World.block_lt_of_cell? w _ c0;obtain⟨W0,bP,bK,-,dX⟩:=bV w #[Y ⟨#[]⟩,Y ⟨#[]⟩,J be 0 0,J be 0 0,J be 0 0,J be 0 0,U O 0,U O 0,U O 0,U O 0,U O 0,J be 0 0] 50;have Xh:w.heap.size≠g:=by omega
 have Xi:w.heap.size≠nb:=by omega
 have aX:(j:Int)<(n:Int):=by omega
 have AV:(0:Int)<=(j:Int):=by omega
 have Gp:((j:Int)).toNat=j:=by omega
 have e0:=(bK.cell (p:=⟨g,0,be⟩) dv).trans g0;have e3:=(bK.cell (p:=⟨g,3,be⟩) dv).trans g3;have d0:=(bK.cell (p:=⟨nb,o+j*12,be⟩) aO).trans c0;have d1:=(bK.cell (p:=⟨nb,o+j*12+1,be⟩) aO).trans c1;have d2:=(bK.cell (p:=⟨nb,o+j*12+2,be⟩) aO).trans c2;have d3:=(bK.cell (p:=⟨nb,o+j*12+3,be⟩) aO).trans c3;have d4:=(bK.cell (p:=⟨nb,o+j*12+4,be⟩) aO).trans c4;have d5:=(bK.cell (p:=⟨nb,o+j*12+5,be⟩) aO).trans c5;have d6:=(bK.cell (p:=⟨nb,o+j*12+6,be⟩) aO).trans c6;have d7:=(bK.cell (p:=⟨nb,o+j*12+7,be⟩) aO).trans c7;have d8:=(bK.cell (p:=⟨nb,o+j*12+8,be⟩) aO).trans c8;have d9:=(bK.cell (p:=⟨nb,o+j*12+9,be⟩) aO).trans c9;have d10:=(bK.cell (p:=⟨nb,o+j*12+10,be⟩) aO).trans c10;have d11:=(bK.cell (p:=⟨nb,o+j*12+11,be⟩) aO).trans c11;obtain⟨q0,q1,q2,q3,q4,q5,q6,q7,q8,q9,q10,q11⟩:=bQ dX;obtain⟨xX,xY,zd,ze,zh,zi,Fc,Fe,Ff,Fg,rH,rI⟩:=kR dX;obtain⟨W1,db⟩:∃W1,W1=World.drew (aF w.heap.size [Y x0,Y x1,J a2 n2 k2,J a3 n3 k3,J a4 n4 k4,J a5 n5 k5,U O x6,U O x7,U O x8,U O x9,U O x10,J a11 n11 k11] 0 W0):=⟨_,rfl⟩;have aC:Below w.heap.size w W1:=by rw[db];exact cQ (aU (Ie _) _ _ bK)
 have cI:W1.heap[w.heap.size]?=AI (By #[Y x0,Y x1,J a2 n2 k2,J a3 n3 k3,J a4 n4 k4,J a5 n5 k5,U O x6,U O x7,U O x8,U O x9,U O x10,J a11 n11 k11] 50 (0,0)):=by rw[db,dS];exact mw dX _ _ _ _ _ _ _ _ _ _ _ _
 obtain⟨r0,r1,r2,r3,r4,r5,r6,r7,r8,r9,r10,r11⟩:=bQ cI;have aZ:Hid _:=aC;clear bK dX aC cI dv aO g0 g3 c0 c1 c2 c3 c4 c5 c6 c7 c8 c9 c10 c11;go_enter Tryz.func80,Tryz.ntmps80;go_upto_region 1 with fail
 rw[<- bP];clear bP;go_region_held3 (λw'=>w'.cell? ⟨g,0,be⟩=AI (J (AI ⟨nb,o,be⟩) n cap)/\w'.cell? ⟨g,3,be⟩=AI (U O (j:Int))/\w'.cell? ⟨nb,o+j*12,be⟩=AI (Y x0)/\w'.cell? ⟨nb,o+j*12+1,be⟩=AI (Y x1)/\w'.cell? ⟨nb,o+j*12+2,be⟩=AI (J a2 n2 k2)/\w'.cell? ⟨nb,o+j*12+3,be⟩=AI (J a3 n3 k3)/\w'.cell? ⟨nb,o+j*12+4,be⟩=AI (J a4 n4 k4)/\w'.cell? ⟨nb,o+j*12+5,be⟩=AI (J a5 n5 k5)/\w'.cell? ⟨nb,o+j*12+6,be⟩=AI (U O x6)/\w'.cell? ⟨nb,o+j*12+7,be⟩=AI (U O x7)/\w'.cell? ⟨nb,o+j*12+8,be⟩=AI (U O x8)/\w'.cell? ⟨nb,o+j*12+9,be⟩=AI (U O x9)/\w'.cell? ⟨nb,o+j*12+10,be⟩=AI (U O x10)/\w'.cell? ⟨nb,o+j*12+11,be⟩=AI (J a11 n11 k11)) (simp only[World.cell?_setCell_far,World.cell?_drew,ne_eq,Xh,Xi,not_false_eq_true,e0,e3,d0,d1,d2,d3,d4,d5,d6,d7,d8,d9,d10,d11,and_self]) (fail)
 go_wp2_with fail;simp only[aF,Nat.zero_add,Nat.reduceAdd] at db;rw[<- db];clear db;exact bodyPost_ret (v:=.agg #[Y x0,Y x1,J a2 n2 k2,J a3 n3 k3,J a4 n4 k4,J a5 n5 k5,U O x6,U O x7,U O x8,U O x9,U O x10,J a11 n11 k11]) (by simp[results,Tryz.results80,go_sem,r0,r1,r2,r3,r4,r5,r6,r7,r8,r9,r10,r11]) rfl ⟨rfl,aZ.out⟩
end Go.Proofs.YtbfghimjdlpicaaGreatDoor
namespace Go.Proofs.YtbfghimjdlpicaaGreatDoor
open Go.RowKit Go.WideMaps Go.Maps
def Nn(v:Value):Option (DataW Value×List MemPlace):=AI (.held v,[])
def kI(k:Int):Lit:=.int .i64 k
theorem Np(k:Int):WideAt.IsKeyLit (kI k):=by simp[kI,WideAt.IsKeyLit]
theorem Vq{a b:Int}(h:a≠b):kI a≠kI b:=λe=>h (by simpa[kI] using e)
def wL:List (Int×Value)->Int->Option Value
 |[],_=>be
 |(a,v)::r,k=>if k=a then AI v else wL r k
def zC(w:World)(b n:Nat)(M:List (Int×Value)):Prop:=∃D:DataW Value,w.ownsMap AS 3 Nn b n D/\(∀k,has D (kI k)=(wL M k).isSome)/\∀k,D.atKey (kI k) (.held .nilFunc)=.held ((wL M k).getD .nilFunc)
theorem Vr:Keyed AS 3:=int_keyed IH
theorem Xj(w:World):(zeroValue 75).run AS w=.ok .nilFunc w:=by kernel_rfl
theorem Hv(w:World):zC (w.alloc (.map #[] 0)) w.heap.size 0 []:=⟨.map [],World.ownsMap_made w AS 3 Nn,λk=>by simp[has,wL],λk=>by simp[DataW.atKey,wL]⟩
theorem zC.look{w:World}{b n:Nat}{M:List (Int×Value)}(h:zC w b n M){k:Int}(hk:(Lit.int .i64 k).wf=true):(Instr.lookup 94 (.map (AI b)) (U O k) true).run AS w=.ok (.tuple #[(wL M k).getD .nilFunc,.bool (wL M k).isSome]) w:=by
 obtain⟨D,h1,h2,h3⟩:=h;obtain⟨v,ps,kO,hv⟩:=h1.look_ok Vr Tryz.underlying94 (Xj w) (show Nn .nilFunc=AI (.held .nilFunc,[]) from rfl) (keyOf_int_mk IH hk);have e:v=(wL M k).getD .nilFunc:=by
  have h4:(DataW.held v:DataW Value)=D.atKey (kI k) (.held .nilFunc):=by
   simp only[Nn,Option.some.injEq,Prod.mk.injEq] at hv;exact hv.1
  rw[h3 k] at h4;injection h4
 have e2:has D (.int O k)=(wL M k).isSome:=h2 k;rw[kO,e,e2]
theorem zC.put{w:World}{b n:Nat}{M:List (Int×Value)}(h:zC w b n M)(hn:n<maxLen){k:Int}(hk:(Lit.int .i64 k).wf=true)(v:Value):∃w',(Instr.mapUpdate 94 (.map (AI b)) (U O k) v).run AS w=.ok () w'/\zC w' b (n+1) ((k,v)::M)/\w.grownBy w' (AI b):=by
 obtain⟨D,h1,h2,h3⟩:=h;obtain⟨w',kO,ho,hg⟩:=h1.update Vr Tryz.underlying94 hn (keyOf_int_mk IH hk) (show Nn v=AI (.held v,[]) from rfl);refine⟨w',kO,⟨_,ho,λx=>?_,λx=>?_⟩,hg⟩
 .by_cases e:x=k
  .subst e
   rw[wL,if_pos rfl];exact has_put_same h1.isMap (Np _) _
  .rw[wL,if_neg e,<- h2 x]
   exact has_put_other (Vq e) _
 .by_cases e:x=k
  .subst e
   rw[wL,if_pos rfl];exact atKey_put_same h1.isMap (Np _) _ _
  .rw[wL,if_neg e,<- h3 x]
   exact atKey_put_other (Vq e) _ _
def vB(g pb:Nat):List (Int×Value):=[(12,IQ (.func 91) #[] #[If (AI ⟨pb,0,be⟩)]),(11,IQ (.func 89) #[] #[If (AI ⟨pb,0,be⟩)]),(10,IQ (.func 87) #[] #[If (AI ⟨pb,0,be⟩)]),(9,IQ (.func 85) #[] #[If (AI ⟨pb,0,be⟩)]),(8,IQ (.func 83) #[] #[If (AI ⟨pb,0,be⟩)]),(7,IQ (.func 81) #[] #[If (AI ⟨pb,0,be⟩)]),(6,IQ (.func 78) #[] #[If (AI ⟨pb,0,be⟩)]),(5,IQ (.func 77) #[If (AI ⟨g,0,be⟩)] #[]),(4,IQ (.func 76) #[If (AI ⟨g,0,be⟩)] #[]),(3,IQ (.func 75) #[If (AI ⟨g,0,be⟩)] #[]),(2,IQ (.func 74) #[If (AI ⟨g,0,be⟩)] #[]),(1,IQ (.func 73) #[If (AI ⟨g,0,be⟩)] #[])]
theorem lg(g:Nat)(w:World) :
 Calls AS 41 #[If (AI ⟨g,0,be⟩)] w λe w'=>e=.returned (.map (AI (w.heap.size+1)))/\zC w' (w.heap.size+1) 12 (vB g w.heap.size)/\w'.heap[w.heap.size]?=AI (By #[If (AI ⟨g,0,be⟩)] 71 (0,0))/\Below w.heap.size w w':=by
 obtain⟨W0,bP⟩:∃W0,W0=(w.alloc (By #[If (AI ⟨g,0,be⟩)] 71)).alloc (.map #[] 0):=⟨_,rfl⟩;have bK:Below w.heap.size w W0:=by rw[bP];exact((Ib _ _).alloc (Ie _) _).alloc (by simp) _
 have k0:W0.heap[w.heap.size]?=AI (By #[If (AI ⟨g,0,be⟩)] 71 (0,0)):=by
  rw[bP];exact(Lib.alloc_old _ _ _ (by simp)).trans (Ij w _)
 have fj:w.heap.size+2<=W0.heap.size:=by rw[bP];simp
 have m0:zC W0 (w.heap.size+1) 0 []:=by
  have:=Hv (w.alloc (By #[If (AI ⟨g,0,be⟩)] 71));rw[bP];simpa using this
 obtain⟨w1,r1,m1,g1⟩:=m0.put (by decide) (k:=1) (by decide) (IQ (.func 73) #[If (AI ⟨g,0,be⟩)] #[]);have fO:=Is fj g1.size;have k1:=(g1.block _ (by omega) (by simp)).trans k0;have aC:=bK.grown g1 (by omega) (λq hq=>by cases hq;omega);obtain⟨w2,r2,m2,g2⟩:=m1.put (by decide) (k:=2) (by decide) (IQ (.func 74) #[If (AI ⟨g,0,be⟩)] #[]);have jb:=Is fO g2.size;have k2:=(g2.block _ (by omega) (by simp)).trans k1;have aL:=aC.grown g2 (by omega) (λq hq=>by cases hq;omega);obtain⟨w3,r3,m3,g3⟩:=m2.put (by decide) (k:=3) (by decide) (IQ (.func 75) #[If (AI ⟨g,0,be⟩)] #[]);have tR:=Is jb g3.size;have k3:=(g3.block _ (by omega) (by simp)).trans k2;have bY:=aL.grown g3 (by omega) (λq hq=>by cases hq;omega);obtain⟨w4,r4,m4,g4⟩:=m3.put (by decide) (k:=4) (by decide) (IQ (.func 76) #[If (AI ⟨g,0,be⟩)] #[]);have Bc:=Is tR g4.size;have k4:=(g4.block _ (by omega) (by simp)).trans k3;have eV:=bY.grown g4 (by omega) (λq hq=>by cases hq;omega);obtain⟨w5,r5,m5,g5⟩:=m4.put (by decide) (k:=5) (by decide) (IQ (.func 77) #[If (AI ⟨g,0,be⟩)] #[]);have MD:=Is Bc g5.size;have k5:=(g5.block _ (by omega) (by simp)).trans k4;have j9:=eV.grown g5 (by omega) (λq hq=>by cases hq;omega);obtain⟨w6,r6,m6,g6⟩:=m5.put (by decide) (k:=6) (by decide) (IQ (.func 78) #[] #[If (AI ⟨w.heap.size,0,be⟩)]);have hs6:=Is MD g6.size;have k6:=(g6.block _ (by omega) (by simp)).trans k5;have tN:=j9.grown g6 (by omega) (λq hq=>by cases hq;omega);obtain⟨w7,r7,m7,g7⟩:=m6.put (by decide) (k:=7) (by decide) (IQ (.func 81) #[] #[If (AI ⟨w.heap.size,0,be⟩)]);have Ve:=Is hs6 g7.size;have k7:=(g7.block _ (by omega) (by simp)).trans k6;have Lw:=tN.grown g7 (by omega) (λq hq=>by cases hq;omega);obtain⟨w8,r8,m8,g8⟩:=m7.put (by decide) (k:=8) (by decide) (IQ (.func 83) #[] #[If (AI ⟨w.heap.size,0,be⟩)]);have hs8:=Is Ve g8.size;have k8:=(g8.block _ (by omega) (by simp)).trans k7;have hb8:=Lw.grown g8 (by omega) (λq hq=>by cases hq;omega);obtain⟨w9,r9,m9,g9⟩:=m8.put (by decide) (k:=9) (by decide) (IQ (.func 85) #[] #[If (AI ⟨w.heap.size,0,be⟩)]);have hs9:=Is hs8 g9.size;have k9:=(g9.block _ (by omega) (by simp)).trans k8;have Bb:=hb8.grown g9 (by omega) (λq hq=>by cases hq;omega);obtain⟨w10,r10,m10,g10⟩:=m9.put (by decide) (k:=10) (by decide) (IQ (.func 87) #[] #[If (AI ⟨w.heap.size,0,be⟩)]);have aci:=Is hs9 g10.size;have k10:=(g10.block _ (by omega) (by simp)).trans k9;have acj:=Bb.grown g10 (by omega) (λq hq=>by cases hq;omega);obtain⟨w11,r11,m11,g11⟩:=m10.put (by decide) (k:=11) (by decide) (IQ (.func 89) #[] #[If (AI ⟨w.heap.size,0,be⟩)]);have ack:=Is aci g11.size;have k11:=(g11.block _ (by omega) (by simp)).trans k10;have acm:=acj.grown g11 (by omega) (λq hq=>by cases hq;omega);obtain⟨w12,r12,m12,g12⟩:=m11.put (by decide) (k:=12) (by decide) (IQ (.func 91) #[] #[If (AI ⟨w.heap.size,0,be⟩)]);have ah4:=Is ack g12.size;have k12:=(g12.block _ (by omega) (by simp)).trans k11;have Hw:=acm.grown g12 (by omega) (λq hq=>by cases hq;omega);have iO:Hid (zC w12 (w.heap.size+1) 12 (vB g w.heap.size)/\w12.heap[w.heap.size]?=AI (By #[If (AI ⟨g,0,be⟩)] 71 (0,0))/\Below w.heap.size w w12):=⟨m12,k12,Hw⟩;have c0:=ae k0 0;have c1:=ae k1 0;have c2:=ae k2 0;have c3:=ae k3 0;have c4:=ae k4 0;clear m0 k0 bK fj m1 k1 aC fO m2 k2 aL jb m3 k3 bY tR m4 k4 eV Bc m5 k5 j9 MD m6 k6 tN hs6 m7 k7 Lw Ve m8 k8 hb8 hs8 m9 k9 Bb hs9 m10 k10 acj aci m11 k11 acm ack m12 k12 Hw ah4 g1 g2 g3 g4 g5 g6 g7 g8 g9 g10 g11 g12;have CC := @run_makeMap AS;subst bP;go_enter Tryz.func41,Tryz.ntmps41;go_wp2_with fail;go_ret;exact⟨rfl,iO.out⟩
end Go.Proofs.YtbfghimjdlpicaaGreatDoor
