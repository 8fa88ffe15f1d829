import Derived.Test.YtfidhgjmifendaaGreatDoornt6
import Derived.Deep.AppendLies
set_option maxHeartbeats 6400000
set_option maxRecDepth 100000
open Option renaming none→be,some→AI
open Go renaming TypeId→I4,heap_alloc_new→Ih
open Go.RowKit.Below renaming heap_setCell→IX,refl→Ib,heap_alloc→IE
open Array renaming getElem?_eq_some_iff→BY
open Go.Obj renaming cells→AT
open Go.Value renaming int→U,string→Y,slice→J
open Go.IntKind renaming i64→O
namespace Go.Proofs.YtfidhgjmifendaaGreatDoor
open Go.RowKit
def aC(b:Nat):List Value->Nat->World->World
 |[],_,w=>w
 |x::r,j,w=>aC b r (j+1) (w.setCell ⟨b,j,be⟩ x)
theorem aQ{B b:Nat}(hb:B<=b):∀(L:List Value) (j:Nat) {a w:World},Below B a w->Below B a (aC b L j w)
 |[],_,_,_,h=>h
 |_::r,j,_,_,h=>aQ hb r (j+1) (h.setCell (p:=⟨b,j,be⟩) hb _)
theorem cC{base b n k:Nat}{T:I4}{v:Value}{xs:List Value}(hb:b<base):∀(L:List Value) (j:Nat) {w:World},w.ownsRow base T k v n xs->(aC b L j w).ownsRow base T k v n xs
 |[],_,_,h=>h
 |_::r,j,_,h=>cC hb r (j+1) (ownsRow_setCell_below h hb _)
theorem aX{b c:Nat}(hc:c≠b):∀(L:List Value) (j:Nat) (w:World),(aC b L j w).heap[c]?=w.heap[c]?
 |[],_,_=>rfl
 |_::r,j,_=>(aX hc r (j+1) _).trans (IX _ _ _ _ hc)
theorem fe(b:Nat):∀(L:List Value) (j:Nat) (w:World),(aC b L j w).heap.size=w.heap.size
 |[],_,_=>rfl
 |_::r,j,_=>(fe b r (j+1) _).trans (by simp[World.setCell])
theorem sM{base n k:Nat}{T:I4}{w w':World}{v:Value}{xs:List Value}(h:w.ownsRow base T k v n xs)(hb:Below w.heap.size w w'):w'.ownsRow base T k v n xs:=by
 rcases h.2 with⟨rfl,h0⟩|⟨g,c,cur,rfl,ev,hg,fG,dO,b9,bf⟩
 .exact⟨h.1,.inl ⟨rfl,h0⟩⟩
 .have aW:=(BY.1 hg).1
  exact⟨h.1,.inr ⟨g,c,cur,rfl,ev,(hb.block g aW).trans hg,fG,dO,b9,bf⟩⟩
theorem dB(w:World):w.drew.heap=w.heap:=rfl
theorem vC{base n k:Nat}{T:I4}{w:World}{v:Value}{xs:List Value}(h:w.ownsRow base T k v n xs):w.drew.ownsRow base T k v n xs:=h
theorem cD{B:Nat}{a w:World}(h:Below B a w):Below B a w.drew:=⟨h.os,h.tape,h.output,h.size,h.block⟩
theorem bC{b:Nat}{T:I4}{f:Nat×Nat}:∀(L pre Ma:List Value) {w:World},w.heap[b]?=AI (AT (pre++Ma).toArray T f)->Ma.length=L.length->(aC b L pre.length w).heap[b]?=AI (AT (pre++L).toArray T f)
 |[],pre,Ma,w,h,hl=>by
  have:Ma=[]:=List.eq_nil_of_length_eq_zero (by simpa using hl)
  subst this;exact h
 |x::r,pre,[],w,h,hl=>absurd hl (by simp)
 |x::r,pre,y::s,w,h,hl=>by
  have h1:=Joins.block_setCell (i:=pre.length) h x;rw[List.setIfInBounds_toArray,show(pre++y::s).set pre.length x=(pre++[x])++s by simp] at h1;have h2:=bC r (pre++[x]) s h1 (by simpa using hl);rw[show(pre++[x]).length=pre.length+1 by simp,show(pre++[x])++r=pre++x::r by simp] at h2;exact h2
theorem kO{b:Nat}{w:World}{T:I4}{f:Nat×Nat}{c0 c1 c2 c3 c4 c5 c6 c7 c8 c9 c10 c11:Value}(h:w.heap[b]?=AI (AT #[c0,c1,c2,c3,c4,c5,c6,c7,c8,c9,c10,c11] T f))(x0 x1 x2 x3 x4 x5 x6 x7 x8 x9 x10 x11:Value):(aC b [x0,x1,x2,x3,x4,x5,x6,x7,x8,x9,x10,x11] 0 w).heap[b]?=AI (AT #[x0,x1,x2,x3,x4,x5,x6,x7,x8,x9,x10,x11] T f):=bC [x0,x1,x2,x3,x4,x5,x6,x7,x8,x9,x10,x11] [] [c0,c1,c2,c3,c4,c5,c6,c7,c8,c9,c10,c11] h rfl
theorem o6{b:Nat}{w:World}{T:I4}{f:Nat×Nat}{c0 c1 c2 c3 c4 c5:Value}(h:w.heap[b]?=AI (AT #[c0,c1,c2,c3,c4,c5] T f))(x0 x1 x2 x3 x4 x5:Value):(aC b [x0,x1,x2,x3,x4,x5] 0 w).heap[b]?=AI (AT #[x0,x1,x2,x3,x4,x5] T f):=bC [x0,x1,x2,x3,x4,x5] [] [c0,c1,c2,c3,c4,c5] h rfl
theorem GM(w:World)(A B:Array Value)(S0 S1:I4):∃W,W=(w.alloc (AT A S0)).alloc (AT B S1)/\Below w.heap.size w W/\W.heap.size=w.heap.size+2/\W.heap[w.heap.size]?=AI (AT A S0 (0,0))/\W.heap[w.heap.size+1]?=AI (AT B S1 (0,0)):=by
 obtain⟨W,e⟩:∃W,W=(w.alloc (AT A S0)).alloc (AT B S1):=⟨_,rfl⟩;exact⟨W,e,(by rw[e];exact((Ib _ _).alloc (by simp<;>omega) _).alloc (by simp<;>omega) _),(by rw[e];simp),(by
  have h:=Ih w (AT A S0);rw[e,IE _ _ _ (by simp<;>omega)];simpa using h),(by
  have h:=Ih (w.alloc (AT A S0)) (AT B S1);rw[e];simpa using h)⟩
theorem oe(w:World)(A B C:Array Value)(S0 S1 S2:I4):∃W,W=((w.alloc (AT A S0)).alloc (AT B S1)).alloc (AT C S2)/\Below w.heap.size w W/\W.heap.size=w.heap.size+3/\W.heap[w.heap.size]?=AI (AT A S0 (0,0))/\W.heap[w.heap.size+1]?=AI (AT B S1 (0,0))/\W.heap[w.heap.size+2]?=AI (AT C S2 (0,0)):=by
 obtain⟨W,e⟩:∃W,W=((w.alloc (AT A S0)).alloc (AT B S1)).alloc (AT C S2):=⟨_,rfl⟩;exact⟨W,e,(by rw[e];exact(((Ib _ _).alloc (by simp<;>omega) _).alloc (by simp<;>omega) _).alloc (by simp<;>omega) _),(by rw[e];simp),(by
  have h:=Ih w (AT A S0);rw[e,IE _ _ _ (by simp<;>omega),IE _ _ _ (by simp<;>omega)];simpa using h),(by
  have h:=Ih (w.alloc (AT A S0)) (AT B S1);rw[e,IE _ _ _ (by simp<;>omega)];simpa using h),(by
  have h:=Ih ((w.alloc (AT A S0)).alloc (AT B S1)) (AT C S2);rw[e];simpa using h)⟩
theorem Rr(w:World)(A B C D:Array Value)(S0 S1 S2 S3:I4):∃W,W=(((w.alloc (AT A S0)).alloc (AT B S1)).alloc (AT C S2)).alloc (AT D S3)/\Below w.heap.size w W/\W.heap.size=w.heap.size+4/\W.heap[w.heap.size]?=AI (AT A S0 (0,0))/\W.heap[w.heap.size+1]?=AI (AT B S1 (0,0))/\W.heap[w.heap.size+2]?=AI (AT C S2 (0,0))/\W.heap[w.heap.size+3]?=AI (AT D S3 (0,0)):=by
 obtain⟨W,e⟩:∃W,W=(((w.alloc (AT A S0)).alloc (AT B S1)).alloc (AT C S2)).alloc (AT D S3):=⟨_,rfl⟩;exact⟨W,e,(by rw[e];exact((((Ib _ _).alloc (by simp<;>omega) _).alloc (by simp<;>omega) _).alloc (by simp<;>omega) _).alloc (by simp<;>omega) _),(by rw[e];simp),(by
  have h:=Ih w (AT A S0);rw[e,IE _ _ _ (by simp<;>omega),IE _ _ _ (by simp<;>omega),IE _ _ _ (by simp<;>omega)];simpa using h),(by
  have h:=Ih (w.alloc (AT A S0)) (AT B S1);rw[e,IE _ _ _ (by simp<;>omega),IE _ _ _ (by simp<;>omega)];simpa using h),(by
  have h:=Ih ((w.alloc (AT A S0)).alloc (AT B S1)) (AT C S2);rw[e,IE _ _ _ (by simp<;>omega)];simpa using h),(by
  have h:=Ih (((w.alloc (AT A S0)).alloc (AT B S1)).alloc (AT C S2)) (AT D S3);rw[e];simpa using h)⟩
theorem Rt(w:World)(A B C D E:Array Value)(S0 S1 S2 S3 S4:I4):∃W,W=((((w.alloc (AT A S0)).alloc (AT B S1)).alloc (AT C S2)).alloc (AT D S3)).alloc (AT E S4)/\Below w.heap.size w W/\W.heap.size=w.heap.size+5/\W.heap[w.heap.size]?=AI (AT A S0 (0,0))/\W.heap[w.heap.size+1]?=AI (AT B S1 (0,0))/\W.heap[w.heap.size+2]?=AI (AT C S2 (0,0))/\W.heap[w.heap.size+3]?=AI (AT D S3 (0,0))/\W.heap[w.heap.size+4]?=AI (AT E S4 (0,0)):=by
 obtain⟨W,e⟩:∃W,W=((((w.alloc (AT A S0)).alloc (AT B S1)).alloc (AT C S2)).alloc (AT D S3)).alloc (AT E S4):=⟨_,rfl⟩;exact⟨W,e,(by rw[e];exact(((((Ib _ _).alloc (by simp<;>omega) _).alloc (by simp<;>omega) _).alloc (by simp<;>omega) _).alloc (by simp<;>omega) _).alloc (by simp<;>omega) _),(by rw[e];simp),(by
  have h:=Ih w (AT A S0);rw[e,IE _ _ _ (by simp<;>omega),IE _ _ _ (by simp<;>omega),IE _ _ _ (by simp<;>omega),IE _ _ _ (by simp<;>omega)];simpa using h),(by
  have h:=Ih (w.alloc (AT A S0)) (AT B S1);rw[e,IE _ _ _ (by simp<;>omega),IE _ _ _ (by simp<;>omega),IE _ _ _ (by simp<;>omega)];simpa using h),(by
  have h:=Ih ((w.alloc (AT A S0)).alloc (AT B S1)) (AT C S2);rw[e,IE _ _ _ (by simp<;>omega),IE _ _ _ (by simp<;>omega)];simpa using h),(by
  have h:=Ih (((w.alloc (AT A S0)).alloc (AT B S1)).alloc (AT C S2)) (AT D S3);rw[e,IE _ _ _ (by simp<;>omega)];simpa using h),(by
  have h:=Ih ((((w.alloc (AT A S0)).alloc (AT B S1)).alloc (AT C S2)).alloc (AT D S3)) (AT E S4);rw[e];simpa using h)⟩
theorem Tryz.Ru:(Tryz.prog.info? 102).map (λi=>(i.zero,i.size,i.bytes))=AI (AI (.agg #[U O 0,Y ⟨#[]⟩]),2,24):=by kernel_rfl
structure Ev where
 kind:Int
 which:Int
 other:Int
 n:Int
 name:ByteArray
 p:Pl
 s:Sv.aT
def TJ(un ul:Value)(v:Ev):Array Value:=#[un,ul,U O v.kind,U O v.which,U O v.other,U O v.n,Y v.name,U O v.p.x,U O v.p.y,U O v.p.z,U O v.p.h,U O v.p.s,Y v.s.node,Y v.s.bu,Y v.s.name,Y v.s.tag,U O v.s.addr,U O v.s.port,.bool v.s.aj,U O v.s.version,.bool v.s.gone]
structure Mv(C:Nat)(w w':World):Prop where
 below:Below C w w'
 fa:∀(b:Nat) (cs:Array Value) (T:I4) (f:Nat×Nat),w.heap[b]?=AI (AT cs T f)->T≠102->T≠72->w'.heap[b]?=AI (AT cs T f)
theorem Mv.of{C:Nat}{w w':World}(h:Below w.heap.size w w')(hC:C<=w.heap.size):Mv C w w':=⟨h.mono hC,λb _ _ _ hb _ _=>(h.block b (BY.1 hb).1).trans hb⟩
theorem Mv.trans{C:Nat}{w w' gD:World}(h:Mv C w w')(h':Mv C w' gD):Mv C w gD:=⟨h.below.trans h'.below,λb cs T f hb h1 h2=>h'.fa b cs T f (h.fa b cs T f hb h1 h2) h1 h2⟩
theorem ek{C:Nat}{T:I4}{k n:Nat}{v:Value}{xs:List Value}{w w':World}(ho:w.ownsRow C T k v n xs)(hk:∀(b:Nat) (cs:Array Value) (f:Nat×Nat),w.heap[b]?=AI (AT cs T f)->w'.heap[b]?=AI (AT cs T f)):w'.ownsRow C T k v n xs:=by
 rcases ho.2 with⟨rfl,h0⟩|⟨b,c,cur,rfl,ev,hb,hr⟩
 .exact⟨ho.1,.inl ⟨rfl,h0⟩⟩
 .exact⟨ho.1,.inr ⟨b,c,cur,rfl,ev,hk _ _ _ hb,hr⟩⟩
theorem ij{C:Nat}{T:I4}{k n:Nat}{v:Value}{xs:List Value}{w:World}(ho:w.ownsRow C T k v n xs){b:Nat}(e:v.ownBlock=AI b):C<=b/\∃cs,w.heap[b]?=AI (AT cs T (0,0)):=by
 rcases ho.2 with⟨rfl,h0⟩|⟨b',c,cur,rfl,ev,hb,hr⟩
 .cases e
 .have:b'=b:=by simpa[Value.ownBlock] using e
  subst this;exact⟨ev,_,hb⟩
theorem aK{C:Nat}{T:I4}{k n:Nat}{v:Value}{xs:List Value}{w:World}(ho:w.ownsRow C T k v n xs):∃a c,v=J a n c:=by
 rcases ho.2 with⟨rfl,rfl⟩|⟨b',c,cur,rfl,_⟩
 .exact⟨be,0,rfl⟩
 .exact⟨_,c,rfl⟩
structure kA(C:Nat)(w:World)(g:Nat)(un ul:Value)(ls:List Lt.fb)(v:Ev):Prop where
 hg:w.heap[g]?=AI (AT (TJ un ul v) 72 (0,0))
 le:C<=g
 ls:Lt.Own C w ul ls
theorem kA.below{C:Nat}{w w':World}{g:Nat}{un ul:Value}{ls:List Lt.fb}{v:Ev}(h:kA C w g un ul ls v)(hb:Below w.heap.size w w'):kA C w' g un ul ls v:=
 ⟨(hb.block g (BY.1 h.hg).1).trans h.hg,h.le,ek h.ls (λb _ _ e=>(hb.block b (BY.1 e).1).trans e)⟩
theorem Rw{w:World}{g:Nat}{un ul x:Value}{v:Ev}(h:w.heap[g]?=AI (AT (TJ un ul v) 72 (0,0))):(w.setCell ⟨g,1,be⟩ x).heap[g]?=AI (AT (TJ un x v) 72 (0,0)):=Joins.block_setCell h x
theorem kA.turn{C g:Nat}{un ul x:Value}{ls ls':List Lt.fb}{v:Ev}{w w5:World}(h:kA C w g un ul ls v)(hb:Below C w w5)(hk:∀b,b<w.heap.size->ul.ownBlock≠AI b->w5.heap[b]?=w.heap[b]?)(hown:Lt.Own C w5 x ls'):Mv C w (w5.setCell ⟨g,1,be⟩ x)/\kA C (w5.setCell ⟨g,1,be⟩ x) g un x ls' v:=by
 have dn:=(BY.1 h.hg).1;have aM:ul.ownBlock≠AI g:=λe=>by
  obtain⟨_,cs,h2⟩:=ij h.ls e;rw[h.hg] at h2;simp at h2
 have h5:=(hk g dn aM).trans h.hg;refine⟨⟨hb.setCell (p:=⟨g,1,be⟩) h.le _,λb cs T f e h1 h2=>?_⟩,⟨Rw h5,h.le,ek hown (λb cs f e=>?_)⟩⟩
 .have ev:b≠g:=λe2=>by
   subst e2;rw[h.hg] at e;simp at e;exact h2 e.2.1.symm
  have aN:ul.ownBlock≠AI b:=λe2=>by
   obtain⟨_,cs2,h3⟩:=ij h.ls e2;rw[e] at h3;simp at h3;exact h1 h3.2.1
  rw[IX _ _ _ _ ev];exact(hk b (BY.1 e).1 aN).trans e
 .have ev:b≠g:=λe2=>by
   subst e2;rw[h5] at e;simp at e
  rw[IX _ _ _ _ ev];exact e
theorem GN(C g:Nat)(un ul:Value)(ls:List Lt.fb)(v:Ev)(to:Int)(tx:ByteArray)(w:World)(h:kA C w g un ul ls v)(hC:C<=w.heap.size)(h20:ls.length<20) :
 Calls Tryz.prog 143 #[.pointer (AI ⟨g,0,be⟩),.agg #[U O to,Y tx]] w λe w'=>e=.returned (U O 0)/\Mv C w w'/\∃a k c,kA C w' g un (J a k c) (ls++[⟨to,tx⟩]) v:=by
 obtain⟨i0,fL,dh,gW,gG⟩:=info_parts (Tryz.Ru);obtain⟨au,cu,LB⟩:=aK h.ls;subst LB;have dn:=(BY.1 h.hg).1;obtain⟨X,hX⟩:∃X,X=w.alloc (AT #[U O to,Y tx] 102):=⟨_,rfl⟩;have Mb:Below w.heap.size w X:=by rw[hX];exact(Ib _ _).alloc (Nat.le_refl _) _
 have Pj:Hid (X.heap.size=w.heap.size+1):=by show _=_;rw[hX];simp
 have hx:X.heap[w.heap.size]?=AI (AT #[U O to,Y tx] 102 (0,0)):=by rw[hX];exact Ih w _
 have x0:=ae hx 0;have x1:=ae hx 1;have hgX:=(Mb.block g dn).trans h.hg;have y1:X.cell? ⟨g,1,be⟩=AI (J au ls.length cu):=ae hgX 1;have HP:Hid (kA C w g un (J au ls.length cu) ls v):=h;have y1a:∀o,(X.alloc o).cell? ⟨g,1,be⟩=AI (J au ls.length cu):=λo=>(((Ib X.heap.size X).alloc (Nat.le_refl _) o).cell (p:=⟨g,1,be⟩) (Nat.lt_of_lt_of_le dn Mb.size)).trans y1;have o7:Hid (Below w.heap.size w X):=Mb;have cQ:X.ownsRow C 102 2 (J au ls.length cu) ls.length (Lt.fl ls):=ek h.ls (λb _ _ e=>(Mb.block b (BY.1 e).1).trans e);have LC:Hid ((Value.slice au ls.length cu).ownBlock≠AI g):=λe=>by
  obtain⟨_,cs,h2⟩:=ij h.ls e;rw[h.hg] at h2;simp at h2
 have HFL:Hid (Lt.fl (ls++[⟨to,tx⟩])=Lt.fl ls++[U O to,Y tx]):=by show _=_;rw[Lt.cG];rfl
 have hd:((ls.length:Int)==20)=false:=by simp;omega
 have o8:Hid (ls.length+1=(ls++[(⟨to,tx⟩:Lt.fb)]).length):=by show _=_;simp
 have h63:ls.length+1<=maxLen:=by unfold maxLen;omega
 have GO:(ls.length+1)*24<=140737488355328:=by omega
 have HGX:Hid _:=hgX;clear h Mb hx hgX h20;generalize ls.length=m at *;go_enter Tryz.func143,Tryz.ntmps143;go_upto_region 1 with fail
 rw[<- hX];clear hX;go_wp2_with fail;go_region_law (refine step_append_lies _ (by rfl) _ _ _ (by rfl) C 102 i0 _ 2 24 Tryz.underlying25 fL dh gW gG rfl (by omega) (J au m cu) m (Lt.fl ls) (by rfl) ((World.ownsRow.alloc cQ _).drew) ⟨X.heap.size,0,be⟩ 1 1 [U O to,Y tx] (by rfl) (by rfl) (World.news_of_block (cs:=#[U O to,Y tx]) (t:=102) (fr:=(0,0)) (Ih X _)) (by simp[Value.oneCell']) (by omega) h63 GO (by have:=Pj.out;simp<;>omega) (X.heap.size+1) (by simp) ?_;intro gg cap w5 yU fE cv aW;have AW:w5.heap[g]?=AI (AT (TJ un (J au m cu) v) 72 (0,0)):=((fE.block g (by have:=Pj.out;simp<;>omega) (Ne.symm LC.out)).trans (IE X _ _ (by have:=Pj.out;omega))).trans HGX.out;have z1:w5.cell? ⟨g,1,be⟩=AI (J au m cu):=ae AW 1;have zf:w5.frozen? ⟨g,1,be⟩=false:=(by simp[World.frozen?,AW]);have HR:Hid (Mv C w (w5.setCell ⟨g,1,be⟩ (J (AI ⟨gg,0,be⟩) (m+1) cap))/\kA C (w5.setCell ⟨g,1,be⟩ (J (AI ⟨gg,0,be⟩) (m+1) cap)) g un (J (AI ⟨gg,0,be⟩) (m+1) cap) (ls++[⟨to,tx⟩]) v):=kA.turn HP.out (((o7.out.alloc o7.out.size _).drew.mono hC).grown fE (by have:=Pj.out;simp<;>omega) (λk hk=>(ij HP.out.ls hk).1)) (λb aW aM=>(fE.block b (by have:=Pj.out;simp<;>omega) (Ne.symm aM)).trans ((IE X _ _ (by have:=Pj.out;omega)).trans (o7.out.block b aW))) (by show World.ownsRow _ _ _ _ _ _ _;rw[<- o8.out,HFL.out];exact yU);clear AW yU fE cv aW)
 all_goals
  go_wp2_with fail;go_ret;exact⟨rfl,HR.out.1,_,_,_,HR.out.2⟩
end Go.Proofs.YtfidhgjmifendaaGreatDoor
