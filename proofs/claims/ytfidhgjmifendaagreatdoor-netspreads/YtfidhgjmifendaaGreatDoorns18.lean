import Derived.Test.YtfidhgjmifendaaGreatDoorns17
import Derived.Deep.AppendLies
set_option maxHeartbeats 12800000
set_option maxRecDepth 100000
open Option renaming none→be,some→AI,isNone_none→OP,isNone_some→OQ
open Go renaming TypeId→I5,heap_alloc_new→Ih,info_parts→I6,maxLen→Il,wpList_append_own→Ja,bodyPost_ret→IK
open Go.RowKit renaming ownsRow_setCell_below→Ii
open Go.RowKit.Below renaming heap_setCell→IY,refl→Ib,heap_alloc→IE
open Array renaming getElem?_eq_some_iff→BY
open Go.Obj renaming cells→By
open Go.Joins renaming block_setCell→IB
open Go.Value renaming pointer→Ie,int→U,slice→J,string→Y,agg→Ij,bool→Ia,ownBlock→Jz
open Go.IntKind renaming i64→O
open Nat renaming le_refl→Ic
open Go.Lib renaming run_eql_slice_nil→Ju
open Go.Proofs.Tryz renaming prog→AS,underlying36→J6,underlying40→J7
open List renaming length_nil→IV,getElem?_eq_some_iff→Jl
open Go.World renaming cell?_alloc_past→Og,ownsRow_made→OR,frozen?→Is,block_lt_of_cell?→Iy
namespace Go.Proofs.YtfidhgjmifendaaGreatDoor
open Go.RowKit
def aC(b:Nat):List Value->Nat->World->World
 |[],_,w=>w
 |x::r,j,w=>aC b r (j+1) (w.setCell ⟨b,j,be⟩ x)
theorem aT{B b:Nat}(hb:B<=b):∀(L:List Value) (j:Nat) {a w:World},Below B a w->Below B a (aC b L j w)
 |[],_,_,_,h=>h
 |_::r,j,_,_,h=>aT hb r (j+1) (h.setCell (p:=⟨b,j,be⟩) hb _)
theorem cE{base b n k:Nat}{T:I5}{v:Value}{xs:List Value}(hb:b<base):∀(L:List Value) (j:Nat) {w:World},w.ownsRow base T k v n xs->(aC b L j w).ownsRow base T k v n xs
 |[],_,_,h=>h
 |_::r,j,_,h=>cE hb r (j+1) (Ii h hb _)
theorem aV{b c:Nat}(hc:c≠b):∀(L:List Value) (j:Nat) (w:World),(aC b L j w).heap[c]?=w.heap[c]?
 |[],_,_=>rfl
 |_::r,j,_=>(aV hc r (j+1) _).trans (IY _ _ _ _ hc)
theorem fw(b:Nat):∀(L:List Value) (j:Nat) (w:World),(aC b L j w).heap.size=w.heap.size
 |[],_,_=>rfl
 |_::r,j,_=>(fw b r (j+1) _).trans (by simp[World.setCell])
theorem tA{base n k:Nat}{T:I5}{w w':World}{v:Value}{xs:List Value}(h:w.ownsRow base T k v n xs)(hb:Below w.heap.size w w'):w'.ownsRow base T k v n xs:=by
 rcases h.2 with⟨rfl,h0⟩|⟨g,c,cur,rfl,eD,hg,fP,dR,cf,bj⟩
 .exact⟨h.1,.inl ⟨rfl,h0⟩⟩
 .have aX:=(BY.1 hg).1
  exact⟨h.1,.inr ⟨g,c,cur,rfl,eD,(hb.block g aX).trans hg,fP,dR,cf,bj⟩⟩
theorem dD(w:World):w.drew.heap=w.heap:=rfl
theorem wa{base n k:Nat}{T:I5}{w:World}{v:Value}{xs:List Value}(h:w.ownsRow base T k v n xs):w.drew.ownsRow base T k v n xs:=h
theorem cF{B:Nat}{a w:World}(h:Below B a w):Below B a w.drew:=⟨h.os,h.tape,h.output,h.size,h.block⟩
theorem bA{b:Nat}{T:I5}{f:Nat×Nat}:∀(L pre MP:List Value) {w:World},w.heap[b]?=AI (By (pre++MP).toArray T f)->MP.length=L.length->(aC b L pre.length w).heap[b]?=AI (By (pre++L).toArray T f)
 |[],pre,MP,w,h,hl=>by
  have:MP=[]:=List.eq_nil_of_length_eq_zero (by simpa using hl)
  subst this;exact h
 |x::r,pre,[],w,h,hl=>absurd hl (by simp)
 |x::r,pre,y::s,w,h,hl=>by
  have h1:=IB (i:=pre.length) h x;rw[List.setIfInBounds_toArray,show(pre++y::s).set pre.length x=(pre++[x])++s by simp] at h1;have h2:=bA r (pre++[x]) s h1 (by simpa using hl);rw[show(pre++[x]).length=pre.length+1 by simp,show(pre++[x])++r=pre++x::r by simp] at h2;exact h2
theorem lq{b:Nat}{w:World}{T:I5}{f:Nat×Nat}{c0 c1 c2 c3 c4 c5 c6 c7 c8 c9 c10 c11:Value}(h:w.heap[b]?=AI (By #[c0,c1,c2,c3,c4,c5,c6,c7,c8,c9,c10,c11] T f))(x0 x1 x2 x3 x4 x5 x6 x7 x8 x9 x10 x11:Value):(aC b [x0,x1,x2,x3,x4,x5,x6,x7,x8,x9,x10,x11] 0 w).heap[b]?=AI (By #[x0,x1,x2,x3,x4,x5,x6,x7,x8,x9,x10,x11] T f):=bA [x0,x1,x2,x3,x4,x5,x6,x7,x8,x9,x10,x11] [] [c0,c1,c2,c3,c4,c5,c6,c7,c8,c9,c10,c11] h rfl
theorem pX{b:Nat}{w:World}{T:I5}{f:Nat×Nat}{c0 c1 c2 c3 c4 c5:Value}(h:w.heap[b]?=AI (By #[c0,c1,c2,c3,c4,c5] T f))(x0 x1 x2 x3 x4 x5:Value):(aC b [x0,x1,x2,x3,x4,x5] 0 w).heap[b]?=AI (By #[x0,x1,x2,x3,x4,x5] T f):=bA [x0,x1,x2,x3,x4,x5] [] [c0,c1,c2,c3,c4,c5] h rfl
theorem BB(w:World)(A B:Array Value)(S0 S1:I5):∃W,W=(w.alloc (By A S0)).alloc (By B S1)/\Below w.heap.size w W/\W.heap.size=w.heap.size+2/\W.heap[w.heap.size]?=AI (By A S0 (0,0))/\W.heap[w.heap.size+1]?=AI (By B S1 (0,0)):=by
 obtain⟨W,e⟩:∃W,W=(w.alloc (By A S0)).alloc (By B S1):=⟨_,rfl⟩;exact⟨W,e,(by rw[e];exact((Ib _ _).alloc (by simp<;>omega) _).alloc (by simp<;>omega) _),(by rw[e];simp),(by
  have h:=Ih w (By A S0);rw[e,IE _ _ _ (by simp<;>omega)];simpa using h),(by
  have h:=Ih (w.alloc (By A S0)) (By B S1);rw[e];simpa using h)⟩
theorem oQ(w:World)(A B C:Array Value)(S0 S1 S2:I5):∃W,W=((w.alloc (By A S0)).alloc (By B S1)).alloc (By C S2)/\Below w.heap.size w W/\W.heap.size=w.heap.size+3/\W.heap[w.heap.size]?=AI (By A S0 (0,0))/\W.heap[w.heap.size+1]?=AI (By B S1 (0,0))/\W.heap[w.heap.size+2]?=AI (By C S2 (0,0)):=by
 obtain⟨W,e⟩:∃W,W=((w.alloc (By A S0)).alloc (By B S1)).alloc (By C S2):=⟨_,rfl⟩;exact⟨W,e,(by rw[e];exact(((Ib _ _).alloc (by simp<;>omega) _).alloc (by simp<;>omega) _).alloc (by simp<;>omega) _),(by rw[e];simp),(by
  have h:=Ih w (By A S0);rw[e,IE _ _ _ (by simp<;>omega),IE _ _ _ (by simp<;>omega)];simpa using h),(by
  have h:=Ih (w.alloc (By A S0)) (By B S1);rw[e,IE _ _ _ (by simp<;>omega)];simpa using h),(by
  have h:=Ih ((w.alloc (By A S0)).alloc (By B S1)) (By C S2);rw[e];simpa using h)⟩
theorem R8(w:World)(A B C D:Array Value)(S0 S1 S2 S3:I5):∃W,W=(((w.alloc (By A S0)).alloc (By B S1)).alloc (By C S2)).alloc (By D S3)/\Below w.heap.size w W/\W.heap.size=w.heap.size+4/\W.heap[w.heap.size]?=AI (By A S0 (0,0))/\W.heap[w.heap.size+1]?=AI (By B S1 (0,0))/\W.heap[w.heap.size+2]?=AI (By C S2 (0,0))/\W.heap[w.heap.size+3]?=AI (By D S3 (0,0)):=by
 obtain⟨W,e⟩:∃W,W=(((w.alloc (By A S0)).alloc (By B S1)).alloc (By C S2)).alloc (By D S3):=⟨_,rfl⟩;exact⟨W,e,(by rw[e];exact((((Ib _ _).alloc (by simp<;>omega) _).alloc (by simp<;>omega) _).alloc (by simp<;>omega) _).alloc (by simp<;>omega) _),(by rw[e];simp),(by
  have h:=Ih w (By A S0);rw[e,IE _ _ _ (by simp<;>omega),IE _ _ _ (by simp<;>omega),IE _ _ _ (by simp<;>omega)];simpa using h),(by
  have h:=Ih (w.alloc (By A S0)) (By B S1);rw[e,IE _ _ _ (by simp<;>omega),IE _ _ _ (by simp<;>omega)];simpa using h),(by
  have h:=Ih ((w.alloc (By A S0)).alloc (By B S1)) (By C S2);rw[e,IE _ _ _ (by simp<;>omega)];simpa using h),(by
  have h:=Ih (((w.alloc (By A S0)).alloc (By B S1)).alloc (By C S2)) (By D S3);rw[e];simpa using h)⟩
theorem R9(w:World)(A B C D E:Array Value)(S0 S1 S2 S3 S4:I5):∃W,W=((((w.alloc (By A S0)).alloc (By B S1)).alloc (By C S2)).alloc (By D S3)).alloc (By E S4)/\Below w.heap.size w W/\W.heap.size=w.heap.size+5/\W.heap[w.heap.size]?=AI (By A S0 (0,0))/\W.heap[w.heap.size+1]?=AI (By B S1 (0,0))/\W.heap[w.heap.size+2]?=AI (By C S2 (0,0))/\W.heap[w.heap.size+3]?=AI (By D S3 (0,0))/\W.heap[w.heap.size+4]?=AI (By E S4 (0,0)):=by
 obtain⟨W,e⟩:∃W,W=((((w.alloc (By A S0)).alloc (By B S1)).alloc (By C S2)).alloc (By D S3)).alloc (By E S4):=⟨_,rfl⟩;exact⟨W,e,(by rw[e];exact(((((Ib _ _).alloc (by simp<;>omega) _).alloc (by simp<;>omega) _).alloc (by simp<;>omega) _).alloc (by simp<;>omega) _).alloc (by simp<;>omega) _),(by rw[e];simp),(by
  have h:=Ih w (By A S0);rw[e,IE _ _ _ (by simp<;>omega),IE _ _ _ (by simp<;>omega),IE _ _ _ (by simp<;>omega),IE _ _ _ (by simp<;>omega)];simpa using h),(by
  have h:=Ih (w.alloc (By A S0)) (By B S1);rw[e,IE _ _ _ (by simp<;>omega),IE _ _ _ (by simp<;>omega),IE _ _ _ (by simp<;>omega)];simpa using h),(by
  have h:=Ih ((w.alloc (By A S0)).alloc (By B S1)) (By C S2);rw[e,IE _ _ _ (by simp<;>omega),IE _ _ _ (by simp<;>omega)];simpa using h),(by
  have h:=Ih (((w.alloc (By A S0)).alloc (By B S1)).alloc (By C S2)) (By D S3);rw[e,IE _ _ _ (by simp<;>omega)];simpa using h),(by
  have h:=Ih ((((w.alloc (By A S0)).alloc (By B S1)).alloc (By C S2)).alloc (By D S3)) (By E S4);rw[e];simpa using h)⟩
theorem Sa{a b:Mem}(ha:a.e=0)(hb:b.e=0)(hn:a.name=b.name):bT a b=0:=by
 unfold bT;have h:aP [a] [b]=0:=by
  unfold aP;rw[jV,jV,if_pos ha,hb]
 rw[if_pos h,if_pos hn]
theorem lX{ms:List Mem}(h:bl ms=0):∀m∈ms,m.e=0:=by
 obtain⟨_,_,h3⟩:=af h;exact bf ms h3
theorem lY{rs:List bE}(h:dZ rs=0):rs.length<=20/\(∀r∈rs,r.m.e=0)/\hJ rs/\dL rs:=by
 unfold dZ at h;split at h
 .cases h
 .rename_i hn
  split at h
  .rename_i h1
   split at h
   .rename_i h2
    split at h
    .rename_i h3
     refine⟨by omega,λr hr=>?_,h2,h3⟩;exact bf _ h1 r.m (List.mem_map.2 ⟨r,hr,rfl⟩)
    .cases h
   .cases h
  .rename_i h1;exact absurd h h1
theorem En{ms:List Mem}{r:bE}(h:bl ms=0)(hr:r.m.e=0):dP ms r=fh ms r:=by
 unfold dP fh;rcases hf:cv ms r.m.name with _|k
 .rfl
 .have hk:=j9 hf
  simp only;rw[Sa hr (lX h k hk.1) hk.2.symm];simp
theorem Eo{ms:List Mem}{rs:List bE}(h:bl ms=0)(hr:dZ rs=0):rs.any (dP ms)=rs.any (fh ms):=by
 have h2:=(lY hr).2.1;clear hr;induction rs with
 |nil=>rfl
 |cons r l ih=>
  rw[List.any_cons,List.any_cons,En h (h2 r (by simp)),ih (λx hx=>h2 x (by simp[hx]))]
theorem tB(n:Nd)(b:Nat)(vm vr vs vg vw:Value)(w:World)(h:eY w n vm vr vs vg vw)(hg:w.heap[b]?=AI (By (dv n vm vr vs vg vw) 90 (0,0)))(hp:n.pE=0) :
 kL 56 #[Ie (AI ⟨b,0,be⟩)] w (U O n.wE):=by
 have yL:Hid n.ot:=Nd.parts hp;have hb:b<w.heap.size:=(BY.1 hg).1;have Bg:n.ms.length<=20:=(af yL.out.ms).1;have hrl:n.rs.length<=20:=(lY yL.out.rs).1;have si:Hid (n.wE=match cv n.ms n.name with
  |none=>5
  |some m=>if m.state=2\/m.state=3 then 4 else if n.rs.any (dP n.ms)=true then 4 else 0):=by
  show n.wE=_;rw[Eo yL.out.ms yL.out.rs];rfl
 obtain⟨nm,ct,ms,rs,sv,gw,⟨px,py,pz,ph,pq⟩,wh⟩:=n;obtain⟨gQ,oz,_,_,_,_,_⟩:=h;simp only at gQ oz hg Bg hrl si;generalize Nd.wE ⟨nm,ct,ms,rs,sv,gw,⟨px,py,pz,ph,pq⟩,wh⟩=res at *;obtain⟨am,cm,rfl,HQ,H5⟩:=gQ;have gQ:Sl w (J am ms.length cm) ms:=⟨am,cm,rfl,HQ,H5⟩;clear HQ H5;have HX:Hid (∀W,Below w.heap.size w W->W.cell? ⟨b,0,be⟩=AI (Y nm)/\W.cell? ⟨b,2,be⟩=AI (J am ms.length cm)/\W.cell? ⟨b,3,be⟩=AI vr):=λW hW=>
  have vj:=(hW.block _ hb).trans hg
  ⟨ae vj 0,ae vj 2,ae vj 3⟩
 have Ep:Hid (∀(W:World) (t:ByteArray),Below w.heap.size w W->kL 67 #[Ie (AI ⟨b,0,be⟩),Y t] W (.tuple #[Ij #[Y (eF ms t).name,U O (eF ms t).state,U O (eF ms t).aJ,U O (eF ms t).addr,Ia (eF ms t).server],Ia (cv ms t).isSome])):=λW t hW=>
  jc b am ms.length cm ms t W (HX.out W hW).2.1 (gQ.below hW) (by omega)
 have HCF:Hid (∀W,Below w.heap.size w W->kL 102 #[vr,.func (.func 103) #[Ie (AI ⟨b,0,be⟩)] #[]] W (Ia (rs.any (dP ms)))):=λW hW=>
  xy b am ms.length cm ms rs vr W (oz.below hW) (HX.out W hW).2.1 (gQ.below hW) (by omega) (by omega)
 clear gQ oz;generalize rs.any (dP ms)=ab at *;obtain⟨y0,y2,y3⟩:=HX.out w (Ib _ _);clear hg;go_enter Tryz.func56,Tryz.ntmps56;go_wp2_with fail;refine(Ep.out _ nm (Ib _ _)).mono ?_;rintro e w1 ⟨rfl,aB⟩;have ba:Hid _:=aB;clear aB y0 y2 y3;rcases hf:cv ms nm with _|m
 .have HR:Hid _:=si.out.trans (by rw[hf])
  have Hx:=tu hf;rw[Hx];clear hf Hx;go_wp2_with fail;go_ret;exact⟨ai HR.out.symm,ba.out.alloc ba.out.size _⟩
 .have HR:Hid _:=si.out.trans (by rw[hf])
  have Hx:=hU hf;rw[Hx];clear hf Hx;obtain⟨mn,st,lf,ad,V7⟩:=m;simp only at HR;by_cases h2:st=2
  .subst h2
   have GA:Hid (res=4):=HR.out.trans (by simp);go_wp2_with fail;go_ret;exact⟨ai GA.out.symm,ba.out.alloc ba.out.size _⟩
  .by_cases h3:st=3
   .subst h3
    have GA:Hid (res=4):=HR.out.trans (by simp);go_wp2_with fail;go_ret;exact⟨ai GA.out.symm,ba.out.alloc ba.out.size _⟩
   .have GA:Hid _:=HR.out.trans (if_neg (by omega))
    have H6:(st==2)=false:=by simpa using h2
    have h3':(st==3)=false:=by simpa using h3
    clear h2 h3 HR;obtain⟨W2,bJ⟩:∃W2,W2=w1.alloc (By #[Y mn,U O st,U O lf,U O ad,Ia V7] 50):=⟨_,rfl⟩;have bu:Hid (Below w.heap.size w W2):=by rw[bJ];exact ba.out.alloc ba.out.size _
    obtain⟨y0,y2,y3⟩:=HX.out W2 bu.out;rw[bJ] at y0 y2 y3;go_wp2_with fail;rw[<- bJ];refine(HCF.out _ bu.out).mono ?_;rintro e w3 ⟨rfl,bX⟩;have cJ:Hid _:=bu.out.trans (bX.mono bu.out.size);clear bX y0 y2 y3 bJ;cases ab
    .go_wp2_with fail
     go_ret;exact⟨ai GA.out.symm,cJ.out⟩
    .go_wp2_with fail
     go_ret;exact⟨ai GA.out.symm,cJ.out⟩
theorem oR(n:Nd)(vm vr vs vg vw:Value)(w:World)(h:eY w n vm vr vs vg vw) :
 kL 36 #[Ij (dv n vm vr vs vg vw)] w (U O n.e):=by
 have HI:Hid _:=h;have HE:Hid (n.e=if n.pE=0 then n.wE else n.pE):=rfl;obtain⟨W,hW⟩:∃W,W=(w.alloc (By (dv n vm vr vs vg vw) 42)).alloc (By (dv n vm vr vs vg vw) 90):=⟨_,rfl⟩;have rL:Below w.heap.size w W:=by rw[hW];exact((Ib _ _).alloc (Ic _) _).alloc (by simp) _
 have hg:W.heap[w.heap.size+1]?=AI (By (dv n vm vr vs vg vw) 90 (0,0)):=by
  have h:=Ih (w.alloc (By (dv n vm vr vs vg vw) 42)) (By (dv n vm vr vs vg vw) 90);rw[hW];simpa using h
 have MN:W.heap.size=w.heap.size+2:=by rw[hW];simp
 have qN:Hid _:=rL;have HC:Hid (aI _ _ _ _):=tz n (w.heap.size+1) vm vr vs vg vw W (h.below rL) hg;have HD:Hid (n.pE=0->∀W1,Below W.heap.size W W1->kL 56 #[Ie (AI ⟨w.heap.size+1,0,be⟩)] W1 (U O n.wE)):=λhp W1 h1=>
  tB n (w.heap.size+1) vm vr vs vg vw W1 ((h.below rL).below h1) ((h1.block _ (by omega)).trans hg) hp
 obtain⟨nm,ct,ms,rs,sv,gw,⟨px,py,pz,ph,pq⟩,wh⟩:=n;obtain⟨⟨am,cm,rfl,_,_⟩,⟨ar,cr,rfl,_,_⟩,⟨aq,cq,rfl,_,_⟩,⟨ag,cg,rfl,_,_⟩,⟨aw,cw,rfl,_,_⟩,_,_⟩:=h;generalize Nd.e ⟨nm,ct,ms,rs,sv,gw,⟨px,py,pz,ph,pq⟩,wh⟩=res at *;generalize Nd.pE ⟨nm,ct,ms,rs,sv,gw,⟨px,py,pz,ph,pq⟩,wh⟩=pe at *;generalize Nd.wE ⟨nm,ct,ms,rs,sv,gw,⟨px,py,pz,ph,pq⟩,wh⟩=we at *;simp only[dv] at hW ⊢;clear hg rL;generalize ms.length=V8 at *;generalize rs.length=V9 at *;generalize sv.length=Wb at *;generalize gw.length=Wc at *;generalize wh.length=Wd at *;go_enter Tryz.func36,Tryz.ntmps36;go_wp2_with fail;rw[<- hW];refine HC.out.mono ?_;rintro e w1 ⟨rfl,aB⟩;have ba:Hid _:=aB;have iZ:Hid _:=qN.out.trans (aB.mono (by omega));clear aB;by_cases hp:pe=0
 .have Vh:=HD.out hp w1 ba.out
  have HR:Hid _:=HE.out.trans (if_pos hp);subst hp;clear HD HE;go_wp2_with fail;refine Vh.mono ?_;rintro e w2 ⟨rfl,aK⟩;have pO:Hid _:=iZ.out.trans (aK.mono iZ.out.size);clear aK;go_wp2_with fail;go_ret;exact⟨ai HR.out.symm,pO.out⟩
 .have hp':(pe !=0)=true:=by simpa using hp
  have HR:Hid _:=HE.out.trans (if_neg hp);clear hp HD HE;go_wp2_with fail;go_ret;exact⟨ai HR.out.symm,iZ.out⟩
end Go.Proofs.YtfidhgjmifendaaGreatDoor
namespace Go.Proofs.YtfidhgjmifendaaGreatDoor
namespace Sv
open Go.RowKit
theorem fc(ms:List aY)(v:Value)(w:World)(h:Sl w v ms)(hn:ms.length<=1000) :
 aI 59 #[v] w λe w'=>∃v',e=.returned v'/\Own w.heap.size w' v' ms/\Below w.heap.size w w':=by
 obtain⟨a,cap,rfl,hs,h⟩:=h;obtain⟨i0,fV,di,il,gT⟩:=I6 Tryz.qZ;cases a with
 |none=>
  have he:ms=[]:=by
   rcases h with h|⟨b,off,h,_⟩
   .exact h
   .cases h
  subst he;clear h hs;have gX:=λ(w:World)=>Ju (P:=AS) w 36 46 be 0 cap 0 0 J6;simp only[IV,OP] at gX ⊢;go_enter Tryz.func59,Tryz.ntmps59;go_wp2_with fail;go_ret;exact⟨_,rfl,b9 _ _,Ib _ _⟩
 |some a=>
  have gX:=λ(w:World)=>Ju (P:=AS) w 36 46 (AI a) ms.length cap 0 0 J6;simp only[OQ] at gX;have hnews:Hid (∀j u,(fl ms)[j]?=AI u->(w.alloc (By #[] 46)).cell? (a.add j)=AI u):=by
   intro j u hj;rcases h with h|⟨b,off,h,hb,hr⟩
   .subst h;simp[fl] at hj
   .cases h
    have RI:j<ms.length*9:=by rw[<- cQ];exact(Jl.1 hj).1
    have h1:=ei ms (j/9) (by omega) (j%9) (by omega);rw[show j/9*9+j%9=j by omega,hj] at h1;rw[Addr.add_lit,Og (w:=w) _ b _ hb];obtain⟨c0,c1,c2,c3,c4,c5,c6,c7,c8⟩:=hr (j/9) (by omega);have cf:j%9=0\/j%9=1\/j%9=2\/j%9=3\/j%9=4\/j%9=5\/j%9=6\/j%9=7\/j%9=8:=by omega
    rcases cf with e|e|e|e|e|e|e|e|e
    .rw[show off+j=off+j/9*9 by omega,c0];rw[e] at h1;simpa[aY.cs] using h1.symm
    .rw[show off+j=off+j/9*9+1 by omega,c1];rw[e] at h1;simpa[aY.cs] using h1.symm
    .rw[show off+j=off+j/9*9+2 by omega,c2];rw[e] at h1;simpa[aY.cs] using h1.symm
    .rw[show off+j=off+j/9*9+3 by omega,c3];rw[e] at h1;simpa[aY.cs] using h1.symm
    .rw[show off+j=off+j/9*9+4 by omega,c4];rw[e] at h1;simpa[aY.cs] using h1.symm
    .rw[show off+j=off+j/9*9+5 by omega,c5];rw[e] at h1;simpa[aY.cs] using h1.symm
    .rw[show off+j=off+j/9*9+6 by omega,c6];rw[e] at h1;simpa[aY.cs] using h1.symm
    .rw[show off+j=off+j/9*9+7 by omega,c7];rw[e] at h1;simpa[aY.cs] using h1.symm
    .rw[show off+j=off+j/9*9+8 by omega,c8];rw[e] at h1;simpa[aY.cs] using h1.symm
  have HO:Hid ((w.alloc (By #[] 46)).ownsRow w.heap.size 46 9 (J (AI ⟨w.heap.size,0,be⟩) 0 0) 0 []):=OR w #[] 0 (Ic _) (by unfold Il;omega) rfl;clear h hs;go_enter Tryz.func59,Tryz.ntmps59;go_wp2_with (at_builtin;refine Ja _ rfl _ _ 36 rfl w.heap.size 46 i0 _ 9 104 J6 fV di il gT rfl (by omega) _ 0 [] rfl HO.out a ms.length cap (fl ms) rfl (cQ ms) hnews.out (gV ms) (by unfold Il;omega) (by omega) (by simp) ?_);intro v' w' r1 r2 r3;go_wp2_with fail;go_ret;refine⟨v',rfl,?_,?_⟩
  .simpa using r1
  .exact((Ib _ _).alloc (Ic _) _).grown r2 (by simp) (λk hk=>by simp[Jz] at hk;omega)
end Sv
namespace Wh
open Go.RowKit
theorem fc(ms:List bK)(v:Value)(w:World)(h:Sl w v ms)(hn:ms.length<=1000) :
 aI 61 #[v] w λe w'=>∃v',e=.returned v'/\Own w.heap.size w' v' ms/\Below w.heap.size w w':=by
 obtain⟨a,cap,rfl,hs,h⟩:=h;obtain⟨i0,fV,di,il,gT⟩:=I6 Tryz.nO;cases a with
 |none=>
  have he:ms=[]:=by
   rcases h with h|⟨b,off,h,_⟩
   .exact h
   .cases h
  subst he;clear h hs;have gX:=λ(w:World)=>Ju (P:=AS) w 40 116 be 0 cap 0 0 J7;simp only[IV,OP] at gX ⊢;go_enter Tryz.func61,Tryz.ntmps61;go_wp2_with fail;go_ret;exact⟨_,rfl,b9 _ _,Ib _ _⟩
 |some a=>
  have gX:=λ(w:World)=>Ju (P:=AS) w 40 116 (AI a) ms.length cap 0 0 J7;simp only[OQ] at gX;have hnews:Hid (∀j u,(fl ms)[j]?=AI u->(w.alloc (By #[] 116)).cell? (a.add j)=AI u):=by
   intro j u hj;rcases h with h|⟨b,off,h,hb,hr⟩
   .subst h;simp[fl] at hj
   .cases h
    have RI:j<ms.length*6:=by rw[<- cQ];exact(Jl.1 hj).1
    have h1:=ei ms (j/6) (by omega) (j%6) (by omega);rw[show j/6*6+j%6=j by omega,hj] at h1;rw[Addr.add_lit,Og (w:=w) _ b _ hb];obtain⟨c0,c1,c2,c3,c4,c5⟩:=hr (j/6) (by omega);have cf:j%6=0\/j%6=1\/j%6=2\/j%6=3\/j%6=4\/j%6=5:=by omega
    rcases cf with e|e|e|e|e|e
    .rw[show off+j=off+j/6*6 by omega,c0];rw[e] at h1;simpa[bK.cs] using h1.symm
    .rw[show off+j=off+j/6*6+1 by omega,c1];rw[e] at h1;simpa[bK.cs] using h1.symm
    .rw[show off+j=off+j/6*6+2 by omega,c2];rw[e] at h1;simpa[bK.cs] using h1.symm
    .rw[show off+j=off+j/6*6+3 by omega,c3];rw[e] at h1;simpa[bK.cs] using h1.symm
    .rw[show off+j=off+j/6*6+4 by omega,c4];rw[e] at h1;simpa[bK.cs] using h1.symm
    .rw[show off+j=off+j/6*6+5 by omega,c5];rw[e] at h1;simpa[bK.cs] using h1.symm
  have HO:Hid ((w.alloc (By #[] 116)).ownsRow w.heap.size 116 6 (J (AI ⟨w.heap.size,0,be⟩) 0 0) 0 []):=OR w #[] 0 (Ic _) (by unfold Il;omega) rfl;clear h hs;go_enter Tryz.func61,Tryz.ntmps61;go_wp2_with (at_builtin;refine Ja _ rfl _ _ 40 rfl w.heap.size 116 i0 _ 6 56 J7 fV di il gT rfl (by omega) _ 0 [] rfl HO.out a ms.length cap (fl ms) rfl (cQ ms) hnews.out (gV ms) (by unfold Il;omega) (by omega) (by simp) ?_);intro v' w' r1 r2 r3;go_wp2_with fail;go_ret;refine⟨v',rfl,?_,?_⟩
  .simpa using r1
  .exact((Ib _ _).alloc (Ic _) _).grown r2 (by simp) (λk hk=>by simp[Jz] at hk;omega)
end Wh
end Go.Proofs.YtfidhgjmifendaaGreatDoor
namespace Go.Proofs.YtfidhgjmifendaaGreatDoor
open Go.RowKit
theorem bB{W:World}{b:Nat}{T:I5}{f:Nat×Nat}{c0 c1 c2 c3 c4 c5 c6 c7 c8 c9 c10 c11:Value}(h:W.heap[b]?=AI (By #[c0,c1,c2,c3,c4,c5,c6,c7,c8,c9,c10,c11] T f)):W.cell? ⟨b,0,be⟩=AI c0/\W.cell? ⟨b,1,be⟩=AI c1/\W.cell? ⟨b,2,be⟩=AI c2/\W.cell? ⟨b,3,be⟩=AI c3/\W.cell? ⟨b,4,be⟩=AI c4/\W.cell? ⟨b,5,be⟩=AI c5/\W.cell? ⟨b,6,be⟩=AI c6/\W.cell? ⟨b,7,be⟩=AI c7/\W.cell? ⟨b,8,be⟩=AI c8/\W.cell? ⟨b,9,be⟩=AI c9/\W.cell? ⟨b,10,be⟩=AI c10/\W.cell? ⟨b,11,be⟩=AI c11:=⟨ae h 0,ae h 1,ae h 2,ae h 3,ae h 4,ae h 5,ae h 6,ae h 7,ae h 8,ae h 9,ae h 10,ae h 11⟩
theorem kd{W:World}{b:Nat}{T:I5}{cs:Array Value}(h:W.heap[b]?=AI (By cs T (0,0))):W.frozen? ⟨b,0,be⟩=false/\W.frozen? ⟨b,1,be⟩=false/\W.frozen? ⟨b,2,be⟩=false/\W.frozen? ⟨b,3,be⟩=false/\W.frozen? ⟨b,4,be⟩=false/\W.frozen? ⟨b,5,be⟩=false/\W.frozen? ⟨b,6,be⟩=false/\W.frozen? ⟨b,7,be⟩=false/\W.frozen? ⟨b,8,be⟩=false/\W.frozen? ⟨b,9,be⟩=false/\W.frozen? ⟨b,10,be⟩=false/\W.frozen? ⟨b,11,be⟩=false:=by simp[Is,h]
theorem H7{W:World}{b:Nat}{T:I5}{f:Nat×Nat}{c0 c1 c2 c3 c4 c5 c6 c7 c8:Value}(h:W.heap[b]?=AI (By #[c0,c1,c2,c3,c4,c5,c6,c7,c8] T f)):W.cell? ⟨b,0,be⟩=AI c0/\W.cell? ⟨b,1,be⟩=AI c1/\W.cell? ⟨b,2,be⟩=AI c2/\W.cell? ⟨b,3,be⟩=AI c3/\W.cell? ⟨b,4,be⟩=AI c4/\W.cell? ⟨b,5,be⟩=AI c5/\W.cell? ⟨b,6,be⟩=AI c6/\W.cell? ⟨b,7,be⟩=AI c7/\W.cell? ⟨b,8,be⟩=AI c8:=⟨ae h 0,ae h 1,ae h 2,ae h 3,ae h 4,ae h 5,ae h 6,ae h 7,ae h 8⟩
theorem fx{W:World}{b:Nat}{T:I5}{f:Nat×Nat}{c0 c1 c2 c3 c4 c5:Value}(h:W.heap[b]?=AI (By #[c0,c1,c2,c3,c4,c5] T f)):W.cell? ⟨b,0,be⟩=AI c0/\W.cell? ⟨b,1,be⟩=AI c1/\W.cell? ⟨b,2,be⟩=AI c2/\W.cell? ⟨b,3,be⟩=AI c3/\W.cell? ⟨b,4,be⟩=AI c4/\W.cell? ⟨b,5,be⟩=AI c5:=⟨ae h 0,ae h 1,ae h 2,ae h 3,ae h 4,ae h 5⟩
theorem H8{W:World}{b:Nat}{T:I5}{cs:Array Value}(h:W.heap[b]?=AI (By cs T (0,0))):W.frozen? ⟨b,0,be⟩=false/\W.frozen? ⟨b,1,be⟩=false/\W.frozen? ⟨b,2,be⟩=false/\W.frozen? ⟨b,3,be⟩=false/\W.frozen? ⟨b,4,be⟩=false/\W.frozen? ⟨b,5,be⟩=false:=by simp[Is,h]
theorem jw{W:World}{b:Nat}{T:I5}{f:Nat×Nat}{c0 c1 c2 c3 c4:Value}(h:W.heap[b]?=AI (By #[c0,c1,c2,c3,c4] T f)):W.cell? ⟨b,0,be⟩=AI c0/\W.cell? ⟨b,1,be⟩=AI c1/\W.cell? ⟨b,2,be⟩=AI c2/\W.cell? ⟨b,3,be⟩=AI c3/\W.cell? ⟨b,4,be⟩=AI c4:=⟨ae h 0,ae h 1,ae h 2,ae h 3,ae h 4⟩
theorem adG{W:World}{b:Nat}{T:I5}{cs:Array Value}(h:W.heap[b]?=AI (By cs T (0,0))):W.frozen? ⟨b,0,be⟩=false/\W.frozen? ⟨b,1,be⟩=false/\W.frozen? ⟨b,2,be⟩=false/\W.frozen? ⟨b,3,be⟩=false/\W.frozen? ⟨b,4,be⟩=false:=by simp[Is,h]
theorem mV{B b:Nat}{a w:World}(h:Below B a w)(hb:B<=b)(x0 x1 x2 x3 x4 x5 x6 x7 x8 x9 x10 x11:Value):Below B a ((((((((((((w.setCell ⟨b,0,be⟩ x0).setCell ⟨b,1,be⟩ x1).setCell ⟨b,2,be⟩ x2).setCell ⟨b,3,be⟩ x3).setCell ⟨b,4,be⟩ x4).setCell ⟨b,5,be⟩ x5).setCell ⟨b,6,be⟩ x6).setCell ⟨b,7,be⟩ x7).setCell ⟨b,8,be⟩ x8).setCell ⟨b,9,be⟩ x9).setCell ⟨b,10,be⟩ x10).setCell ⟨b,11,be⟩ x11):=((((((((((((h).setCell (p:=⟨b,0,be⟩) hb _).setCell (p:=⟨b,1,be⟩) hb _).setCell (p:=⟨b,2,be⟩) hb _).setCell (p:=⟨b,3,be⟩) hb _).setCell (p:=⟨b,4,be⟩) hb _).setCell (p:=⟨b,5,be⟩) hb _).setCell (p:=⟨b,6,be⟩) hb _).setCell (p:=⟨b,7,be⟩) hb _).setCell (p:=⟨b,8,be⟩) hb _).setCell (p:=⟨b,9,be⟩) hb _).setCell (p:=⟨b,10,be⟩) hb _).setCell (p:=⟨b,11,be⟩) hb _
theorem cX{base b n k:Nat}{T:I5}{w:World}{v:Value}{xs:List Value}(h:w.ownsRow base T k v n xs)(hb:b<base)(x0 x1 x2 x3 x4 x5 x6 x7 x8 x9 x10 x11:Value):((((((((((((w.setCell ⟨b,0,be⟩ x0).setCell ⟨b,1,be⟩ x1).setCell ⟨b,2,be⟩ x2).setCell ⟨b,3,be⟩ x3).setCell ⟨b,4,be⟩ x4).setCell ⟨b,5,be⟩ x5).setCell ⟨b,6,be⟩ x6).setCell ⟨b,7,be⟩ x7).setCell ⟨b,8,be⟩ x8).setCell ⟨b,9,be⟩ x9).setCell ⟨b,10,be⟩ x10).setCell ⟨b,11,be⟩ x11).ownsRow base T k v n xs:=Ii (Ii (Ii (Ii (Ii (Ii (Ii (Ii (Ii (Ii (Ii (Ii (h) (a:=⟨b,0,be⟩) hb _) (a:=⟨b,1,be⟩) hb _) (a:=⟨b,2,be⟩) hb _) (a:=⟨b,3,be⟩) hb _) (a:=⟨b,4,be⟩) hb _) (a:=⟨b,5,be⟩) hb _) (a:=⟨b,6,be⟩) hb _) (a:=⟨b,7,be⟩) hb _) (a:=⟨b,8,be⟩) hb _) (a:=⟨b,9,be⟩) hb _) (a:=⟨b,10,be⟩) hb _) (a:=⟨b,11,be⟩) hb _
structure cP(B:Nat)(w:World)(n:Nd)(vm vr vs vg vw:Value):Prop where
 ms:Own B w vm n.ms
 rs:cL B w vr n.rs
 sv:Sv.Own B w vs n.sv
 gw:Gw.Own B w vg n.gw
 wh:Wh.Own B w vw n.wh
theorem aA{base n k:Nat}{T:I5}{w:World}{v:Value}{xs:List Value}(h:w.ownsRow base T k v n xs):∃a c,v=J a n c/\n<=c:=by
 rcases h.2 with⟨h1,h2⟩|⟨g,c,cur,h1,_,_,hn,_⟩
 .subst h2;exact⟨be,0,h1,Ic _⟩
 .exact⟨_,c,h1,hn⟩
theorem cP.below{B:Nat}{w w':World}{n:Nd}{vm vr vs vg vw:Value}(h:cP B w n vm vr vs vg vw)(hb:Below w.heap.size w w'):cP B w' n vm vr vs vg vw:=⟨h.ms.below hb,h.rs.below hb,h.sv.below hb,h.gw.below hb,h.wh.below hb⟩
structure iw(n:Nd):Prop where
 ms:∀m∈n.ms,m.name.size<=Il
 rs:∀r∈n.rs,r.m.name.size<=Il
 sv:∀m∈n.sv,m.ok
 gw:∀m∈n.gw,m.ok
 wh:∀m∈n.wh,m.ok
 name:n.name.size<=Il
 aD:n.aD.size<=Il
theorem eY.ok{w:World}{n:Nd}{vm vr vs vg vw:Value}(h:eY w n vm vr vs vg vw):iw n:=by
 obtain⟨⟨_,_,_,h1,_⟩,⟨_,_,_,h2,_⟩,⟨_,_,_,h3,_⟩,⟨_,_,_,h4,_⟩,⟨_,_,_,h5,_⟩,h6,h7⟩:=h;exact⟨dy h1,MQ h2,Sv.dy h3,Gw.dy h4,Wh.dy h5,h6,h7⟩
theorem cP.is{B:Nat}{w:World}{n:Nd}{vm vr vs vg vw:Value}(h:cP B w n vm vr vs vg vw)(hk:iw n):eY w n vm vr vs vg vw:=
 ⟨h.ms.sl (cy hk.ms),h.rs.sl (MR hk.rs),h.sv.sl (Sv.cy hk.sv),h.gw.sl (Gw.cy hk.gw),h.wh.sl (Wh.cy hk.wh),hk.name,hk.aD⟩
theorem rf(n:Nd)(vm vr vs vg vw:Value)(w:World)(h:eY w n vm vr vs vg vw)(l1:n.ms.length<=1000)(l2:n.rs.length<=1000)(l3:n.sv.length<=1000)(l4:n.gw.length<=1000)(l5:n.wh.length<=1000) :
 aI 37 #[Ij (dv n vm vr vs vg vw)] w λe w'=>∃um ur us ug uw,e=.returned (Ij (dv n um ur us ug uw))/\cP w.heap.size w' n um ur us ug uw/\Below w.heap.size w w':=by
 obtain⟨nm,ct,ms,rs,sv,gw,⟨px,py,pz,ph,pq⟩,wh⟩:=n;obtain⟨hm,hr,hs,vh,hh,_,_⟩:=h;simp only at hm hr hs vh hh l1 l2 l3 l4 l5;have Hm:Hid (∀W,Below w.heap.size w W->aI _ _ _ _):=λW hW=>fc ms vm W (hm.below hW) l1;have Hr:Hid (∀W,Below w.heap.size w W->aI _ _ _ _):=λW hW=>gi rs vr W (hr.below hW) l2;have Hs:Hid (∀W,Below w.heap.size w W->aI _ _ _ _):=λW hW=>Sv.fc sv vs W (hs.below hW) l3;have Hg:Hid (∀W,Below w.heap.size w W->aI _ _ _ _):=λW hW=>Gw.fc gw vg W (vh.below hW) l4;have Hh:Hid (∀W,Below w.heap.size w W->aI _ _ _ _):=λW hW=>Wh.fc wh vw W (hh.below hW) l5;obtain⟨em,cm,rfl,_,_⟩:=hm;obtain⟨er,cr,rfl,_,_⟩:=hr;obtain⟨es,cs,rfl,_,_⟩:=hs;obtain⟨eg,cg,rfl,_,_⟩:=vh;obtain⟨eh,ch,rfl,_,_⟩:=hh;generalize hNm:ms.length=km at *;have HNm:Hid _:=hNm;clear hNm;generalize hNr:rs.length=kr at *;have HNr:Hid _:=hNr;clear hNr;generalize hNs:sv.length=ks at *;have MS:Hid _:=hNs;clear hNs;generalize hNg:gw.length=kg at *;have HNg:Hid _:=hNg;clear hNg;generalize hNh:wh.length=kh at *;have HNh:Hid _:=hNh;clear hNh;simp only[dv];obtain⟨W0,bN⟩:∃W0,W0=(w.alloc (By #[Y nm,Y ct,J em km cm,J er kr cr,J es ks cs,J eg kg cg,U O px,U O py,U O pz,U O ph,U O pq,J eh kh ch] 42)).alloc (By #[Y ⟨#[]⟩,Y ⟨#[]⟩,J be 0 0,J be 0 0,J be 0 0,J be 0 0,U O 0,U O 0,U O 0,U O 0,U O 0,J be 0 0] 42):=⟨_,rfl⟩;have bO:Below w.heap.size w W0:=by rw[bN];exact((Ib _ _).alloc (Ic _) _).alloc (by simp) _
 have dI:W0.heap[w.heap.size]?=AI (By #[Y nm,Y ct,J em km cm,J er kr cr,J es ks cs,J eg kg cg,U O px,U O py,U O pz,U O ph,U O pq,J eh kh ch] 42 (0,0)):=by
  rw[bN,IE _ _ _ (by simp)];exact Ih w _
 have di:W0.heap[w.heap.size+1]?=AI (By #[Y ⟨#[]⟩,Y ⟨#[]⟩,J be 0 0,J be 0 0,J be 0 0,J be 0 0,U O 0,U O 0,U O 0,U O 0,U O 0,J be 0 0] 42 (0,0)):=by
  have h:=Ih (w.alloc (By #[Y nm,Y ct,J em km cm,J er kr cr,J es ks cs,J eg kg cg,U O px,U O py,U O pz,U O ph,U O pq,J eh kh ch] 42)) (By #[Y ⟨#[]⟩,Y ⟨#[]⟩,J be 0 0,J be 0 0,J be 0 0,J be 0 0,U O 0,U O 0,U O 0,U O 0,U O 0,J be 0 0] 42);rw[bN];simpa using h
 have eK:w.heap.size+1<W0.heap.size:=by rw[bN];simp
 have db:Hid _:=bO;have Bf:Hid _:=dI;have nY:Hid _:=di;clear bO dI di;go_enter Tryz.func37,Tryz.ntmps37;go_wp2_with fail;rw[<- bN];clear bN;refine(Hm.out W0 db.out).mono ?_;rintro e X1 ⟨v',rfl,ho,hx⟩;obtain⟨bm,Es,De,_⟩:=aA ho;rw[HNm.out] at De;subst De;have ix:=(hx.block _ (by omega)).trans Bf.out;obtain⟨y0,y1,y2,y3,y4,y5,y6,y7,y8,y9,y10,y11⟩:=bB ix;have z2:X1.frozen? ⟨w.heap.size,2,be⟩=false:=by simp[Is,ix]
 have GJ:w.heap.size<X1.heap.size:=by have:=hx.size;omega
 obtain⟨W1,cT⟩:∃W1,W1=X1.setCell ⟨w.heap.size,2,be⟩ (J bm km Es):=⟨_,rfl⟩;have vp:Hid (W1.heap[w.heap.size]?=AI (By #[Y nm,Y ct,J bm km Es,J er kr cr,J es ks cs,J eg kg cg,U O px,U O py,U O pz,U O ph,U O pq,J eh kh ch] 42 (0,0))):=by rw[cT];exact IB (i:=2) ix _
 have GK:Hid (W1.heap[w.heap.size+1]?=AI (By #[Y ⟨#[]⟩,Y ⟨#[]⟩,J be 0 0,J be 0 0,J be 0 0,J be 0 0,U O 0,U O 0,U O 0,U O 0,U O 0,J be 0 0] 42 (0,0))):=by rw[cT];exact(IY _ _ _ _ (by simp)).trans ((hx.block _ (by omega)).trans nY.out)
 have adH:Hid (Own (w.heap.size+2) W1 (J bm km Es) ms):=by rw[cT];exact Ii (ho.mono (by omega)) (by simp) _
 have ba:Hid (Below w.heap.size w W1):=by rw[cT];exact(db.out.trans (hx.mono db.out.size)).setCell (p:=⟨w.heap.size,2,be⟩) (by simp) _
 have ft:=(BY.1 GK.out).1;clear ho hx ix eK;go_wp2_with fail;rw[<- cT];clear cT y0 y1 y2 y3 y4 y5 y6 y7 y8 y9 y10 y11 z2 GJ;refine(Hr.out W1 ba.out).mono ?_;rintro e X2 ⟨v',rfl,ho,hx⟩;obtain⟨br,Ka,De,_⟩:=aA ho;rw[HNr.out] at De;subst De;have ix:=(hx.block _ (by omega)).trans vp.out;obtain⟨y0,y1,y2,y3,y4,y5,y6,y7,y8,y9,y10,y11⟩:=bB ix;have z3:X2.frozen? ⟨w.heap.size,3,be⟩=false:=by simp[Is,ix]
 have GJ:w.heap.size<X2.heap.size:=by have:=hx.size;omega
 obtain⟨W2,bJ⟩:∃W2,W2=X2.setCell ⟨w.heap.size,3,be⟩ (J br kr Ka):=⟨_,rfl⟩;have sg:Hid (W2.heap[w.heap.size]?=AI (By #[Y nm,Y ct,J bm km Es,J br kr Ka,J es ks cs,J eg kg cg,U O px,U O py,U O pz,U O ph,U O pq,J eh kh ch] 42 (0,0))):=by rw[bJ];exact IB (i:=3) ix _
 have lP:Hid (W2.heap[w.heap.size+1]?=AI (By #[Y ⟨#[]⟩,Y ⟨#[]⟩,J be 0 0,J be 0 0,J be 0 0,J be 0 0,U O 0,U O 0,U O 0,U O 0,U O 0,J be 0 0] 42 (0,0))):=by rw[bJ];exact(IY _ _ _ _ (by simp)).trans ((hx.block _ (by omega)).trans GK.out)
 have adI:Hid (cL (w.heap.size+2) W2 (J br kr Ka) rs):=by rw[bJ];exact Ii (ho.base (by omega)) (by simp) _
 have adJ:Hid (Own (w.heap.size+2) W2 (J bm km Es) ms):=by rw[bJ];exact Ii (adH.out.below hx) (by simp) _
 have bu:Hid (Below w.heap.size w W2):=by rw[bJ];exact(ba.out.trans (hx.mono ba.out.size)).setCell (p:=⟨w.heap.size,3,be⟩) (by simp) _
 have iv:=(BY.1 lP.out).1;clear ho hx ix ft;go_wp2_with fail;rw[<- bJ];clear bJ y0 y1 y2 y3 y4 y5 y6 y7 y8 y9 y10 y11 z3 GJ;refine(Hs.out W2 bu.out).mono ?_;rintro e X3 ⟨v',rfl,ho,hx⟩;obtain⟨bs,MT,De,_⟩:=aA ho;rw[MS.out] at De;subst De;have ix:=(hx.block _ (by omega)).trans sg.out;obtain⟨y0,y1,y2,y3,y4,y5,y6,y7,y8,y9,y10,y11⟩:=bB ix;have z4:X3.frozen? ⟨w.heap.size,4,be⟩=false:=by simp[Is,ix]
 have GJ:w.heap.size<X3.heap.size:=by have:=hx.size;omega
 obtain⟨W3,eu⟩:∃W3,W3=X3.setCell ⟨w.heap.size,4,be⟩ (J bs ks MT):=⟨_,rfl⟩;have Sb:Hid (W3.heap[w.heap.size]?=AI (By #[Y nm,Y ct,J bm km Es,J br kr Ka,J bs ks MT,J eg kg cg,U O px,U O py,U O pz,U O ph,U O pq,J eh kh ch] 42 (0,0))):=by rw[eu];exact IB (i:=4) ix _
 have qK:Hid (W3.heap[w.heap.size+1]?=AI (By #[Y ⟨#[]⟩,Y ⟨#[]⟩,J be 0 0,J be 0 0,J be 0 0,J be 0 0,U O 0,U O 0,U O 0,U O 0,U O 0,J be 0 0] 42 (0,0))):=by rw[eu];exact(IY _ _ _ _ (by simp)).trans ((hx.block _ (by omega)).trans lP.out)
 have adK:Hid (Sv.Own (w.heap.size+2) W3 (J bs ks MT) sv):=by rw[eu];exact Ii (ho.mono (by omega)) (by simp) _
 have adL:Hid (Own (w.heap.size+2) W3 (J bm km Es) ms):=by rw[eu];exact Ii (adJ.out.below hx) (by simp) _
 have adM:Hid (cL (w.heap.size+2) W3 (J br kr Ka) rs):=by rw[eu];exact Ii (adI.out.below hx) (by simp) _
 have cJ:Hid (Below w.heap.size w W3):=by rw[eu];exact(bu.out.trans (hx.mono bu.out.size)).setCell (p:=⟨w.heap.size,4,be⟩) (by simp) _
 have sn:=(BY.1 qK.out).1;clear ho hx ix iv;go_wp2_with fail;rw[<- eu];clear eu y0 y1 y2 y3 y4 y5 y6 y7 y8 y9 y10 y11 z4 GJ;refine(Hg.out W3 cJ.out).mono ?_;rintro e X4 ⟨v',rfl,ho,hx⟩;obtain⟨bg,Sc,De,_⟩:=aA ho;rw[HNg.out] at De;subst De;have ix:=(hx.block _ (by omega)).trans Sb.out;obtain⟨y0,y1,y2,y3,y4,y5,y6,y7,y8,y9,y10,y11⟩:=bB ix;have z5:X4.frozen? ⟨w.heap.size,5,be⟩=false:=by simp[Is,ix]
 have GJ:w.heap.size<X4.heap.size:=by have:=hx.size;omega
 obtain⟨W4,nZ⟩:∃W4,W4=X4.setCell ⟨w.heap.size,5,be⟩ (J bg kg Sc):=⟨_,rfl⟩;have Df:Hid (W4.heap[w.heap.size]?=AI (By #[Y nm,Y ct,J bm km Es,J br kr Ka,J bs ks MT,J bg kg Sc,U O px,U O py,U O pz,U O ph,U O pq,J eh kh ch] 42 (0,0))):=by rw[nZ];exact IB (i:=5) ix _
 have PN:Hid (W4.heap[w.heap.size+1]?=AI (By #[Y ⟨#[]⟩,Y ⟨#[]⟩,J be 0 0,J be 0 0,J be 0 0,J be 0 0,U O 0,U O 0,U O 0,U O 0,U O 0,J be 0 0] 42 (0,0))):=by rw[nZ];exact(IY _ _ _ _ (by simp)).trans ((hx.block _ (by omega)).trans qK.out)
 have adN:Hid (Gw.Own (w.heap.size+2) W4 (J bg kg Sc) gw):=by rw[nZ];exact Ii (ho.mono (by omega)) (by simp) _
 have adO:Hid (Own (w.heap.size+2) W4 (J bm km Es) ms):=by rw[nZ];exact Ii (adL.out.below hx) (by simp) _
 have adP:Hid (cL (w.heap.size+2) W4 (J br kr Ka) rs):=by rw[nZ];exact Ii (adM.out.below hx) (by simp) _
 have adQ:Hid (Sv.Own (w.heap.size+2) W4 (J bs ks MT) sv):=by rw[nZ];exact Ii (adK.out.below hx) (by simp) _
 have fO:Hid (Below w.heap.size w W4):=by rw[nZ];exact(cJ.out.trans (hx.mono cJ.out.size)).setCell (p:=⟨w.heap.size,5,be⟩) (by simp) _
 have AZ:=(BY.1 PN.out).1;clear ho hx ix sn;go_wp2_with fail;rw[<- nZ];clear nZ y0 y1 y2 y3 y4 y5 y6 y7 y8 y9 y10 y11 z5 GJ;refine(Hh.out W4 fO.out).mono ?_;rintro e X5 ⟨v',rfl,ho,hx⟩;obtain⟨bh,We,De,_⟩:=aA ho;rw[HNh.out] at De;subst De;have ix:=(hx.block _ (by omega)).trans Df.out;obtain⟨y0,y1,y2,y3,y4,y5,y6,y7,y8,y9,y10,y11⟩:=bB ix;have z11:X5.frozen? ⟨w.heap.size,11,be⟩=false:=by simp[Is,ix]
 have GJ:w.heap.size<X5.heap.size:=by have:=hx.size;omega
 obtain⟨W5,jo⟩:∃W5,W5=X5.setCell ⟨w.heap.size,11,be⟩ (J bh kh We):=⟨_,rfl⟩;have Dg:Hid (W5.heap[w.heap.size]?=AI (By #[Y nm,Y ct,J bm km Es,J br kr Ka,J bs ks MT,J bg kg Sc,U O px,U O py,U O pz,U O ph,U O pq,J bh kh We] 42 (0,0))):=by rw[jo];exact IB (i:=11) ix _
 have Wf:Hid (W5.heap[w.heap.size+1]?=AI (By #[Y ⟨#[]⟩,Y ⟨#[]⟩,J be 0 0,J be 0 0,J be 0 0,J be 0 0,U O 0,U O 0,U O 0,U O 0,U O 0,J be 0 0] 42 (0,0))):=by rw[jo];exact(IY _ _ _ _ (by simp)).trans ((hx.block _ (by omega)).trans PN.out)
 have adR:Hid (Wh.Own (w.heap.size+2) W5 (J bh kh We) wh):=by rw[jo];exact Ii (ho.mono (by omega)) (by simp) _
 have adS:Hid (Own (w.heap.size+2) W5 (J bm km Es) ms):=by rw[jo];exact Ii (adO.out.below hx) (by simp) _
 have adT:Hid (cL (w.heap.size+2) W5 (J br kr Ka) rs):=by rw[jo];exact Ii (adP.out.below hx) (by simp) _
 have adU:Hid (Sv.Own (w.heap.size+2) W5 (J bs ks MT) sv):=by rw[jo];exact Ii (adQ.out.below hx) (by simp) _
 have adV:Hid (Gw.Own (w.heap.size+2) W5 (J bg kg Sc) gw):=by rw[jo];exact Ii (adN.out.below hx) (by simp) _
 have iy:Hid (Below w.heap.size w W5):=by rw[jo];exact(fO.out.trans (hx.mono fO.out.size)).setCell (p:=⟨w.heap.size,11,be⟩) (by simp) _
 have Kb:=(BY.1 Wf.out).1;have ju:=Wf.out;have q0:=ae ju 0;have p0:=ae Dg.out 0;have zz0:W5.frozen? ⟨w.heap.size+1,0,be⟩=false:=by simp[Is,ju]
 have q1:=ae ju 1;have p1:=ae Dg.out 1;have zz1:W5.frozen? ⟨w.heap.size+1,1,be⟩=false:=by simp[Is,ju]
 have q2:=ae ju 2;have p2:=ae Dg.out 2;have zz2:W5.frozen? ⟨w.heap.size+1,2,be⟩=false:=by simp[Is,ju]
 have q3:=ae ju 3;have p3:=ae Dg.out 3;have zz3:W5.frozen? ⟨w.heap.size+1,3,be⟩=false:=by simp[Is,ju]
 have q4:=ae ju 4;have p4:=ae Dg.out 4;have zz4:W5.frozen? ⟨w.heap.size+1,4,be⟩=false:=by simp[Is,ju]
 have q5:=ae ju 5;have p5:=ae Dg.out 5;have zz5:W5.frozen? ⟨w.heap.size+1,5,be⟩=false:=by simp[Is,ju]
 have q6:=ae ju 6;have p6:=ae Dg.out 6;have zz6:W5.frozen? ⟨w.heap.size+1,6,be⟩=false:=by simp[Is,ju]
 have q7:=ae ju 7;have p7:=ae Dg.out 7;have zz7:W5.frozen? ⟨w.heap.size+1,7,be⟩=false:=by simp[Is,ju]
 have q8:=ae ju 8;have p8:=ae Dg.out 8;have zz8:W5.frozen? ⟨w.heap.size+1,8,be⟩=false:=by simp[Is,ju]
 have q9:=ae ju 9;have p9:=ae Dg.out 9;have zz9:W5.frozen? ⟨w.heap.size+1,9,be⟩=false:=by simp[Is,ju]
 have q10:=ae ju 10;have p10:=ae Dg.out 10;have akD:W5.frozen? ⟨w.heap.size+1,10,be⟩=false:=by simp[Is,ju]
 have q11:=ae ju 11;have p11:=ae Dg.out 11;have akE:W5.frozen? ⟨w.heap.size+1,11,be⟩=false:=by simp[Is,ju]
 clear ho hx ix AZ ju;go_upto_region 6 with fail
 rw[<- jo];clear jo y0 y1 y2 y3 y4 y5 y6 y7 y8 y9 y10 y11 z11 GJ;go_wp2_with fail;refine IK (v:=Ij #[Y nm,Y ct,J bm km Es,J br kr Ka,J bs ks MT,J bg kg Sc,U O px,U O py,U O pz,U O ph,U O pq,J bh kh We]) ?_ rfl ⟨J bm km Es,J br kr Ka,J bs ks MT,J bg kg Sc,J bh kh We,rfl,⟨?_,?_,?_,?_,?_⟩,?_⟩
 .simp[results,Tryz.results37,go_sem,q0,q1,q2,q3,q4,q5,q6,q7,q8,q9,q10,q11]
 .exact Own.mono (cX (adS.out) (by simp) _ _ _ _ _ _ _ _ _ _ _ _) (by omega)
 .exact cL.base (cX (adT.out) (by simp) _ _ _ _ _ _ _ _ _ _ _ _) (by omega)
 .exact Sv.Own.mono (cX (adU.out) (by simp) _ _ _ _ _ _ _ _ _ _ _ _) (by omega)
 .exact Gw.Own.mono (cX (adV.out) (by simp) _ _ _ _ _ _ _ _ _ _ _ _) (by omega)
 .exact Wh.Own.mono (cX (adR.out) (by simp) _ _ _ _ _ _ _ _ _ _ _ _) (by omega)
 .exact mV iy.out (by simp) _ _ _ _ _ _ _ _ _ _ _ _
theorem Tryz.Sd:(Tryz.prog.info? 102).map (λi=>(i.zero,i.size,i.bytes))=AI (AI (Ij #[U O 0,Y ⟨#[]⟩]),2,24):=by kernel_rfl
structure Ev where
 kind:Int
 which:Int
 other:Int
 n:Int
 name:ByteArray
 p:Pl
 s:Sv.aY
def Vi(un ul:Value)(v:Ev):Array Value:=#[un,ul,U O v.kind,U O v.which,U O v.other,U O v.n,Y v.name,U O v.p.x,U O v.p.y,U O v.p.z,U O v.p.h,U O v.p.s,Y v.s.node,Y v.s.bP,Y v.s.name,Y v.s.tag,U O v.s.addr,U O v.s.port,Ia v.s.an,U O v.s.version,Ia v.s.gone]
structure Mv(C:Nat)(w w':World):Prop where
 below:Below C w w'
 fi:∀(b:Nat) (cs:Array Value) (T:I5) (f:Nat×Nat),w.heap[b]?=AI (By cs T f)->T≠102->T≠72->w'.heap[b]?=AI (By cs T f)
theorem Mv.of{C:Nat}{w w':World}(h:Below w.heap.size w w')(hC:C<=w.heap.size):Mv C w w':=⟨h.mono hC,λb _ _ _ hb _ _=>(h.block b (BY.1 hb).1).trans hb⟩
theorem Mv.trans{C:Nat}{w w' fT:World}(h:Mv C w w')(h':Mv C w' fT):Mv C w fT:=⟨h.below.trans h'.below,λb cs T f hb h1 h2=>h'.fi b cs T f (h.fi b cs T f hb h1 h2) h1 h2⟩
theorem ev{C:Nat}{T:I5}{k n:Nat}{v:Value}{xs:List Value}{w w':World}(ho:w.ownsRow C T k v n xs)(hk:∀(b:Nat) (cs:Array Value) (f:Nat×Nat),w.heap[b]?=AI (By cs T f)->w'.heap[b]?=AI (By cs T f)):w'.ownsRow C T k v n xs:=by
 rcases ho.2 with⟨rfl,h0⟩|⟨b,c,cur,rfl,eD,hb,hr⟩
 .exact⟨ho.1,.inl ⟨rfl,h0⟩⟩
 .exact⟨ho.1,.inr ⟨b,c,cur,rfl,eD,hk _ _ _ hb,hr⟩⟩
theorem iG{C:Nat}{T:I5}{k n:Nat}{v:Value}{xs:List Value}{w:World}(ho:w.ownsRow C T k v n xs){b:Nat}(e:v.ownBlock=AI b):C<=b/\∃cs,w.heap[b]?=AI (By cs T (0,0)):=by
 rcases ho.2 with⟨rfl,h0⟩|⟨b',c,cur,rfl,eD,hb,hr⟩
 .cases e
 .have:b'=b:=by simpa[Jz] using e
  subst this;exact⟨eD,_,hb⟩
theorem aL{C:Nat}{T:I5}{k n:Nat}{v:Value}{xs:List Value}{w:World}(ho:w.ownsRow C T k v n xs):∃a c,v=J a n c:=by
 rcases ho.2 with⟨rfl,rfl⟩|⟨b',c,cur,rfl,_⟩
 .exact⟨be,0,rfl⟩
 .exact⟨_,c,rfl⟩
structure kN(C:Nat)(w:World)(g:Nat)(un ul:Value)(ls:List Lt.fg)(v:Ev):Prop where
 hg:w.heap[g]?=AI (By (Vi un ul v) 72 (0,0))
 le:C<=g
 ls:Lt.Own C w ul ls
theorem kN.below{C:Nat}{w w':World}{g:Nat}{un ul:Value}{ls:List Lt.fg}{v:Ev}(h:kN C w g un ul ls v)(hb:Below w.heap.size w w'):kN C w' g un ul ls v:=
 ⟨(hb.block g (BY.1 h.hg).1).trans h.hg,h.le,ev h.ls (λb _ _ e=>(hb.block b (BY.1 e).1).trans e)⟩
theorem Se{w:World}{g:Nat}{un ul x:Value}{v:Ev}(h:w.heap[g]?=AI (By (Vi un ul v) 72 (0,0))):(w.setCell ⟨g,1,be⟩ x).heap[g]?=AI (By (Vi un x v) 72 (0,0)):=IB h x
theorem kN.turn{C g:Nat}{un ul x:Value}{ls ls':List Lt.fg}{v:Ev}{w w5:World}(h:kN C w g un ul ls v)(hb:Below C w w5)(hk:∀b,b<w.heap.size->ul.ownBlock≠AI b->w5.heap[b]?=w.heap[b]?)(hown:Lt.Own C w5 x ls'):Mv C w (w5.setCell ⟨g,1,be⟩ x)/\kN C (w5.setCell ⟨g,1,be⟩ x) g un x ls' v:=by
 have du:=(BY.1 h.hg).1;have aQ:ul.ownBlock≠AI g:=λe=>by
  obtain⟨_,cs,h2⟩:=iG h.ls e;rw[h.hg] at h2;simp at h2
 have h5:=(hk g du aQ).trans h.hg;refine⟨⟨hb.setCell (p:=⟨g,1,be⟩) h.le _,λb cs T f e h1 h2=>?_⟩,⟨Se h5,h.le,ev hown (λb cs f e=>?_)⟩⟩
 .have eD:b≠g:=λe2=>by
   subst e2;rw[h.hg] at e;simp at e;exact h2 e.2.1.symm
  have aR:ul.ownBlock≠AI b:=λe2=>by
   obtain⟨_,cs2,h3⟩:=iG h.ls e2;rw[e] at h3;simp at h3;exact h1 h3.2.1
  rw[IY _ _ _ _ eD];exact(hk b (BY.1 e).1 aR).trans e
 .have eD:b≠g:=λe2=>by
   subst e2;rw[h5] at e;simp at e
  rw[IY _ _ _ _ eD];exact e
theorem Kc(C g:Nat)(un ul:Value)(ls:List Lt.fg)(v:Ev)(t_o:Int)(tx:ByteArray)(w:World)(h:kN C w g un ul ls v)(hC:C<=w.heap.size)(h20:ls.length<20) :
 Calls AS 143 #[Ie (AI ⟨g,0,be⟩),Ij #[U O t_o,Y tx]] w λe w'=>e=.returned (U O 0)/\Mv C w w'/\∃a k c,kN C w' g un (J a k c) (ls++[⟨t_o,tx⟩]) v:=by
 obtain⟨i0,fV,di,il,gT⟩:=I6 (Tryz.Sd);obtain⟨au,cu,Mj⟩:=aL h.ls;subst Mj;have du:=(BY.1 h.hg).1;obtain⟨X,hX⟩:∃X,X=w.alloc (By #[U O t_o,Y tx] 102):=⟨_,rfl⟩;have MU:Below w.heap.size w X:=by rw[hX];exact(Ib _ _).alloc (Ic _) _
 have PO:Hid (X.heap.size=w.heap.size+1):=by show _=_;rw[hX];simp
 have hx:X.heap[w.heap.size]?=AI (By #[U O t_o,Y tx] 102 (0,0)):=by rw[hX];exact Ih w _
 have x0:=ae hx 0;have x1:=ae hx 1;have hgX:=(MU.block g du).trans h.hg;have y1:X.cell? ⟨g,1,be⟩=AI (J au ls.length cu):=ae hgX 1;have HP:Hid (kN C w g un (J au ls.length cu) ls v):=h;have y1a:∀o,(X.alloc o).cell? ⟨g,1,be⟩=AI (J au ls.length cu):=λo=>(((Ib X.heap.size X).alloc (Ic _) o).cell (p:=⟨g,1,be⟩) (Nat.lt_of_lt_of_le du MU.size)).trans y1;have pY:Hid (Below w.heap.size w X):=MU;have cR:X.ownsRow C 102 2 (J au ls.length cu) ls.length (Lt.fl ls):=ev h.ls (λb _ _ e=>(MU.block b (BY.1 e).1).trans e);have Mk:Hid ((Value.slice au ls.length cu).ownBlock≠AI g):=λe=>by
  obtain⟨_,cs,h2⟩:=iG h.ls e;rw[h.hg] at h2;simp at h2
 have HFL:Hid (Lt.fl (ls++[⟨t_o,tx⟩])=Lt.fl ls++[U O t_o,Y tx]):=by show _=_;rw[Lt.cK];rfl
 have hd:((ls.length:Int)==20)=false:=by simp;omega
 have pW:Hid (ls.length+1=(ls++[(⟨t_o,tx⟩:Lt.fg)]).length):=by show _=_;simp
 have h63:ls.length+1<=Il:=by unfold Il;omega
 have Kd:(ls.length+1)*24<=140737488355328:=by omega
 have HGX:Hid _:=hgX;clear h MU hx hgX h20;generalize ls.length=m at *;go_enter Tryz.func143,Tryz.ntmps143;go_upto_region 1 with fail
 rw[<- hX];clear hX;go_wp2_with fail;go_region_law (refine step_append_lies _ (by rfl) _ _ _ (by rfl) C 102 i0 _ 2 24 Tryz.underlying25 fV di il gT rfl (by omega) (J au m cu) m (Lt.fl ls) (by rfl) ((World.ownsRow.alloc cR _).drew) ⟨X.heap.size,0,be⟩ 1 1 [U O t_o,Y tx] (by rfl) (by rfl) (World.news_of_block (cs:=#[U O t_o,Y tx]) (t:=102) (fr:=(0,0)) (Ih X _)) (by simp[Value.oneCell']) (by omega) h63 Kd (by have:=PO.out;simp<;>omega) (X.heap.size+1) (by simp) ?_;intro gg cap w5 zE fN cH aX;have Bq:w5.heap[g]?=AI (By (Vi un (J au m cu) v) 72 (0,0)):=((fN.block g (by have:=PO.out;simp<;>omega) (Ne.symm Mk.out)).trans (IE X _ _ (by have:=PO.out;omega))).trans HGX.out;have z1:w5.cell? ⟨g,1,be⟩=AI (J au m cu):=ae Bq 1;have zf:w5.frozen? ⟨g,1,be⟩=false:=(by simp[Is,Bq]);have HR:Hid (Mv C w (w5.setCell ⟨g,1,be⟩ (J (AI ⟨gg,0,be⟩) (m+1) cap))/\kN C (w5.setCell ⟨g,1,be⟩ (J (AI ⟨gg,0,be⟩) (m+1) cap)) g un (J (AI ⟨gg,0,be⟩) (m+1) cap) (ls++[⟨t_o,tx⟩]) v):=kN.turn HP.out (((pY.out.alloc pY.out.size _).drew.mono hC).grown fN (by have:=PO.out;simp<;>omega) (λk hk=>(iG HP.out.ls hk).1)) (λb aX aQ=>(fN.block b (by have:=PO.out;simp<;>omega) (Ne.symm aQ)).trans ((IE X _ _ (by have:=PO.out;omega)).trans (pY.out.block b aX))) (by show World.ownsRow _ _ _ _ _ _ _;rw[<- pW.out,HFL.out];exact zE);clear Bq zE fN cH aX)
 all_goals
  go_wp2_with fail;go_ret;exact⟨rfl,HR.out.1,_,_,_,HR.out.2⟩
theorem Sf(g nb o n cap j:Nat)(x0 x1:ByteArray)(a2 a3 a4 a5 a11:Option Addr)(n2 k2 n3 k3 n4 k4 n5 k5 n11 k11:Nat)(x6 x7 x8 x9 x10:Int)(w:World)(g0:w.cell? ⟨g,0,be⟩=AI (J (AI ⟨nb,o,be⟩) n cap))(g3:w.cell? ⟨g,3,be⟩=AI (U O (j:Int)))(hj:j<n)(c0:w.cell? ⟨nb,o+j*12,be⟩=AI (Y x0))(c1:w.cell? ⟨nb,o+j*12+1,be⟩=AI (Y x1))(c2:w.cell? ⟨nb,o+j*12+2,be⟩=AI (J a2 n2 k2))(c3:w.cell? ⟨nb,o+j*12+3,be⟩=AI (J a3 n3 k3))(c4:w.cell? ⟨nb,o+j*12+4,be⟩=AI (J a4 n4 k4))(c5:w.cell? ⟨nb,o+j*12+5,be⟩=AI (J a5 n5 k5))(c6:w.cell? ⟨nb,o+j*12+6,be⟩=AI (U O x6))(c7:w.cell? ⟨nb,o+j*12+7,be⟩=AI (U O x7))(c8:w.cell? ⟨nb,o+j*12+8,be⟩=AI (U O x8))(c9:w.cell? ⟨nb,o+j*12+9,be⟩=AI (U O x9))(c10:w.cell? ⟨nb,o+j*12+10,be⟩=AI (U O x10))(c11:w.cell? ⟨nb,o+j*12+11,be⟩=AI (J a11 n11 k11)) :
 Calls AS 85 #[Ie (AI ⟨g,0,be⟩)] w λe w'=>e=.returned (Ij #[Y x0,Y x1,J a2 n2 k2,J a3 n3 k3,J a4 n4 k4,J a5 n5 k5,U O x6,U O x7,U O x8,U O x9,U O x10,J a11 n11 k11])/\Below w.heap.size w w':=by
 have du:g<w.heap.size:=Iy w _ g0;have aR:nb<w.heap.size:=Iy w _ c0;obtain⟨W0,bN,bO,-,dI⟩:=bY w #[Y ⟨#[]⟩,Y ⟨#[]⟩,J be 0 0,J be 0 0,J be 0 0,J be 0 0,U O 0,U O 0,U O 0,U O 0,U O 0,J be 0 0] 42;have Sg:w.heap.size≠g:=by omega
 have Si:w.heap.size≠nb:=by omega
 have aX:(j:Int)<(n:Int):=by omega
 have zk:(0:Int)<=(j:Int):=by omega
 have Et:((j:Int)).toNat=j:=by omega
 have e0:=(bO.cell (p:=⟨g,0,be⟩) du).trans g0;have e3:=(bO.cell (p:=⟨g,3,be⟩) du).trans g3;have d0:=(bO.cell (p:=⟨nb,o+j*12,be⟩) aR).trans c0;have d1:=(bO.cell (p:=⟨nb,o+j*12+1,be⟩) aR).trans c1;have d2:=(bO.cell (p:=⟨nb,o+j*12+2,be⟩) aR).trans c2;have d3:=(bO.cell (p:=⟨nb,o+j*12+3,be⟩) aR).trans c3;have d4:=(bO.cell (p:=⟨nb,o+j*12+4,be⟩) aR).trans c4;have d5:=(bO.cell (p:=⟨nb,o+j*12+5,be⟩) aR).trans c5;have d6:=(bO.cell (p:=⟨nb,o+j*12+6,be⟩) aR).trans c6;have d7:=(bO.cell (p:=⟨nb,o+j*12+7,be⟩) aR).trans c7;have d8:=(bO.cell (p:=⟨nb,o+j*12+8,be⟩) aR).trans c8;have d9:=(bO.cell (p:=⟨nb,o+j*12+9,be⟩) aR).trans c9;have d10:=(bO.cell (p:=⟨nb,o+j*12+10,be⟩) aR).trans c10;have d11:=(bO.cell (p:=⟨nb,o+j*12+11,be⟩) aR).trans c11;obtain⟨q0,q1,q2,q3,q4,q5,q6,q7,q8,q9,q10,q11⟩:=bB dI;obtain⟨wi,wj,xA,xB,xC,xD,Dh,Di,Dj,Dk,pZ,qb⟩:=kd dI;obtain⟨W1,cT⟩:∃W1,W1=World.drew (aC w.heap.size [Y x0,Y x1,J a2 n2 k2,J a3 n3 k3,J a4 n4 k4,J a5 n5 k5,U O x6,U O x7,U O x8,U O x9,U O x10,J a11 n11 k11] 0 W0):=⟨_,rfl⟩;have aB:Below w.heap.size w W1:=by rw[cT];exact cF (aT (Ic _) _ _ bO)
 have cO:W1.heap[w.heap.size]?=AI (By #[Y x0,Y x1,J a2 n2 k2,J a3 n3 k3,J a4 n4 k4,J a5 n5 k5,U O x6,U O x7,U O x8,U O x9,U O x10,J a11 n11 k11] 42 (0,0)):=by rw[cT,dD];exact lq dI _ _ _ _ _ _ _ _ _ _ _ _
 obtain⟨r0,r1,r2,r3,r4,r5,r6,r7,r8,r9,r10,r11⟩:=bB cO;have ba:Hid _:=aB;clear bO dI aB cO du aR g0 g3 c0 c1 c2 c3 c4 c5 c6 c7 c8 c9 c10 c11;go_enter Tryz.func85,Tryz.ntmps85;go_upto_region 1 with fail
 rw[<- bN];clear bN;go_region_held3 (λw'=>w'.cell? ⟨g,0,be⟩=AI (J (AI ⟨nb,o,be⟩) n cap)/\w'.cell? ⟨g,3,be⟩=AI (U O (j:Int))/\w'.cell? ⟨nb,o+j*12,be⟩=AI (Y x0)/\w'.cell? ⟨nb,o+j*12+1,be⟩=AI (Y x1)/\w'.cell? ⟨nb,o+j*12+2,be⟩=AI (J a2 n2 k2)/\w'.cell? ⟨nb,o+j*12+3,be⟩=AI (J a3 n3 k3)/\w'.cell? ⟨nb,o+j*12+4,be⟩=AI (J a4 n4 k4)/\w'.cell? ⟨nb,o+j*12+5,be⟩=AI (J a5 n5 k5)/\w'.cell? ⟨nb,o+j*12+6,be⟩=AI (U O x6)/\w'.cell? ⟨nb,o+j*12+7,be⟩=AI (U O x7)/\w'.cell? ⟨nb,o+j*12+8,be⟩=AI (U O x8)/\w'.cell? ⟨nb,o+j*12+9,be⟩=AI (U O x9)/\w'.cell? ⟨nb,o+j*12+10,be⟩=AI (U O x10)/\w'.cell? ⟨nb,o+j*12+11,be⟩=AI (J a11 n11 k11)) (simp only[World.cell?_setCell_far,World.cell?_drew,ne_eq,Sg,Si,not_false_eq_true,e0,e3,d0,d1,d2,d3,d4,d5,d6,d7,d8,d9,d10,d11,and_self]) (fail)
 go_wp2_with fail;simp only[aC,Nat.zero_add,Nat.reduceAdd] at cT;rw[<- cT];clear cT;exact IK (v:=Ij #[Y x0,Y x1,J a2 n2 k2,J a3 n3 k3,J a4 n4 k4,J a5 n5 k5,U O x6,U O x7,U O x8,U O x9,U O x10,J a11 n11 k11]) (by simp[results,Tryz.results85,go_sem,r0,r1,r2,r3,r4,r5,r6,r7,r8,r9,r10,r11]) rfl ⟨rfl,ba.out⟩
end Go.Proofs.YtfidhgjmifendaaGreatDoor
