import Derived.Test.YtfidjlcdlakceaaGreatDoorrt46
import Derived.Test.YtfidjlcdlakceaaGreatDoorrt35
set_option maxHeartbeats 25600000
set_option maxRecDepth 100000
open Go.Obj renaming cells→AI
open Go.Value renaming slice→U,tuple→Il,agg→Ip,string→I,int→O,pointer→Ig
open Option renaming some→Z,none→Y
open Go renaming TypeId→I8,heap_alloc_new→Ie
open Array renaming getElem?_eq_some_iff→Ib
open Go.RowKit.Below renaming refl→Ia,heap_alloc→It
open Go.Ending renaming returned→sh
open Go.IntKind renaming i64→J
namespace Go.Proofs.YtfidjlcdlakceaaGreatDoor
open Go.RowKit
theorem Wk.Mv{L b:Nat}{W:World}{n:Nd}(h:Wk L W b n):∃a k c a2 k2 c2 vm vr vw,W.heap[b]?=Z (AI (fB n vm vr (U a k c) (U a2 k2 c2) vw) 81 (0,0))/\Sv.Sl W (U a k c) n.sv/\Gw.Sl W (U a2 k2 c2) n.gw:=by
 obtain⟨vm,vr,vs,vg,vw,h1,h2,h3,h4⟩:=h;obtain⟨a,c,hv,_⟩:=ax h2.sv;obtain⟨a2,c2,hv2,_⟩:=ax h2.gw;subst hv hv2;exact⟨a,_,c,a2,_,c2,vm,vr,vw,h1,(h2.is h4).sv,(h2.is h4).gw⟩
def cV(b:Nat):List Value->Nat->World->World
 |[],_,w=>w
 |x::r,j,w=>cV b r (j+1) (w.setCell ⟨b,j,Y⟩ x)
theorem cO{B b:Nat}(hb:B<=b):∀(L:List Value) (j:Nat) {a w:World},Below B a w->Below B a (cV b L j w)
 |[],_,_,_,h=>h
 |_::r,j,_,_,h=>cO hb r (j+1) (h.setCell (p:=⟨b,j,Y⟩) hb _)
theorem bV{base b n k:Nat}{T:I8}{v:Value}{xs:List Value}(hb:b<base):∀(L:List Value) (j:Nat) {w:World},w.ownsRow base T k v n xs->(cV b L j w).ownsRow base T k v n xs
 |[],_,_,h=>h
 |_::r,j,_,h=>bV hb r (j+1) (ownsRow_setCell_below h hb _)
theorem fU{b c:Nat}(hc:c≠b):∀(L:List Value) (j:Nat) (w:World),(cV b L j w).heap[c]?=w.heap[c]?
 |[],_,_=>rfl
 |_::r,j,_=>(fU hc r (j+1) _).trans (Below.heap_setCell _ _ _ _ hc)
theorem lP(b:Nat):∀(L:List Value) (j:Nat) (w:World),(cV b L j w).heap.size=w.heap.size
 |[],_,_=>rfl
 |_::r,j,_=>(lP b r (j+1) _).trans (by simp[World.setCell])
theorem tP{base n k:Nat}{T:I8}{w w':World}{v:Value}{xs:List Value}(h:w.ownsRow base T k v n xs)(hb:Below w.heap.size w w'):w'.ownsRow base T k v n xs:=by
 rcases h.2 with⟨rfl,h0⟩|⟨g,c,cur,rfl,dN,hg,fa,dO,cJ,aV⟩
 .exact⟨h.1,.inl ⟨rfl,h0⟩⟩
 .have aB:=(Ib.1 hg).1
  exact⟨h.1,.inr ⟨g,c,cur,rfl,dN,(hb.block g aB).trans hg,fa,dO,cJ,aV⟩⟩
theorem my(w:World):w.drew.heap=w.heap:=rfl
theorem vW{base n k:Nat}{T:I8}{w:World}{v:Value}{xs:List Value}(h:w.ownsRow base T k v n xs):w.drew.ownsRow base T k v n xs:=h
theorem tQ{B:Nat}{a w:World}(h:Below B a w):Below B a w.drew:=⟨h.os,h.tape,h.output,h.size,h.block⟩
theorem kx{b:Nat}{T:I8}{f:Nat×Nat}:∀(L pre suf:List Value) {w:World},w.heap[b]?=Z (AI (pre++suf).toArray T f)->suf.length=L.length->(cV b L pre.length w).heap[b]?=Z (AI (pre++L).toArray T f)
 |[],pre,suf,w,h,hl=>by
  have:suf=[]:=List.eq_nil_of_length_eq_zero (by simpa using hl)
  subst this;exact h
 |x::r,pre,[],w,h,hl=>absurd hl (by simp)
 |x::r,pre,y::s,w,h,hl=>by
  have h1:=Joins.block_setCell (i:=pre.length) h x;rw[List.setIfInBounds_toArray,show(pre++y::s).set pre.length x=(pre++[x])++s by simp] at h1;have h2:=kx r (pre++[x]) s h1 (by simpa using hl);rw[show(pre++[x]).length=pre.length+1 by simp,show(pre++[x])++r=pre++x::r by simp] at h2;exact h2
theorem oF{b:Nat}{w:World}{T:I8}{f:Nat×Nat}{c0 c1 c2 c3 c4 c5 c6 c7 c8 c9 c10 c11:Value}(h:w.heap[b]?=Z (AI #[c0,c1,c2,c3,c4,c5,c6,c7,c8,c9,c10,c11] T f))(x0 x1 x2 x3 x4 x5 x6 x7 x8 x9 x10 x11:Value):(cV b [x0,x1,x2,x3,x4,x5,x6,x7,x8,x9,x10,x11] 0 w).heap[b]?=Z (AI #[x0,x1,x2,x3,x4,x5,x6,x7,x8,x9,x10,x11] T f):=kx [x0,x1,x2,x3,x4,x5,x6,x7,x8,x9,x10,x11] [] [c0,c1,c2,c3,c4,c5,c6,c7,c8,c9,c10,c11] h rfl
theorem Dk{b:Nat}{w:World}{T:I8}{f:Nat×Nat}{c0 c1 c2 c3 c4 c5:Value}(h:w.heap[b]?=Z (AI #[c0,c1,c2,c3,c4,c5] T f))(x0 x1 x2 x3 x4 x5:Value):(cV b [x0,x1,x2,x3,x4,x5] 0 w).heap[b]?=Z (AI #[x0,x1,x2,x3,x4,x5] T f):=kx [x0,x1,x2,x3,x4,x5] [] [c0,c1,c2,c3,c4,c5] h rfl
theorem WE(w:World)(A B:Array Value)(S0 S1:I8):∃W,W=(w.alloc (AI A S0)).alloc (AI B S1)/\Below w.heap.size w W/\W.heap.size=w.heap.size+2/\W.heap[w.heap.size]?=Z (AI A S0 (0,0))/\W.heap[w.heap.size+1]?=Z (AI B S1 (0,0)):=by
 obtain⟨W,e⟩:∃W,W=(w.alloc (AI A S0)).alloc (AI B S1):=⟨_,rfl⟩;exact⟨W,e,(by rw[e];exact((Ia _ _).alloc (by simp<;>omega) _).alloc (by simp<;>omega) _),(by rw[e];simp),(by
  have h:=Ie w (AI A S0);rw[e,It _ _ _ (by simp<;>omega)];simpa using h),(by
  have h:=Ie (w.alloc (AI A S0)) (AI B S1);rw[e];simpa using h)⟩
theorem WG(w:World)(A B C:Array Value)(S0 S1 S2:I8):∃W,W=((w.alloc (AI A S0)).alloc (AI B S1)).alloc (AI C S2)/\Below w.heap.size w W/\W.heap.size=w.heap.size+3/\W.heap[w.heap.size]?=Z (AI A S0 (0,0))/\W.heap[w.heap.size+1]?=Z (AI B S1 (0,0))/\W.heap[w.heap.size+2]?=Z (AI C S2 (0,0)):=by
 obtain⟨W,e⟩:∃W,W=((w.alloc (AI A S0)).alloc (AI B S1)).alloc (AI C S2):=⟨_,rfl⟩;exact⟨W,e,(by rw[e];exact(((Ia _ _).alloc (by simp<;>omega) _).alloc (by simp<;>omega) _).alloc (by simp<;>omega) _),(by rw[e];simp),(by
  have h:=Ie w (AI A S0);rw[e,It _ _ _ (by simp<;>omega),It _ _ _ (by simp<;>omega)];simpa using h),(by
  have h:=Ie (w.alloc (AI A S0)) (AI B S1);rw[e,It _ _ _ (by simp<;>omega)];simpa using h),(by
  have h:=Ie ((w.alloc (AI A S0)).alloc (AI B S1)) (AI C S2);rw[e];simpa using h)⟩
theorem WH(w:World)(A B C D:Array Value)(S0 S1 S2 S3:I8):∃W,W=(((w.alloc (AI A S0)).alloc (AI B S1)).alloc (AI C S2)).alloc (AI D S3)/\Below w.heap.size w W/\W.heap.size=w.heap.size+4/\W.heap[w.heap.size]?=Z (AI A S0 (0,0))/\W.heap[w.heap.size+1]?=Z (AI B S1 (0,0))/\W.heap[w.heap.size+2]?=Z (AI C S2 (0,0))/\W.heap[w.heap.size+3]?=Z (AI D S3 (0,0)):=by
 obtain⟨W,e⟩:∃W,W=(((w.alloc (AI A S0)).alloc (AI B S1)).alloc (AI C S2)).alloc (AI D S3):=⟨_,rfl⟩;exact⟨W,e,(by rw[e];exact((((Ia _ _).alloc (by simp<;>omega) _).alloc (by simp<;>omega) _).alloc (by simp<;>omega) _).alloc (by simp<;>omega) _),(by rw[e];simp),(by
  have h:=Ie w (AI A S0);rw[e,It _ _ _ (by simp<;>omega),It _ _ _ (by simp<;>omega),It _ _ _ (by simp<;>omega)];simpa using h),(by
  have h:=Ie (w.alloc (AI A S0)) (AI B S1);rw[e,It _ _ _ (by simp<;>omega),It _ _ _ (by simp<;>omega)];simpa using h),(by
  have h:=Ie ((w.alloc (AI A S0)).alloc (AI B S1)) (AI C S2);rw[e,It _ _ _ (by simp<;>omega)];simpa using h),(by
  have h:=Ie (((w.alloc (AI A S0)).alloc (AI B S1)).alloc (AI C S2)) (AI D S3);rw[e];simpa using h)⟩
def fV(ne er:Int)(n':Nd)(w:World)(e:Ending)(w':World):Prop:=Below w.heap.size w w' /\
 ((ne≠0/\e=sh (Il #[Ip #[I ⟨#[]⟩,I ⟨#[]⟩,U Y 0 0,U Y 0 0,U Y 0 0,U Y 0 0,O J 0,O J 0,O J 0,O J 0,O J 0,U Y 0 0],O J ne]))\/(ne=0/\er≠0/\e=sh (Il #[Ip #[I ⟨#[]⟩,I ⟨#[]⟩,U Y 0 0,U Y 0 0,U Y 0 0,U Y 0 0,O J 0,O J 0,O J 0,O J 0,O J 0,U Y 0 0],O J er])) \/
 (ne=0/\er=0/\∃um ur us ug uw,e=sh (Il #[Ip (fB n' um ur us ug uw),O J 0])/\gT w.heap.size w' n' um ur us ug uw/\ri n'))
theorem lO.wrap{ne er:Int}{n':Nd}{w W0 w1:World}{e:Ending}{rb:Nat}(h:lO ne er n' (λ_=>False) (λ_=>True) W0 e w1)(hb:Below w.heap.size w W0)(hz:W0.heap[rb]?=Z (AI #[I ⟨#[]⟩,I ⟨#[]⟩,U Y 0 0,U Y 0 0,U Y 0 0,U Y 0 0,O J 0,O J 0,O J 0,O J 0,O J 0,U Y 0 0] 30 (0,0)))(hle:w.heap.size<=rb) :
 w1.heap[rb]?=Z (AI #[I ⟨#[]⟩,I ⟨#[]⟩,U Y 0 0,U Y 0 0,U Y 0 0,U Y 0 0,O J 0,O J 0,O J 0,O J 0,O J 0,U Y 0 0] 30 (0,0))/\∃u0 u1 b2 m2 e2 b3 m3 e3 b4 m4 e4 b5 m5 e5 u6 u7 u8 u9 u10 b11 m11 e11 r,e=sh (Il #[Ip #[I u0,I u1,U b2 m2 e2,U b3 m3 e3,U b4 m4 e4,U b5 m5 e5,O J u6,O J u7,O J u8,O J u9,O J u10,U b11 m11 e11],O J r])/\Hid (fV ne er n' w (sh (Il #[Ip #[I u0,I u1,U b2 m2 e2,U b3 m3 e3,U b4 m4 e4,U b5 m5 e5,O J u6,O J u7,O J u8,O J u9,O J u10,U b11 m11 e11],O J r])) (cV rb [I u0,I u1,U b2 m2 e2,U b3 m3 e3,U b4 m4 e4,U b5 m5 e5,O J u6,O J u7,O J u8,O J u9,O J u10,U b11 m11 e11] 0 w1)):=by
 obtain⟨rV,xq⟩:=h;have aB:=(Ib.1 hz).1;have an:=rV.below (Nat.le_refl _) (λ_ hk=>hk.elim);have aD:=hb.trans (an.mono hb.size);refine⟨(an.block _ aB).trans hz,?_⟩;rcases xq with⟨bE,rfl⟩|⟨bE,zt,rfl⟩|⟨bE,zt,um,ur,us,ug,uw,rfl,hown,mU,_⟩
 .exact⟨_,_,_,_,_,_,_,_,_,_,_,_,_,_,_,_,_,_,_,_,_,_,_,rfl,cO hle _ _ aD,.inl ⟨bE,rfl⟩⟩
 .exact⟨_,_,_,_,_,_,_,_,_,_,_,_,_,_,_,_,_,_,_,_,_,_,_,rfl,cO hle _ _ aD,.inr (.inl ⟨bE,zt,rfl⟩)⟩
 .have ho:gT w.heap.size (cV rb [I n'.name,I n'.ai,um,ur,us,ug,O J n'.p.x,O J n'.p.y,O J n'.p.z,O J n'.p.h,O J n'.p.s,uw] 0 w1) n' um ur us ug uw:=⟨Own.mono (bV aB _ _ hown.ms) hb.size,bX.base (bV aB _ _ hown.rs) hb.size,Sv.Own.mono (bV aB _ _ hown.sv) hb.size,Gw.Own.mono (bV aB _ _ hown.gw) hb.size,Wh.Own.mono (bV aB _ _ hown.wh) hb.size⟩
  obtain⟨im2,jm2,rq,_⟩:=ax hown.ms;obtain⟨ir2,jr2,xi,_⟩:=ax hown.rs;obtain⟨is2,js2,BL,_⟩:=ax hown.sv;obtain⟨ig2,jg2,BM,_⟩:=ax hown.gw;obtain⟨ih2,jh2,BN,_⟩:=ax hown.wh;subst rq xi BL BM BN;exact⟨_,_,_,_,_,_,_,_,_,_,_,_,_,_,_,_,_,_,_,_,_,_,_,rfl,cO hle _ _ aD,.inr (.inr ⟨bE,zt,_,_,_,_,_,rfl,ho,mU⟩)⟩
theorem Nd.sp{n:Nd}(h:n.e=0):Sp n:=⟨(Nd.parts (Nd.jy h).1).ms,(Nd.parts (Nd.jy h).1).rs,(Nd.parts (Nd.jy h).1).name⟩
theorem B6(L b tb:Nat)(n:Nd)(t:ByteArray)(w:World)(h:Wk L w b n)(hL:L<=b)(Dl:Sp n)(ht:t.size<=maxLen)(hc:w.heap[tb]?=Z (AI #[I t] 9 (0,0))) :
 aT 53 #[Ig (Z ⟨b,0,Y⟩),Ig (Z ⟨tb,0,Y⟩)] w λe w'=>e=sh (O J (Gf n t 1 2))/\Sh (λk=>k=b) w w'/\Hid (Gf n t 1 2=0->Wk L w' b (Rm n t 2)):=by
 have HC:Hid (aT _ _ _ _):=B4 L b n t 1 2 w h hL Dl.ms Dl.rs Dl.name ht rfl;have y0:=af hc 0;clear h Dl hc;generalize Gf n t 1 2=we at *;go_enter Tryz.func53,Tryz.ntmps53;go_wp2_with fail;refine HC.out.mono ?_;rintro e w1 ⟨rfl,hs,hk⟩;have HS:Hid _:=hs;clear hs;go_wp2_with fail;go_ret;exact⟨rfl,HS.out,hk⟩
theorem Gg(n:Nd)(t:ByteArray)(vm vr vs vg vw:Value)(w:World)(h:ix w n vm vr vs vg vw)(ht:t.size<=maxLen) :
 aT 20 #[Ip (fB n vm vr vs vg vw),I t] w λe w'=>fV n.e (Gf n t 1 2) (Rm n t 2) w e w':=by
 have BI:Hid _:=h;obtain⟨W0,eu⟩:∃W0,W0=w.heap.size:=⟨_,rfl⟩;clear eu W0;have Hf:Hid (∀W0,Below w.heap.size w W0->W0.heap.size=w.heap.size+3->W0.heap[w.heap.size+1]?=Z (AI #[I t] 9 (0,0))->aT 45 #[Ip (fB n vm vr vs vg vw),.func (.func 53) #[] #[Ig (Z ⟨w.heap.size+1,0,Y⟩)]] W0 λe w'=>lO n.e (Gf n t 1 2) (Rm n t 2) (λ_=>False) (λ_=>True) W0 e w'):=λW0 hb hs kM=>
  zu 53 #[Ig (Z ⟨w.heap.size+1,0,Y⟩)] (enters_of Tryz.func53 (by kernel_rfl) rfl) n vm vr vs vg vw W0 (h.below hb) (λ_=>False) (Gf n t 1 2) (Rm n t 2) (λ_=>True)
   (λhe W b hW aD hk=>by
    refine(B6 (W0.heap.size+2) b (w.heap.size+1) n t W hk (by omega) (Nd.sp he) ht ((hW.block _ (by omega)).trans kM)).mono ?_;rintro e w' ⟨rfl,hs,hh⟩;exact⟨rfl,hs.mono (λk hk=>.inl (by omega)),λh=>⟨hh.out h,trivial⟩⟩
   ) (λ_ _ _ _=>trivial) (λ_ hk=>hk.elim)
 obtain⟨nm,ct,ms,rs,sv,gw,⟨px,py,pz,ph,pq⟩,wh⟩:=n;obtain⟨⟨em,cm,rfl,_,_⟩,⟨zp,cr,rfl,_,_⟩,⟨es,zq,rfl,_,_⟩,⟨zr,cg,rfl,_,_⟩,⟨eh,ch,rfl,_,_⟩,_,_⟩:=h;simp only[fB] at Hf ⊢;generalize ms.length=km at *;generalize rs.length=kr at *;generalize sv.length=ks at *;generalize gw.length=kg at *;generalize wh.length=kh at *;generalize Nd.e ⟨nm,ct,ms,rs,sv,gw,⟨px,py,pz,ph,pq⟩,wh⟩=ne at *;generalize Gf ⟨nm,ct,ms,rs,sv,gw,⟨px,py,pz,ph,pq⟩,wh⟩ t 1 2=er at *;generalize Rm ⟨nm,ct,ms,rs,sv,gw,⟨px,py,pz,ph,pq⟩,wh⟩ t 2=n' at *;obtain⟨W0,eu,eN,r8,SM,kM,cE⟩:=WG w #[I nm,I ct,U em km cm,U zp kr cr,U es ks zq,U zr kg cg,O J px,O J py,O J pz,O J ph,O J pq,U eh kh ch] #[I t] #[I ⟨#[]⟩,I ⟨#[]⟩,U Y 0 0,U Y 0 0,U Y 0 0,U Y 0 0,O J 0,O J 0,O J 0,O J 0,O J 0,U Y 0 0] 30 9 30;have SZ:=Hf.out W0 eN r8 kM;have dB:Hid _:=eN;have C8:Hid _:=cE;clear eN r8 SM kM cE Hf;go_enter Tryz.func20,Tryz.ntmps20;go_wp2_with fail;rw[<- eu];refine SZ.mono ?_;intro e w1 h;obtain⟨cP,u0,u1,b2,m2,e2,b3,m3,e3,b4,m4,e4,b5,m5,e5,u6,u7,u8,u9,u10,b11,m11,e11,r1,rfl,HR⟩:=h.wrap dB.out C8.out (by omega);obtain⟨q0,q1,q2,q3,q4,q5,q6,q7,q8,q9,q10,q11⟩:=bT cP;obtain⟨GZ,FK,G9,Ha,Hb,Hc,Wl,Wm,Wn,Wo,BJ,BK⟩:=tt cP;clear h cP SZ eu dB C8;simp only[cV,Nat.zero_add,Nat.reduceAdd] at HR;go_wp2_with fail;exact bodyPost_ret (v:=Il #[Ip #[I u0,I u1,U b2 m2 e2,U b3 m3 e3,U b4 m4 e4,U b5 m5 e5,O J u6,O J u7,O J u8,O J u9,O J u10,U b11 m11 e11],O J r1]) (by simp[results,Tryz.results20,go_sem,q0,q1,q2,q3,q4,q5,q6,q7,q8,q9,q10,q11]) rfl HR.out
end Go.Proofs.YtfidjlcdlakceaaGreatDoor
namespace Go.Proofs.YtfidjlcdlakceaaGreatDoor
namespace Wh
open Go.RowKit
end Wh
end Go.Proofs.YtfidjlcdlakceaaGreatDoor
namespace Go.Proofs.YtfidjlcdlakceaaGreatDoor
open Go.RowKit
def WI(w:World)(p:Pk)(A:Array Value):Prop:=∃vm vs vg vw,A=#[I p.fw,.bool p.whole,vm,vs,vg,vw]/\Sl w vm p.ms/\Sv.Sl w vs p.sv/\Gw.Sl w vg p.gw/\Wh.Sl w vw p.wh
def XD(t0 t1:ByteArray)(p2:Option Addr)(k2 c2:Nat)(p3:Option Addr)(k3 c3:Nat)(p4:Option Addr)(k4 c4:Nat)(p5:Option Addr)(k5 c5:Nat)(i6 i7 i8 i9 i10:Int)(p11:Option Addr)(k11 c11:Nat):Array Value:=
 #[I t0,I t1,U p2 k2 c2,U p3 k3 c3,U p4 k4 c4,U p5 k5 c5,O J i6,O J i7,O J i8,O J i9,O J i10,U p11 k11 c11]
def iy(w:World)(n:Nd)(A:Array Value):Prop:=∃vm vr vs vg vw,A=fB n vm vr vs vg vw/\ix w n vm vr vs vg vw
theorem iy.below{w w':World}{n:Nd}{A:Array Value}(h:iy w n A)(hb:Below w.heap.size w w'):iy w' n A:=by
 obtain⟨a,b,c,d,e,h1,h2⟩:=h;exact⟨a,b,c,d,e,h1,h2.below hb⟩
theorem iy.letters{w:World}{n:Nd}{A:Array Value}(h:iy w n A):∃t0 t1 p2 k2 c2 p3 k3 c3 p4 k4 c4 p5 k5 c5 i6 i7 i8 i9 i10 p11 k11 c11,A=XD t0 t1 p2 k2 c2 p3 k3 c3 p4 k4 c4 p5 k5 c5 i6 i7 i8 i9 i10 p11 k11 c11:=by
 obtain⟨vm,vr,vs,vg,vw,rfl,⟨pm,cm,rfl,_⟩,⟨pr,cr,rfl,_⟩,⟨ps,cs,rfl,_⟩,⟨pg,cg,rfl,_⟩,⟨pw,cw,rfl,_⟩,_,_⟩:=h;exact⟨_,_,_,_,_,_,_,_,_,_,_,_,_,_,_,_,_,_,_,_,_,_,rfl⟩
end Go.Proofs.YtfidjlcdlakceaaGreatDoor
