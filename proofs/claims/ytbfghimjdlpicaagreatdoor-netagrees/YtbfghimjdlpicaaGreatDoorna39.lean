import Derived.Test.YtbfghimjdlpicaaGreatDoorna32
import Derived.Test.YtbfghimjdlpicaaGreatDoorna38
set_option maxHeartbeats 25600000
set_option maxRecDepth 100000
open Int renaming tdiv_eq_ediv_of_nonneg→Ov
open Go.Value renaming int→U,agg→Ik,tuple→Ip,slice→J,pointer→If,string→Y
open Go.IntKind renaming i64→O
open Go.Ending renaming returned→AT
open Go.Proofs.Tryz renaming prog→AS
open Go.Obj renaming cells→By
open Go.RowKit.Below renaming refl→Ib
open Nat renaming le_refl→Ie
open Go renaming bodyPost_ret→IL,heap_alloc_new→Ij
open Option renaming some→AI,none→be
open Array renaming getElem?_eq_some_iff→BY
open Go.Joins renaming block_setCell→IC
namespace Go.Proofs.YtbfghimjdlpicaaGreatDoor
open Go.RowKit
theorem yz{m:Int}(h0 : -42000000000<=m)(h1:m<=42000000000) : -10500000<=m.tdiv 4000/\m.tdiv 4000<=10500000:=by
 rcases Int.le_total 0 m with h|h
 .rw[Ov h];omega
 .have e:m.tdiv 4000 = -((-m)/4000):=by
   rw[<- Ov (by omega),Int.neg_tdiv,Int.neg_neg]
  rw[e];omega
def eI(late round:Int):Int:=min (max late (-late)*1000/round) 1000
theorem adE(late round:Int)(hr:1<=round):0<=eI late round/\eI late round<=1000:=by
 have h:=Int.ediv_nonneg (a:=max late (-late)*1000) (b:=round) (by omega) (by omega);unfold eI;omega
def N5(a b:Pl)(round:Int):Int:=((round-uc a b)*wI a b).tdiv 4000
def ajs(a b:Pl)(round:Int):Pl:=
 ⟨(jj a b (N5 a b round)).x,(jj a b (N5 a b round)).y,(jj a b (N5 a b round)).z,(jj a b (N5 a b round)).h,a.s+((eI (round-uc a b) round-a.s)*wI a b).tdiv 4000⟩
def mB(a b:Pl)(round:Int):Pl:=Rm (ajs a b round)
theorem Td{a b:Pl}(ha:tE a)(hb:tE b):0<=uc a b/\uc a b<=36641016:=by
 have:=sY ha hb;have:=ha.h0;have:=ha.h1;have:=hb.h0;have:=hb.h1;unfold uc;omega
theorem tF(n a b:Int)(w:World) :
 Calls AS 51 #[U O n,U O a,U O b] w λe w'=>e=AT (.bool (oH n a b))/\w'=w:=by
 go_enter Tryz.func51,Tryz.ntmps51;go_wp2;all_goals
  go_ret;exact⟨ajt (by unfold oH;rw[Bool.eq_iff_iff];simp;try omega),rfl⟩
abbrev w3(a b:Pl)(w:World):World:=((w.alloc (By #[U O a.x,U O a.y,U O a.z,U O a.h,U O a.s] 36)).alloc (By #[U O b.x,U O b.y,U O b.z,U O b.h,U O b.s] 36)).alloc (By #[U O 0,U O 0,U O 0,U O 0,U O 0] 36)
theorem adF(a b:Pl)(round:Int)(w:World)(aP:kd [a,b]≠0) :
 Calls AS 185 #[Ik #[U O a.x,U O a.y,U O a.z,U O a.h,U O a.s],Ik #[U O b.x,U O b.y,U O b.z,U O b.h,U O b.s],U O round] w λe w'=>e=AT (Ip #[Ik #[U O 0,U O 0,U O 0,U O 0,U O 0],U O 3])/\Below w.heap.size w w':=by
 have h3:=(vU _).resolve_left aP;go_enter Tryz.func185,Tryz.ntmps185;go_wp2_with fail;refine(lY [a,b] _ _ 2 _ _ rfl (vV (by simp)) (by omega)).mono ?_;rintro e w1 ⟨rfl,aC⟩;rw[h3];obtain⟨hc,hf⟩:=cd aC;have hz:w.heap.size+1+1+1<w1.heap.size:=by have:=aC.size;simp at this;omega
 have HB:Hid _:=(((((Ib _ _).alloc (Ie _) _).alloc (by simp) _).alloc (by simp;omega) _).alloc (by simp;omega) _).trans (aC.mono (by simp;omega));clear aC;go_wp2_with fail;exact IL (v:=Ip #[Ik #[U O 0,U O 0,U O 0,U O 0,U O 0],U O 3]) (by simp[results,Tryz.results185,go_sem,hc]) rfl ⟨rfl,((((HB.out.setCell (by simp;omega) _).setCell (by simp;omega) _).setCell (by simp;omega) _).setCell (by simp;omega) _).setCell (by simp;omega) _⟩
theorem Ea(a b:Pl)(round:Int)(w:World)(h0:kd [a,b]=0)(hr:oH round 1 5000000=false) :
 Calls AS 185 #[Ik #[U O a.x,U O a.y,U O a.z,U O a.h,U O a.s],Ik #[U O b.x,U O b.y,U O b.z,U O b.h,U O b.s],U O round] w λe w'=>e=AT (Ip #[Ik #[U O 0,U O 0,U O 0,U O 0,U O 0],U O 3])/\Below w.heap.size w w':=by
 go_enter Tryz.func185,Tryz.ntmps185;go_wp2_with fail;refine(lY [a,b] _ _ 2 _ _ rfl (vV (by simp)) (by omega)).mono ?_;rintro e w1 ⟨rfl,aC⟩;rw[h0];obtain⟨hc,hf⟩:=cd aC;have hz:w.heap.size+1+1+1<w1.heap.size:=by have:=aC.size;simp at this;omega
 have HB:Hid _:=(((((Ib _ _).alloc (Ie _) _).alloc (by simp) _).alloc (by simp;omega) _).alloc (by simp;omega) _).trans (aC.mono (by simp;omega));clear aC;go_wp2_with (go_at_call 51;refine(tF _ _ _ _).mono ?_;rintro e w' ⟨rfl,rfl⟩;rw[hr]);exact IL (v:=Ip #[Ik #[U O 0,U O 0,U O 0,U O 0,U O 0],U O 3]) (by simp[results,Tryz.results185,go_sem,hc]) rfl ⟨rfl,((((HB.out.setCell (by simp;omega) _).setCell (by simp;omega) _).setCell (by simp;omega) _).setCell (by simp;omega) _).setCell (by simp;omega) _⟩
theorem KC(a b:Pl)(round:Int)(w:World)(ha:tE a)(hb:tE b)(hr:oH round 1 5000000=true) :
 Calls AS 185 #[Ik #[U O a.x,U O a.y,U O a.z,U O a.h,U O a.s],Ik #[U O b.x,U O b.y,U O b.z,U O b.h,U O b.s],U O round] w λe w'=>e=AT (Ip #[Ik #[U O (mB a b round).x,U O (mB a b round).y,U O (mB a b round).z,U O (mB a b round).h,U O (mB a b round).s],U O 0])/\Below w.heap.size w w':=by
 have h0:=(yA a b).2 ⟨ha,hb⟩;have FJ:∀(g:Nat) (W:World) (t:TypeId),g=W.heap.size->Calls AS 225 #[J (AI ⟨g,0,be⟩) 2 2] (W.alloc (By #[U O a.x,U O a.y,U O a.z,U O a.h,U O a.s,U O b.x,U O b.y,U O b.z,U O b.h,U O b.s] t)) λe w'=>e=AT (U O 0)/\Below (W.heap.size+1) (W.alloc (By #[U O a.x,U O a.y,U O a.z,U O a.h,U O a.s,U O b.x,U O b.y,U O b.z,U O b.h,U O b.s] t)) w':=λg W t hg=>
  (lY [a,b] g 0 2 2 _ rfl (vV hg) (by omega)).mono (by rintro e w' ⟨rfl,hb⟩;exact⟨by rw[h0],by simpa using hb⟩)
 obtain⟨r0,r1⟩:=KD hr;obtain⟨f0,f1⟩:=Td ha hb;obtain⟨w0,w1⟩:=VG ha hb;have adG:=λw=>Te a b w ha hb;have adH:=λw=>Eb a b w ha hb;have BS:=λw=>N6 a b (N5 a b round) w ha hb;have pK:N5 a b round=((round-uc a b)*wI a b).tdiv 4000:=rfl;have hqs:=Tf a b (N5 a b round);have HM:Hid (mB a b round=Rm ⟨(jj a b (N5 a b round)).x,(jj a b (N5 a b round)).y,(jj a b (N5 a b round)).z,(jj a b (N5 a b round)).h,a.s+((eI (round-uc a b) round-a.s)*wI a b).tdiv 4000⟩):=(show mB a b round=_ from rfl);have s0:=ha.s0;have s1':=ha.s1;clear ha hb h0;generalize uc a b=f at *;generalize wI a b=W at *;obtain⟨m0,m1⟩:=vW (a:=round-f) (b:=W) (A:=42000000) (B:=1000) (by omega) (by omega) (by omega) (by omega);obtain⟨t0,t1⟩:=yz (m:=(round-f)*W) (by omega) (by omega);rw[pK] at BS hqs HM;clear pK;have BS:=λw=>BS w (by omega) (by omega);generalize jj a b (((round-f)*W).tdiv 4000)=q at *;generalize mB a b round=M at *;obtain⟨e0,e1⟩:=adE (round-f) round r0;have HEI:Hid (eI (round-f) round=min (max (round-f) (-(round-f))*1000/round) 1000):=(show eI (round-f) round=_ from rfl);generalize eI (round-f) round=E at *;obtain⟨n0,n1⟩:=vW (a:=E-a.s) (b:=W) (A:=1000) (B:=1000) (by omega) (by omega) (by omega) (by omega);obtain⟨u0,u1⟩:=yz (m:=(E-a.s)*W) (by omega) (by omega);obtain⟨x1,y1,z1,p1,s1⟩:=a;obtain⟨x2,y2,z2,p2,s2⟩:=b;obtain⟨qx,qy,qz,qh,qs⟩:=q;simp only at *;have ajv:=hqs.symm;clear hqs;subst ajv;go_enter Tryz.func185,Tryz.ntmps185;go_wp2_with fail;refine(FJ _ _ _ (by simp)).mono ?_;rintro e w1 ⟨rfl,aC⟩;have aZ:Hid _:=((Ib _ _).alloc (Ie _) _).trans (aC.mono (by simp));obtain⟨hc,hf⟩:=cd aZ.out;clear aC FJ;go_wp2_with (go_at_call 51;refine(tF _ _ _ _).mono ?_;rintro e w' ⟨rfl,rfl⟩;rw[hr]);refine(adG _).mono ?_;rintro e w2 ⟨rfl,aL⟩;have bA:Hid _:=aZ.out.trans (aL.mono aZ.out.size);clear hc hf aL aZ adG;obtain⟨hc,hf⟩:=cd bA.out;go_wp2_with fail;refine(adH _).mono ?_;rintro e w3 ⟨rfl,bY⟩;have cF:Hid _:=bA.out.trans (bY.mono bA.out.size);clear hc hf bY bA adH;obtain⟨hc,hf⟩:=cd cF.out;go_wp2_with fail;refine(BS _).mono ?_;rintro e w4 ⟨rfl,eV⟩;have gC:Hid _:=cF.out.trans (eV.mono cF.out.size);clear hc hf eV cF BS;obtain⟨hc,hf⟩:=cd gC.out;have nP:w.heap.size+1+1<w4.heap.size:=by have:=gC.out.size;simp at this;omega
 have hza:w.heap.size<w4.heap.size:=by omega
 have adI:∀ob,(w4.alloc ob).cell? ⟨w.heap.size,4,be⟩=AI (U O s1):=λob=>by
  rw[qQ hza,hc _ _ (by simp;omega)];rw[qQ (by simp;omega),qQ (by simp),gr rfl];rfl
 rw[<- HEI.out];go_wp2_with fail;refine(tG _ _ _ _ _ _).mono ?_;rintro e w5 ⟨rfl,j9⟩;have jd:Hid _:=(gC.out.alloc gC.out.size _).trans (j9.mono (by have:=gC.out.size;simp at this ⊢;omega));clear hc hf j9 gC adI;obtain⟨hc,hf⟩:=cd jd.out;have jV:w.heap.size+1+1<w5.heap.size:=by have:=jd.out.size;simp at this;omega
 have tL:Hid _:=((((Ib _ _).alloc (Ie _) _).alloc (by simp) _).alloc (by simp;omega) _).trans (jd.out.mono (by simp;omega));go_wp2_with fail;exact IL (v:=Ip #[Ik #[U O (dd qx (-10000000) 10000000),U O (dd qy (-10000000) 10000000),U O (dd qz (-10000000) 10000000),U O (dd qh 0 1000000),U O (dd (s1+((E-s1)*W).tdiv 4000) 0 1000)],U O 0]) (by simp[results,Tryz.results185,go_sem,hc]) rfl ⟨by rw[HM.out];rfl,((((tL.out.setCell (by simp;omega) _).setCell (by simp;omega) _).setCell (by simp;omega) _).setCell (by simp;omega) _).setCell (by simp;omega) _⟩
def N7(t:ByteArray)(p:Pl):Wh.bT:=⟨t,p.x,p.y,p.z,p.h,p.s⟩
def Ec(n:Nd)(t:ByteArray)(p:Pl)(r:Int):Int:=if bl t=true then(if eF p=0 then(if t=n.name then 6 else if oH r 1 5000000=true then Vx n.wh (N7 t p) else 3) else 3) else 1
def LS(n:Nd)(t:ByteArray)(p:Pl)(r:Int):Nd:={ n with p:=mB n.p p r,wh:=Wh.aN n.wh (N7 t p) }
theorem KE(a b:Pl)(r:Int)(ha:eF a=0)(hb:eF b=0):∃(q:Pl),(oH r 1 5000000=true->q=mB a b r)/\∀W,Calls AS 185 #[Ik #[U O a.x,U O a.y,U O a.z,U O a.h,U O a.s],Ik #[U O b.x,U O b.y,U O b.z,U O b.h,U O b.s],U O r] W λe w'=>e=AT (Ip #[Ik #[U O q.x,U O q.y,U O q.z,U O q.h,U O q.s],U O (if oH r 1 5000000=true then 0 else 3)])/\Below W.heap.size W w':=by
 have ha':=(o9 a).1 ha;have yN:=(o9 b).1 hb;rcases hr:oH r 1 5000000 with _|_
 .exact⟨⟨0,0,0,0,0⟩,(λh=>by cases h),λW=>Ea a b r W ((yA a b).2 ⟨ha',yN⟩) hr⟩
 .exact⟨mB a b r,λ_=>rfl,λW=>KC a b r W ha' yN hr⟩
theorem Tg{b:Nat}{a w:World}(h:Sh (λk=>k=b) a w)(i0 i1 i2 i3 i4:Nat)(v0 v1 v2 v3 v4:Value):Sh (λk=>k=b) a (((((w.setCell ⟨b,i0,be⟩ v0).setCell ⟨b,i1,be⟩ v1).setCell ⟨b,i2,be⟩ v2).setCell ⟨b,i3,be⟩ v3).setCell ⟨b,i4,be⟩ v4):=
 ((((h.setCell (S:=λk=>k=b) rfl _).setCell (S:=λk=>k=b) rfl _).setCell (S:=λk=>k=b) rfl _).setCell (S:=λk=>k=b) rfl _).setCell (S:=λk=>k=b) rfl _
theorem Ed(L b:Nat)(n:Nd)(t:ByteArray)(p:Pl)(r:Int)(w:World)(h:Wk L w b n)(hL:L<=b)(hf:Wh.qA n.wh)(Mq:eF n.p=0)(ht:t.size<=maxLen) :
 Calls AS 129 #[If (AI ⟨b,0,be⟩),Y t,Ik #[U O p.x,U O p.y,U O p.z,U O p.h,U O p.s],U O r] w λe w'=>e=AT (U O (Ec n t p r))/\Sh (λk=>k=b) w w'/\Hid (Ec n t p r=0->Wk L w' b (LS n t p r)):=by
 have rJ:Hid (Wk L w b n):=h;have aO:=h.lt;obtain⟨vm,vr,vs,vg,vw,h1,h2,h3,h4⟩:=h;have HX:Hid (∀W,Below w.heap.size w W->(W.heap[w.heap.size]?=AI (By #[U O p.x,U O p.y,U O p.z,U O p.h,U O p.s] 36 (0,0)))->W.heap[b]?=AI (By (dE n vm vr vs vg vw) 107 (0,0))/\W.heap[w.heap.size]?=AI (By #[U O p.x,U O p.y,U O p.z,U O p.h,U O p.s] 36 (0,0))):=λW hW hp=>⟨(hW.block _ aO).trans h1,hp⟩;have od:Hid (∀W,Calls AS 100 #[Ik #[U O p.x,U O p.y,U O p.z,U O p.h,U O p.s]] W λe w'=>e=AT (U O (eF p))/\Below W.heap.size W w'):=λW=>mO p W;have HMV:Hid (eF p=0->∃(q:Pl),(oH r 1 5000000=true->q=mB n.p p r)/\∀W,Calls AS 185 #[Ik #[U O n.p.x,U O n.p.y,U O n.p.z,U O n.p.h,U O n.p.s],Ik #[U O p.x,U O p.y,U O p.z,U O p.h,U O p.s],U O r] W λe w'=>e=AT (Ip #[Ik #[U O q.x,U O q.y,U O q.z,U O q.h,U O q.s],U O (if oH r 1 5000000=true then 0 else 3)])/\Below W.heap.size W w'):=λh=>KE n.p p r Mq h;have Sg:Hid (∀(q:Pl) W,Below w.heap.size w W->Wk L (((((W.setCell ⟨b,6,be⟩ (U O q.x)).setCell ⟨b,7,be⟩ (U O q.y)).setCell ⟨b,8,be⟩ (U O q.z)).setCell ⟨b,9,be⟩ (U O q.h)).setCell ⟨b,10,be⟩ (U O q.s)) b { n with p:=q }):=λq W hW=>(rJ.out.below hW).aby q;have XO:Hid (∀(q:Pl) W,Wk L W b { n with p:=q }->Calls AS 186 #[If (AI ⟨b,0,be⟩),Ik #[Y t,U O p.x,U O p.y,U O p.z,U O p.h,U O p.s]] W λe w'=>e=AT (U O (Vx n.wh (N7 t p)))/\Sh (λk=>k=b) W w'/\Hid (Wk L w' b { n with p:=q,wh:=Wh.aN n.wh (N7 t p) })):=λq W hk=>Kc L b { n with p:=q } (N7 t p) W hk hL hf ht;have HE:Hid (Ec n t p r=if bl t=true then(if eF p=0 then(if t=n.name then 6 else if oH r 1 5000000=true then Vx n.wh (N7 t p) else 3) else 3) else 1):=rfl;have adJ:Hid (LS n t p r={ n with p:=mB n.p p r,wh:=Wh.aN n.wh (N7 t p) }):=rfl;have HCO:=FK p;generalize Ec n t p r=res at *;generalize LS n t p r=TN at *;generalize Vx n.wh (N7 t p)=nte at *;obtain⟨px,py,pz,ph,ps⟩:=p;simp only at HX od HMV XO;clear h2 h3 h4 hf Mq;obtain⟨W1,db,aC,-,cI⟩:=bV w #[U O px,U O py,U O pz,U O ph,U O ps] 36;have aZ:Hid (Below w.heap.size w W1):=aC;have xf:Hid _:=cI;have fO:W1.heap.size=w.heap.size+1:=by rw[db];simp
 have vh:Hid (W1.heap.size=w.heap.size+1):=fO;obtain⟨c0,c1,c2,c3,c4⟩:=jY cI;clear aC cI fO h1;have HLA:Hid (∀W,Calls AS 50 #[Y t] W λe w'=>e=AT (.bool (bl t))/\w'=W):=λW=>cj t W ht;go_enter Tryz.func129,Tryz.ntmps129;go_upto_region 1 with fail
 rw[<- db];clear db;rcases hlab:bl t with _|_
 .have HR:Hid (res=1):=HE.out.trans (by rw[hlab];rfl)
  rw[hlab] at HLA;clear HE;go_wp2_with (first|(go_at_call 50;refine(HLA.out _).mono ?_;rintro e w' ⟨rfl,Vf⟩;have Lr:=Vf.symm;subst Lr)|fail);go_ret;exact⟨an HR.out.symm,Sh.of aZ.out,λh=>by rw[HR.out] at h;cases h⟩
 rw[hlab] at HLA;go_wp2_with (first|(go_at_call 50;refine(HLA.out _).mono ?_;rintro e w' ⟨rfl,Vf⟩;have Lr:=Vf.symm;subst Lr)|fail);refine(od.out W1).mono ?_;rintro e w2 ⟨rfl,aL⟩;have bA:Hid (Below w.heap.size w w2):=aZ.out.trans (aL.mono aZ.out.size);have dO:w2.heap[w.heap.size]?=AI (By #[U O px,U O py,U O pz,U O ph,U O ps] 36 (0,0)):=(aL.block _ (by have:=vh.out;omega)).trans xf.out;clear c0 c1 c2 c3 c4 aL;rcases HCO with DM|DM;rotate_left
 .have HR:Hid (res=3):=HE.out.trans (by rw[hlab,DM];rfl)
  rw[DM];clear HE DM dO;go_wp2_with fail;go_ret;exact⟨an HR.out.symm,Sh.of bA.out,λh=>by rw[HR.out] at h;cases h⟩
 have lP:Hid (res=if t=n.name then 6 else if oH r 1 5000000=true then nte else 3):=HE.out.trans (by rw[hlab,DM];rfl);obtain⟨⟨mx,my,mz,mh,Th⟩,xz,hmv⟩:=HMV.out DM;rw[DM];clear HE DM HMV;have HTN:Hid (oH r 1 5000000=true->TN={ n with p:=⟨mx,my,mz,mh,Th⟩,wh:=Wh.aN n.wh (N7 t ⟨px,py,pz,ph,ps⟩) }):=λh=>by rw[adJ.out,xz h]
 have Cm:=λW hW=>Sg.out ⟨mx,my,mz,mh,Th⟩ W hW;have VH:=λW hk=>XO.out ⟨mx,my,mz,mh,Th⟩ W hk;have HMC:Hid _:=hmv;clear adJ Sg XO xz hmv;simp only at Cm VH;obtain⟨nnm,nct,nms,nrs,nsv,ngw,⟨ax,ay,az,ah,zp⟩,nwh⟩:=n;simp only[dE] at HX;simp only at lP HMC HTN Cm VH;have adK:Hid _:=Cm;have adL:Hid _:=VH;clear Cm VH;have Cm:=adK;have VH:=adL;clear adK adL;generalize(⟨nnm,nct,nms,nrs,nsv,ngw,⟨mx,my,mz,mh,Th⟩,nwh⟩:Nd)=NN at *;obtain⟨zX,_⟩:=HX.out w2 bA.out dO;have yR:Hid _:=dO;have HPB:Hid (∀W,Below w2.heap.size w2 W->W.heap[w.heap.size]?=AI (By #[U O px,U O py,U O pz,U O ph,U O ps] 36 (0,0))):=λW hW=>(hW.block _ (BY.1 yR.out).1).trans yR.out;have y0:w2.cell? ⟨b,0,be⟩=AI (Y nnm):=ae zX 0;obtain⟨c0,c1,c2,c3,c4⟩:=jY dO;have d0:w2.cell? ⟨b,6,be⟩=AI (U O ax):=ae zX 6;have d1:w2.cell? ⟨b,7,be⟩=AI (U O ay):=ae zX 7;have d2:w2.cell? ⟨b,8,be⟩=AI (U O az):=ae zX 8;have d3:w2.cell? ⟨b,9,be⟩=AI (U O ah):=ae zX 9;have d4:w2.cell? ⟨b,10,be⟩=AI (U O zp):=ae zX 10;have aL:b<w2.heap.size:=by have:=bA.out.size;omega
 have uS:w.heap.size<w2.heap.size:=(BY.1 dO).1;clear dO zX;by_cases cY:t=nnm
 .have HR:Hid (res=6):=lP.out.trans (if_pos cY)
  have hq:(t.toList==nnm.toList)=true:=by rw[cY];simp
  have Vd:t.toList=nnm.toList:=by rw[cY]
  clear lP cY;go_wp2_with fail;go_ret;exact⟨an HR.out.symm,Sh.of bA.out,λh=>by rw[HR.out] at h;cases h⟩
 have hq:(t.toList==nnm.toList)=false:=by rw[kC,decide_eq_false cY]
 have Bo:Hid (res=if oH r 1 5000000=true then nte else 3):=lP.out.trans (if_neg cY);clear lP cY;generalize oH r 1 5000000=bt at *;have HBT:Hid ((bt=true->res=nte)/\(bt=false->res=3)):=⟨λh=>by rw[Bo.out,h];rfl,λh=>by rw[Bo.out,h];rfl⟩;clear Bo;obtain⟨mE,hmE⟩:∃mE:Int,mE=if bt=true then 0 else 3:=⟨_,rfl⟩;rw[<- hmE] at HMC;have RG:Hid (mE=if bt=true then 0 else 3):=hmE;clear hmE;go_upto_region 8 with fail
 go_region_with (first|(go_at_call 185;refine(HMC.out _).mono ?_;rintro e w3 ⟨rfl,bY⟩;first
  |(have cF:Hid (Below w2.heap.size w2 w3):=(Ib w2.heap.size w2).drew.trans bY;clear bY)
  |(have cF:Hid (Below w2.heap.size w2 w3):=by
     first
     |exact(((Ib w2.heap.size w2).alloc (Ie _) _).drew).trans (bY.mono (by simp))
     |exact(((Ib w2.heap.size w2).drew).alloc (Ie _) _).trans (bY.mono (by simp))
    have su:w3.heap[w2.heap.size]?=AI (By #[U O 0,U O 0,U O 0,U O 0,U O 0] 36 (0,0)):=(bY.block _ (by simp)).trans (Ij w2 _);obtain⟨f0,f1,f2,f3,f4⟩:=jY su;obtain⟨g0,g1,g2,g3,g4⟩:=agB su;clear bY)))
 all_goals
  first
  |(obtain⟨V,hV⟩:∃V,V=w3.alloc (By #[U O mx,U O my,U O mz,U O mh,U O Th] 36):=⟨_,rfl⟩
    rw[<- hV];have xz:V.heap[w3.heap.size]?=AI (By #[U O mx,U O my,U O mz,U O mh,U O Th] 36 (0,0)):=by rw[hV];exact Ij w3 _
    have nV:Hid (Below w2.heap.size w2 V):=by rw[hV];exact cF.out.alloc cF.out.size _
    clear hV;generalize w3.heap.size=mb at xz ⊢)
  |(obtain⟨V,hV⟩:∃V,V=(((((w3.setCell ⟨w2.heap.size,0,be⟩ (U O mx)).setCell ⟨w2.heap.size,1,be⟩ (U O my)).setCell ⟨w2.heap.size,2,be⟩ (U O mz)).setCell ⟨w2.heap.size,3,be⟩ (U O mh)).setCell ⟨w2.heap.size,4,be⟩ (U O Th)):=⟨_,rfl⟩
    rw[<- hV];have xz:V.heap[w2.heap.size]?=AI (By #[U O mx,U O my,U O mz,U O mh,U O Th] 36 (0,0)):=by rw[hV];exact IC (i:=4) (IC (i:=3) (IC (i:=2) (IC (i:=1) (IC (i:=0) su _) _) _) _) _
    have nV:Hid (Below w2.heap.size w2 V):=by rw[hV];exact((((cF.out.setCell (p:=⟨w2.heap.size,0,be⟩) (Ie _) _).setCell (p:=⟨w2.heap.size,1,be⟩) (Ie _) _).setCell (p:=⟨w2.heap.size,2,be⟩) (Ie _) _).setCell (p:=⟨w2.heap.size,3,be⟩) (Ie _) _).setCell (p:=⟨w2.heap.size,4,be⟩) (Ie _) _
    clear hV f0 f1 f2 f3 f4 g0 g1 g2 g3 g4 su;generalize w2.heap.size=mb at xz ⊢)
  clear c0 c1 c2 c3 c4 d0 d1 d2 d3 d4 y0 aL uS;have qp:Hid (Below w.heap.size w V):=bA.out.trans (nV.out.mono bA.out.size);obtain⟨zX,Mb⟩:=HX.out V qp.out (HPB.out V nV.out);obtain⟨c0,c1,c2,c3,c4⟩:=jY Mb;obtain⟨m0,m1,m2,m3,m4⟩:=jY xz;have d0:V.cell? ⟨b,6,be⟩=AI (U O ax):=ae zX 6;have dz0:V.frozen? ⟨b,6,be⟩=false:=aA zX 6;have d1:V.cell? ⟨b,7,be⟩=AI (U O ay):=ae zX 7;have dz1:V.frozen? ⟨b,7,be⟩=false:=aA zX 7;have d2:V.cell? ⟨b,8,be⟩=AI (U O az):=ae zX 8;have dz2:V.frozen? ⟨b,8,be⟩=false:=aA zX 8;have d3:V.cell? ⟨b,9,be⟩=AI (U O ah):=ae zX 9;have dz3:V.frozen? ⟨b,9,be⟩=false:=aA zX 9;have d4:V.cell? ⟨b,10,be⟩=AI (U O zp):=ae zX 10;have dz4:V.frozen? ⟨b,10,be⟩=false:=aA zX 10;have S9:b<V.heap.size:=by have:=qp.out.size;omega
  have hwV:w.heap.size<V.heap.size:=(BY.1 Mb).1;have Bl:¬ w.heap.size=b:=by omega
  rcases Nl:bt with _|_
  .have adM:=HBT.out.2 Nl
   have Ct:Hid (res=3):=adM;have hm:mE=3:=RG.out.trans (by rw[Nl];rfl);rw[hm];clear hm adM Nl;go_wp2_with fail;go_ret;exact⟨an Ct.out.symm,Sh.of qp.out,λh=>by rw[Ct.out] at h;cases h⟩
  .have hm:mE=0:=RG.out.trans (by rw[Nl];rfl)
   have HRE:Hid (res=nte):=HBT.out.1 Nl;have HTE:Hid (TN=_):=HTN.out Nl;rw[hm];clear hm Nl;obtain⟨W9,hW9⟩:∃W9,W9=(((((V.setCell ⟨b,6,be⟩ (U O mx)).setCell ⟨b,7,be⟩ (U O my)).setCell ⟨b,8,be⟩ (U O mz)).setCell ⟨b,9,be⟩ (U O mh)).setCell ⟨b,10,be⟩ (U O Th)):=⟨_,rfl⟩;have HK9:Hid (Wk L W9 b NN):=by rw[hW9];exact Cm.out V qp.out
   have HS9:Hid (Sh (λk=>k=b) w W9):=by rw[hW9];exact Tg (Sh.of qp.out) _ _ _ _ _ _ _ _ _ _
   have hp9:W9.heap[w.heap.size]?=AI (By #[U O px,U O py,U O pz,U O ph,U O ps] 36 (0,0)):=by
    have e5:∀(W:World) (j:Nat) (v:Value),(W.setCell ⟨b,j,be⟩ v).heap[w.heap.size]?=W.heap[w.heap.size]?:=λW j v=>Below.heap_setCell _ _ _ _ (by simp only;omega);rw[hW9,e5,e5,e5,e5,e5];exact Mb
   go_upto_region 12 with fail
   rw[<- hW9];clear hW9 c0 c1 c2 c3 c4 m0 m1 m2 m3 m4 d0 dz0 d1 dz1 d2 dz2 d3 dz3 d4 dz4 zX Mb xz;obtain⟨c0,c1,c2,c3,c4⟩:=jY hp9;go_wp2_with fail;refine(VH.out W9 HK9.out).mono ?_;rintro e w9 ⟨rfl,hs9,hk9⟩;have ajA:Hid (Sh (λk=>k=b) w w9):=HS9.out.trans hs9;clear hs9;go_wp2_with fail;go_ret;exact⟨an HRE.out.symm,ajA.out,λ_=>by rw[HTE.out];exact hk9.out⟩
theorem Ee(L b tb:Nat)(n:Nd)(t:ByteArray)(p:Pl)(r:Int)(w:World)(h:Wk L w b n)(hL:L<=b)(hf:Wh.qA n.wh)(Mq:eF n.p=0)(ht:t.size<=maxLen)(hc1:w.heap[tb+1]?=AI (By #[Y t] 9 (0,0)))(BL:w.heap[tb+2]?=AI (By #[U O p.x,U O p.y,U O p.z,U O p.h,U O p.s] 36 (0,0)))(RJ:w.heap[tb+3]?=AI (By #[U O r] 3 (0,0))) :
 Calls AS 128 #[If (AI ⟨b,0,be⟩),If (AI ⟨tb+1,0,be⟩),If (AI ⟨tb+2,0,be⟩),If (AI ⟨tb+3,0,be⟩)] w λe w'=>e=AT (U O (Ec n t p r))/\Sh (λk=>k=b) w w'/\Hid (Ec n t p r=0->Wk L w' b (LS n t p r)):=by
 have HC:Hid (Calls AS 129 #[If (AI ⟨b,0,be⟩),Y t,Ik #[U O p.x,U O p.y,U O p.z,U O p.h,U O p.s],U O r] w λe w'=>e=AT (U O (Ec n t p r))/\Sh (λk=>k=b) w w'/\Hid (Ec n t p r=0->Wk L w' b (LS n t p r))):=Ed L b n t p r w h hL hf Mq ht;have y0:w.cell? ⟨tb+1,0,be⟩=AI (Y t):=ae hc1 0;have z0:w.cell? ⟨tb+3,0,be⟩=AI (U O r):=ae RJ 0;obtain⟨x0,x1,x2,x3,x4⟩:=jY BL;clear h hc1 BL RJ hf Mq;generalize Ec n t p r=we at *;generalize LS n t p r=wn at *;obtain⟨px,py,pz,ph,ps⟩:=p;simp only at HC x0 x1 x2 x3 x4;go_enter Tryz.func128,Tryz.ntmps128;go_wp2_with fail;refine HC.out.mono ?_;rintro e w1 ⟨rfl,hs,hk⟩;have HS:Hid (Sh (λk=>k=b) w w1):=hs;clear hs;go_wp2_with fail;go_ret;exact⟨rfl,HS.out,hk⟩
theorem KF(n:Nd)(t:ByteArray)(p:Pl)(r:Int)(vm vr vs vg vw:Value)(w:World)(h:eY w n vm vr vs vg vw)(ht:t.size<=maxLen) :
 Calls AS 86 #[Ik (dE n vm vr vs vg vw),Y t,Ik #[U O p.x,U O p.y,U O p.z,U O p.h,U O p.s],U O r] w λe w'=>dQ n.e (Ec n t p r) (LS n t p r) w e w':=by
 have nL:Hid (eY w n vm vr vs vg vw):=h;obtain⟨W0,bP⟩:∃W0,W0=w.heap.size:=⟨_,rfl⟩;clear bP W0;have ny:Hid (∀W0,Below w.heap.size w W0->W0.heap.size=w.heap.size+5->W0.heap[w.heap.size+1]?=AI (By #[Y t] 9 (0,0))->W0.heap[w.heap.size+2]?=AI (By #[U O p.x,U O p.y,U O p.z,U O p.h,U O p.s] 36 (0,0))->W0.heap[w.heap.size+3]?=AI (By #[U O r] 3 (0,0))->Calls AS 32 #[Ik (dE n vm vr vs vg vw),.func (.func 128) #[] #[If (AI ⟨w.heap.size+1,0,be⟩),If (AI ⟨w.heap.size+2,0,be⟩),If (AI ⟨w.heap.size+3,0,be⟩)]] W0 λe w'=>fZ n.e (Ec n t p r) (LS n t p r) (λ_=>False) (λ_=>True) W0 e w'):=λW0 hb hs hc1 BL RJ=>
  jM 128 #[If (AI ⟨w.heap.size+1,0,be⟩),If (AI ⟨w.heap.size+2,0,be⟩),If (AI ⟨w.heap.size+3,0,be⟩)] (enters_of Tryz.func128 (by kernel_rfl) rfl) n vm vr vs vg vw W0 (h.below hb) (λ_=>False) (Ec n t p r) (LS n t p r) (λ_=>True)
   (λhe W b hW aL hk=>by
    refine(Ee (W0.heap.size+2) b (w.heap.size) n t p r W hk (by omega) (Wh.vM (Nd.parts (Nd.aD he).1).wh h.ok.wh) (Nd.parts (Nd.aD he).1).p ht ((hW.block _ (by omega)).trans hc1) ((hW.block _ (by omega)).trans BL) ((hW.block _ (by omega)).trans RJ)).mono ?_;rintro e w' ⟨rfl,hs,hh⟩;exact⟨rfl,hs.mono (λk hk=>.inl (by omega)),λh=>⟨hh.out h,trivial⟩⟩
   ) (λ_ _ _ _=>trivial) (λ_ hk=>hk.elim)
 obtain⟨nm,ct,ms,rs,sv,gw,⟨px,py,pz,ph,pq⟩,wh⟩:=n;obtain⟨⟨em,cm,rfl,_,_⟩,⟨sJ,cr,rfl,_,_⟩,⟨es,sK,rfl,_,_⟩,⟨sL,cg,rfl,_,_⟩,⟨eh,ch,rfl,_,_⟩,_,_⟩:=h;simp only[dE] at ny ⊢;generalize ms.length=km at *;generalize rs.length=kr at *;generalize sv.length=ks at *;generalize gw.length=kg at *;generalize wh.length=kh at *;generalize Nd.e ⟨nm,ct,ms,rs,sv,gw,⟨px,py,pz,ph,pq⟩,wh⟩=ne at *;generalize Ec ⟨nm,ct,ms,rs,sv,gw,⟨px,py,pz,ph,pq⟩,wh⟩ t p r=er at *;generalize LS ⟨nm,ct,ms,rs,sv,gw,⟨px,py,pz,ph,pq⟩,wh⟩ t p r=n' at *;obtain⟨bx,by_,bz,bh,bs⟩:=p;simp only at ny ⊢;obtain⟨W0,bP,bK,fj,yf,hc1,BL,RJ,dt⟩:=Xd w #[Y nm,Y ct,J em km cm,J sJ kr cr,J es ks sK,J sL kg cg,U O px,U O py,U O pz,U O ph,U O pq,J eh kh ch] #[Y t] #[U O bx,U O by_,U O bz,U O bh,U O bs] #[U O r] #[Y ⟨#[]⟩,Y ⟨#[]⟩,J be 0 0,J be 0 0,J be 0 0,J be 0 0,U O 0,U O 0,U O 0,U O 0,U O 0,J be 0 0] 50 9 36 3 50;have tB:=ny.out W0 bK fj hc1 BL RJ;have df:Hid _:=bK;have pC:Hid _:=dt;clear bK fj yf hc1 BL RJ dt ny;go_enter Tryz.func86,Tryz.ntmps86;go_wp2_with fail;rw[<- bP];refine tB.mono ?_;intro e w1 h;obtain⟨dD,u0,u1,b2,m2,e2,b3,m3,e3,b4,m4,e4,b5,m5,e5,u6,u7,u8,u9,u10,b11,m11,e11,r1,rfl,HR⟩:=h.wrap df.out pC.out (by omega);obtain⟨q0,q1,q2,q3,q4,q5,q6,q7,q8,q9,q10,q11⟩:=bQ dD;obtain⟨xX,xY,zd,ze,zh,zi,Fc,Fe,Ff,Fg,rH,rI⟩:=kR dD;clear h dD tB bP df pC;simp only[aF,Nat.zero_add,Nat.reduceAdd] at HR;go_wp2_with fail;exact IL (v:=Ip #[Ik #[Y u0,Y u1,J b2 m2 e2,J b3 m3 e3,J b4 m4 e4,J b5 m5 e5,U O u6,U O u7,U O u8,U O u9,U O u10,J b11 m11 e11],U O r1]) (by simp[results,Tryz.results86,go_sem,q0,q1,q2,q3,q4,q5,q6,q7,q8,q9,q10,q11]) rfl HR.out
end Go.Proofs.YtbfghimjdlpicaaGreatDoor
