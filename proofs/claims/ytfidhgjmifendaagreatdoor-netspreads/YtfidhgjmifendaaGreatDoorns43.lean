import Derived.Test.YtfidhgjmifendaaGreatDoorns6
set_option maxHeartbeats 6400000
open Int renaming tdiv_eq_ediv_of_nonneg→Oj,ediv_nonneg→Uc
open Go.Value renaming agg→Ij,int→U,tuple→Ik
open Go.IntKind renaming i64→O
open Go.Ending renaming returned→AT
open Go.Proofs.Tryz renaming prog→AS
open Go.RowKit.Below renaming refl→Ib
open Nat renaming le_refl→Ic
open Go renaming bodyPost_ret→IK
namespace Go.Proofs.YtfidhgjmifendaaGreatDoor
open Go.RowKit
def wI(a b:Pl):Int:=if a.s+b.s=0 then 500 else a.s*1000/(a.s+b.s)
def iz(a b:Pl)(st:Int):Pl:=
 if fR a b=0 then⟨a.x+st,a.y,a.z,a.h+st.tdiv 10,a.s⟩
 else⟨a.x+(st*(a.x-b.x)).tdiv (fR a b),a.y+(st*(a.y-b.y)).tdiv (fR a b),a.z+(st*(a.z-b.z)).tdiv (fR a b),a.h+st.tdiv 10,a.s⟩
theorem uv{a b A B:Int}(a0 : -A<=a)(a1:a<=A)(b0 : -B<=b)(b1:b<=B) : -(A*B)<=a*b/\a*b<=A*B:=by
 have h1:a.natAbs<=A.natAbs:=by omega
 have h2:b.natAbs<=B.natAbs:=by omega
 have h3:=Nat.mul_le_mul h1 h2;rw[<- Int.natAbs_mul,<- Int.natAbs_mul] at h3;have h4:0<=A*B:=Int.mul_nonneg (by omega) (by omega);omega
theorem mq{m k A:Int}(hk:0<k)(h0 : -A<=m)(h1:m<=A) : -A<=m.tdiv k/\m.tdiv k<=A:=by
 rcases Int.le_total 0 m with h|h
 .rw[Oj h]
  have:=Uc h (Int.le_of_lt hk);have:=Int.ediv_le_self k h;omega
 .have e:m.tdiv k = -((-m)/k):=by
   rw[<- Oj (by omega),Int.neg_tdiv,Int.neg_neg]
  rw[e];have:=Uc (a := -m) (by omega) (Int.le_of_lt hk);have:=Int.ediv_le_self k (a := -m) (by omega);omega
theorem Fx(a b:Pl)(st:Int)(w:World)(ha:rV a)(hb:rV b)(h0 : -20000000<=st)(h1:st<=20000000)(hz:fR a b=0) :
 Calls AS 236 #[Ij #[U O a.x,U O a.y,U O a.z,U O a.h,U O a.s],Ij #[U O b.x,U O b.y,U O b.z,U O b.h,U O b.s],U O st] w λe w'=>e=AT (Ij #[U O (a.x+st),U O a.y,U O a.z,U O (a.h+st.tdiv 10),U O a.s])/\Below w.heap.size w w':=by
 have rW:=λw=>rD a b w ha hb;rw[hz] at rW;obtain⟨ax0,ax1,ay0,ay1,az0,az1,_,_,_,_⟩:=ha;obtain⟨bx0,bx1,by0,by1,bz0,bz1,_,_,_,_⟩:=hb;clear hz;obtain⟨x1,y1,z1,p1,s1⟩:=a;obtain⟨x2,y2,z2,p2,s2⟩:=b;simp only at *;have d0:=(mq (m:=st) (k:=10) (A:=20000000) (by omega) h0 h1).1;have d1:=(mq (m:=st) (k:=10) (A:=20000000) (by omega) h0 h1).2;go_enter Tryz.func236,Tryz.ntmps236;go_wp2_with fail;refine(rW _).mono ?_;rintro e w1 ⟨rfl,aB⟩;obtain⟨hc,hf⟩:=cC aB;have hz:w.heap.size+1+1+1<w1.heap.size:=by have:=aB.size;simp at this;omega
 have ba:Hid _:=(((((Ib _ _).alloc (Ic _) _).alloc (by simp) _).alloc (by simp;omega) _).alloc (by simp;omega) _).trans (aB.mono (by simp;omega));clear aB rW;go_wp2_with fail;exact IK (v:=Ij #[U O (x1+st),U O y1,U O z1,U O (p1+st.tdiv 10),U O s1]) (by simp[results,Tryz.results236,go_sem,hc]) rfl ⟨rfl,(((((ba.out.setCell (by simp;omega) _).setCell (by simp;omega) _).setCell (by simp;omega) _).setCell (by simp;omega) _).setCell (by simp;omega) _).setCell (by simp;omega) _⟩
theorem La(a b:Pl)(st D:Int)(w:World)(ha:rV a)(hb:rV b)(h0 : -20000000<=st)(h1:st<=20000000)(hD:fR a b=D)(hp:0<D) :
 Calls AS 236 #[Ij #[U O a.x,U O a.y,U O a.z,U O a.h,U O a.s],Ij #[U O b.x,U O b.y,U O b.z,U O b.h,U O b.s],U O st] w λe w'=>e=AT (Ij #[U O (a.x+(st*(a.x-b.x)).tdiv D),U O (a.y+(st*(a.y-b.y)).tdiv D),U O (a.z+(st*(a.z-b.z)).tdiv D),U O (a.h+st.tdiv 10),U O a.s])/\Below w.heap.size w w':=by
 have rW:=λw=>rD a b w ha hb;rw[hD] at rW;obtain⟨ax0,ax1,ay0,ay1,az0,az1,_,_,_,_⟩:=ha;obtain⟨bx0,bx1,by0,by1,bz0,bz1,_,_,_,_⟩:=hb;clear hD;obtain⟨x1,y1,z1,p1,s1⟩:=a;obtain⟨x2,y2,z2,p2,s2⟩:=b;simp only at *;have d0:=(mq (m:=st) (k:=10) (A:=20000000) (by omega) h0 h1).1;have d1:=(mq (m:=st) (k:=10) (A:=20000000) (by omega) h0 h1).2;obtain⟨mx0,mx1⟩:=uv (a:=st) (b:=x1-x2) (A:=20000000) (B:=20000000) h0 h1 (by omega) (by omega);obtain⟨my0,my1⟩:=uv (a:=st) (b:=y1-y2) (A:=20000000) (B:=20000000) h0 h1 (by omega) (by omega);obtain⟨mz0,mz1⟩:=uv (a:=st) (b:=z1-z2) (A:=20000000) (B:=20000000) h0 h1 (by omega) (by omega);obtain⟨qx0,qx1⟩:=mq hp mx0 mx1;obtain⟨qy0,qy1⟩:=mq hp my0 my1;obtain⟨wi,wj⟩:=mq hp mz0 mz1;go_enter Tryz.func236,Tryz.ntmps236;go_wp2_with fail;refine(rW _).mono ?_;rintro e w1 ⟨rfl,aB⟩;obtain⟨hc,hf⟩:=cC aB;have hz:w.heap.size+1+1+1<w1.heap.size:=by have:=aB.size;simp at this;omega
 have ba:Hid _:=(((((Ib _ _).alloc (Ic _) _).alloc (by simp) _).alloc (by simp;omega) _).alloc (by simp;omega) _).trans (aB.mono (by simp;omega));clear aB rW;go_wp2_with fail;go_region
 go_wp2_with fail;go_region
 go_wp2_with fail;go_region
 go_wp2_with fail;exact IK (v:=Ij #[U O (x1+(st*(x1-x2)).tdiv D),U O (y1+(st*(y1-y2)).tdiv D),U O (z1+(st*(z1-z2)).tdiv D),U O (p1+st.tdiv 10),U O s1]) (by simp[results,Tryz.results236,go_sem,hc]) rfl ⟨rfl,((((((((((ba.out.setCell (by simp;omega) _).setCell (by simp;omega) _).setCell (by simp;omega) _).setCell (by simp;omega) _).setCell (by simp;omega) _).setCell (by simp;omega) _).setCell (by simp;omega) _).setCell (by simp;omega) _).drew).drew).drew⟩
theorem Lb(a b:Pl)(st:Int)(w:World)(ha:rV a)(hb:rV b)(h0 : -20000000<=st)(h1:st<=20000000) :
 Calls AS 236 #[Ij #[U O a.x,U O a.y,U O a.z,U O a.h,U O a.s],Ij #[U O b.x,U O b.y,U O b.z,U O b.h,U O b.s],U O st] w λe w'=>e=AT (Ij #[U O (iz a b st).x,U O (iz a b st).y,U O (iz a b st).z,U O (iz a b st).h,U O (iz a b st).s])/\Below w.heap.size w w':=by
 by_cases hz:fR a b=0
 .unfold iz
  rw[if_pos hz];exact Fx a b st w ha hb h0 h1 hz
 .unfold iz
  rw[if_neg hz];exact La a b st _ w ha hb h0 h1 rfl (by have:=(rE ha hb).1;omega)
theorem NP(a b:Pl)(st:Int):(iz a b st).s=a.s:=by unfold iz;split<;>rfl
theorem Rj{a b:Pl}(ha:rV a)(hb:rV b):0<=wI a b/\wI a b<=1000:=by
 have h1:=ha.s0;have h2:=hb.s0;unfold wI;split
 .omega
 .refine⟨Uc (by omega) (by omega),?_⟩
  exact Int.ediv_le_of_le_mul (by omega) (by omega)
theorem Cq(a b:Pl)(w:World)(ha:rV a)(hb:rV b) :
 Calls AS 235 #[Ij #[U O a.x,U O a.y,U O a.z,U O a.h,U O a.s],Ij #[U O b.x,U O b.y,U O b.z,U O b.h,U O b.s]] w λe w'=>e=AT (U O (wI a b))/\Below w.heap.size w w':=by
 have h1:=ha.s0;have h2:=hb.s0;have h3:=ha.s1;have h4:=hb.s1;have hw:=Rj ha hb;by_cases hz:a.s+b.s=0
 .have HE:Hid (wI a b=500):=(show wI a b=500 by unfold wI;rw[if_pos hz])
  clear hw;generalize wI a b=W at *;clear ha hb;obtain⟨x1,y1,z1,p1,s1⟩:=a;obtain⟨x2,y2,z2,p2,s2⟩:=b;simp only at *;go_enter Tryz.func235,Tryz.ntmps235;go_wp2_with fail;go_ret;exact⟨yi HE.out.symm,((Ib _ _).alloc (Ic _) _).alloc (by simp) _⟩
 .have HE:Hid (wI a b=a.s*1000/(a.s+b.s)):=(show wI a b=_ by unfold wI;rw[if_neg hz])
  rw[HE.out] at hw;obtain⟨w0,w1⟩:=hw;generalize wI a b=W at *;clear ha hb;obtain⟨x1,y1,z1,p1,s1⟩:=a;obtain⟨x2,y2,z2,p2,s2⟩:=b;simp only at *;have WJ:0<s1+s2:=by omega
  go_enter Tryz.func235,Tryz.ntmps235;go_wp2_with fail;go_ret;exact⟨yi (by rw[HE.out]),((Ib _ _).alloc (Ic _) _).alloc (by simp) _⟩
theorem wP{m:Int}(h0 : -42000000000<=m)(h1:m<=42000000000) : -10500000<=m.tdiv 4000/\m.tdiv 4000<=10500000:=by
 rcases Int.le_total 0 m with h|h
 .rw[Oj h];omega
 .have e:m.tdiv 4000 = -((-m)/4000):=by
   rw[<- Oj (by omega),Int.neg_tdiv,Int.neg_neg]
  rw[e];omega
def eI(late round:Int):Int:=min (max late (-late)*1000/round) 1000
theorem Xb(late round:Int)(hr:1<=round):0<=eI late round/\eI late round<=1000:=by
 have h:=Uc (a:=max late (-late)*1000) (b:=round) (by omega) (by omega);unfold eI;omega
def Lc(a b:Pl)(round:Int):Int:=((round-sF a b)*wI a b).tdiv 4000
def afa(a b:Pl)(round:Int):Pl:=
 ⟨(iz a b (Lc a b round)).x,(iz a b (Lc a b round)).y,(iz a b (Lc a b round)).z,(iz a b (Lc a b round)).h,a.s+((eI (round-sF a b) round-a.s)*wI a b).tdiv 4000⟩
def ly(a b:Pl)(round:Int):Pl:=Mt (afa a b round)
theorem NQ{a b:Pl}(ha:rV a)(hb:rV b):0<=sF a b/\sF a b<=36641016:=by
 have:=rE ha hb;have:=ha.h0;have:=ha.h1;have:=hb.h0;have:=hb.h1;unfold sF;omega
theorem rX(n a b:Int)(w:World) :
 Calls AS 54 #[U O n,U O a,U O b] w λe w'=>e=AT (.bool (nt n a b))/\w'=w:=by
 go_enter Tryz.func54,Tryz.ntmps54;go_wp2;all_goals
  go_ret;exact⟨afb (by unfold nt;rw[Bool.eq_iff_iff];simp;try omega),rfl⟩
abbrev w3(a b:Pl)(w:World):World:=((w.alloc (.cells #[U O a.x,U O a.y,U O a.z,U O a.h,U O a.s] 39)).alloc (.cells #[U O b.x,U O b.y,U O b.z,U O b.h,U O b.s] 39)).alloc (.cells #[U O 0,U O 0,U O 0,U O 0,U O 0] 39)
theorem Xc(a b:Pl)(round:Int)(w:World)(aQ:jA [a,b]≠0) :
 Calls AS 200 #[Ij #[U O a.x,U O a.y,U O a.z,U O a.h,U O a.s],Ij #[U O b.x,U O b.y,U O b.z,U O b.h,U O b.s],U O round] w λe w'=>e=AT (Ik #[Ij #[U O 0,U O 0,U O 0,U O 0,U O 0],U O 3])/\Below w.heap.size w w':=by
 have h3:=(ux _).resolve_left aQ;go_enter Tryz.func200,Tryz.ntmps200;go_wp2_with fail;refine(kU [a,b] _ _ 2 _ _ rfl (uy (by simp)) (by omega)).mono ?_;rintro e w1 ⟨rfl,aB⟩;rw[h3];obtain⟨hc,hf⟩:=cC aB;have hz:w.heap.size+1+1+1<w1.heap.size:=by have:=aB.size;simp at this;omega
 have HB:Hid _:=(((((Ib _ _).alloc (Ic _) _).alloc (by simp) _).alloc (by simp;omega) _).alloc (by simp;omega) _).trans (aB.mono (by simp;omega));clear aB;go_wp2_with fail;exact IK (v:=Ik #[Ij #[U O 0,U O 0,U O 0,U O 0,U O 0],U O 3]) (by simp[results,Tryz.results200,go_sem,hc]) rfl ⟨rfl,((((HB.out.setCell (by simp;omega) _).setCell (by simp;omega) _).setCell (by simp;omega) _).setCell (by simp;omega) _).setCell (by simp;omega) _⟩
theorem Cr(a b:Pl)(round:Int)(w:World)(h0:jA [a,b]=0)(hr:nt round 1 5000000=false) :
 Calls AS 200 #[Ij #[U O a.x,U O a.y,U O a.z,U O a.h,U O a.s],Ij #[U O b.x,U O b.y,U O b.z,U O b.h,U O b.s],U O round] w λe w'=>e=AT (Ik #[Ij #[U O 0,U O 0,U O 0,U O 0,U O 0],U O 3])/\Below w.heap.size w w':=by
 go_enter Tryz.func200,Tryz.ntmps200;go_wp2_with fail;refine(kU [a,b] _ _ 2 _ _ rfl (uy (by simp)) (by omega)).mono ?_;rintro e w1 ⟨rfl,aB⟩;rw[h0];obtain⟨hc,hf⟩:=cC aB;have hz:w.heap.size+1+1+1<w1.heap.size:=by have:=aB.size;simp at this;omega
 have HB:Hid _:=(((((Ib _ _).alloc (Ic _) _).alloc (by simp) _).alloc (by simp;omega) _).alloc (by simp;omega) _).trans (aB.mono (by simp;omega));clear aB;go_wp2_with (go_at_call 54;refine(rX _ _ _ _).mono ?_;rintro e w' ⟨rfl,rfl⟩;rw[hr]);exact IK (v:=Ik #[Ij #[U O 0,U O 0,U O 0,U O 0,U O 0],U O 3]) (by simp[results,Tryz.results200,go_sem,hc]) rfl ⟨rfl,((((HB.out.setCell (by simp;omega) _).setCell (by simp;omega) _).setCell (by simp;omega) _).setCell (by simp;omega) _).setCell (by simp;omega) _⟩
theorem Fy(a b:Pl)(round:Int)(w:World)(ha:rV a)(hb:rV b)(hr:nt round 1 5000000=true) :
 Calls AS 200 #[Ij #[U O a.x,U O a.y,U O a.z,U O a.h,U O a.s],Ij #[U O b.x,U O b.y,U O b.z,U O b.h,U O b.s],U O round] w λe w'=>e=AT (Ik #[Ij #[U O (ly a b round).x,U O (ly a b round).y,U O (ly a b round).z,U O (ly a b round).h,U O (ly a b round).s],U O 0])/\Below w.heap.size w w':=by
 have h0:=(wQ a b).2 ⟨ha,hb⟩;have DL:∀(g:Nat) (W:World) (t:TypeId),g=W.heap.size->Calls AS 233 #[.slice (some ⟨g,0,none⟩) 2 2] (W.alloc (.cells #[U O a.x,U O a.y,U O a.z,U O a.h,U O a.s,U O b.x,U O b.y,U O b.z,U O b.h,U O b.s] t)) λe w'=>e=AT (U O 0)/\Below (W.heap.size+1) (W.alloc (.cells #[U O a.x,U O a.y,U O a.z,U O a.h,U O a.s,U O b.x,U O b.y,U O b.z,U O b.h,U O b.s] t)) w':=λg W t hg=>
  (kU [a,b] g 0 2 2 _ rfl (uy hg) (by omega)).mono (by rintro e w' ⟨rfl,hb⟩;exact⟨by rw[h0],by simpa using hb⟩)
 obtain⟨r0,r1⟩:=Fz hr;obtain⟨f0,f1⟩:=NQ ha hb;obtain⟨w0,w1⟩:=Rj ha hb;have Xd:=λw=>NR a b w ha hb;have Xe:=λw=>Cq a b w ha hb;have Ac:=λw=>Lb a b (Lc a b round) w ha hb;have pC:Lc a b round=((round-sF a b)*wI a b).tdiv 4000:=rfl;have hqs:=NP a b (Lc a b round);have HM:Hid (ly a b round=Mt ⟨(iz a b (Lc a b round)).x,(iz a b (Lc a b round)).y,(iz a b (Lc a b round)).z,(iz a b (Lc a b round)).h,a.s+((eI (round-sF a b) round-a.s)*wI a b).tdiv 4000⟩):=(show ly a b round=_ from rfl);have s0:=ha.s0;have s1':=ha.s1;clear ha hb h0;generalize sF a b=f at *;generalize wI a b=W at *;obtain⟨m0,m1⟩:=uv (a:=round-f) (b:=W) (A:=42000000) (B:=1000) (by omega) (by omega) (by omega) (by omega);obtain⟨t0,t1⟩:=wP (m:=(round-f)*W) (by omega) (by omega);rw[pC] at Ac hqs HM;clear pC;have Ac:=λw=>Ac w (by omega) (by omega);generalize iz a b (((round-f)*W).tdiv 4000)=q at *;generalize ly a b round=M at *;obtain⟨e0,e1⟩:=Xb (round-f) round r0;have HEI:Hid (eI (round-f) round=min (max (round-f) (-(round-f))*1000/round) 1000):=(show eI (round-f) round=_ from rfl);generalize eI (round-f) round=E at *;obtain⟨n0,n1⟩:=uv (a:=E-a.s) (b:=W) (A:=1000) (B:=1000) (by omega) (by omega) (by omega) (by omega);obtain⟨u0,u1⟩:=wP (m:=(E-a.s)*W) (by omega) (by omega);obtain⟨x1,y1,z1,p1,s1⟩:=a;obtain⟨x2,y2,z2,p2,s2⟩:=b;obtain⟨qx,qy,qz,qh,qs⟩:=q;simp only at *;have afd:=hqs.symm;clear hqs;subst afd;go_enter Tryz.func200,Tryz.ntmps200;go_wp2_with fail;refine(DL _ _ _ (by simp)).mono ?_;rintro e w1 ⟨rfl,aB⟩;have ba:Hid _:=((Ib _ _).alloc (Ic _) _).trans (aB.mono (by simp));obtain⟨hc,hf⟩:=cC ba.out;clear aB DL;go_wp2_with (go_at_call 54;refine(rX _ _ _ _).mono ?_;rintro e w' ⟨rfl,rfl⟩;rw[hr]);refine(Xd _).mono ?_;rintro e w2 ⟨rfl,aK⟩;have bu:Hid _:=ba.out.trans (aK.mono ba.out.size);clear hc hf aK ba Xd;obtain⟨hc,hf⟩:=cC bu.out;go_wp2_with fail;refine(Xe _).mono ?_;rintro e w3 ⟨rfl,bX⟩;have cJ:Hid _:=bu.out.trans (bX.mono bu.out.size);clear hc hf bX bu Xe;obtain⟨hc,hf⟩:=cC cJ.out;go_wp2_with fail;refine(Ac _).mono ?_;rintro e w4 ⟨rfl,eU⟩;have fO:Hid _:=cJ.out.trans (eU.mono cJ.out.size);clear hc hf eU cJ Ac;obtain⟨hc,hf⟩:=cC fO.out;have mH:w.heap.size+1+1<w4.heap.size:=by have:=fO.out.size;simp at this;omega
 have hza:w.heap.size<w4.heap.size:=by omega
 have Xf:∀ob,(w4.alloc ob).cell? ⟨w.heap.size,4,none⟩=some (U O s1):=λob=>by
  rw[po hza,hc _ _ (by simp;omega)];rw[po (by simp;omega),po (by simp),fJ rfl];rfl
 rw[<- HEI.out];go_wp2_with fail;refine(rY _ _ _ _ _ _).mono ?_;rintro e w5 ⟨rfl,jD⟩;have iy:Hid _:=(fO.out.alloc fO.out.size _).trans (jD.mono (by have:=fO.out.size;simp at this ⊢;omega));clear hc hf jD fO Xf;obtain⟨hc,hf⟩:=cC iy.out;have ju:w.heap.size+1+1<w5.heap.size:=by have:=iy.out.size;simp at this;omega
 have pD:Hid _:=((((Ib _ _).alloc (Ic _) _).alloc (by simp) _).alloc (by simp;omega) _).trans (iy.out.mono (by simp;omega));go_wp2_with fail;exact IK (v:=Ik #[Ij #[U O (cS qx (-10000000) 10000000),U O (cS qy (-10000000) 10000000),U O (cS qz (-10000000) 10000000),U O (cS qh 0 1000000),U O (cS (s1+((E-s1)*W).tdiv 4000) 0 1000)],U O 0]) (by simp[results,Tryz.results200,go_sem,hc]) rfl ⟨by rw[HM.out];rfl,((((pD.out.setCell (by simp;omega) _).setCell (by simp;omega) _).setCell (by simp;omega) _).setCell (by simp;omega) _).setCell (by simp;omega) _⟩
end Go.Proofs.YtfidhgjmifendaaGreatDoor
