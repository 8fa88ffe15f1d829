import Derived.Test.YtfidhgjmifendaaGreatDoorng6
set_option maxHeartbeats 6400000
open Int renaming tdiv_eq_ediv_of_nonneg→Oi,ediv_nonneg→Uc
open Go.Value renaming agg→Ik,int→U,tuple→Im
open Go.IntKind renaming i64→O
open Go.Ending renaming returned→AT
open Go.Proofs.Tryz renaming prog→AS
open Go.RowKit.Below renaming refl→Ib
open Nat renaming le_refl→Ic
open Go renaming bodyPost_ret→IL
namespace Go.Proofs.YtfidhgjmifendaaGreatDoor
open Go.RowKit
def wI(a b:Pl):Int:=if a.s+b.s=0 then 500 else a.s*1000/(a.s+b.s)
def hZ(a b:Pl)(st:Int):Pl:=
 if fN a b=0 then⟨a.x+st,a.y,a.z,a.h+st.tdiv 10,a.s⟩
 else⟨a.x+(st*(a.x-b.x)).tdiv (fN a b),a.y+(st*(a.y-b.y)).tdiv (fN a b),a.z+(st*(a.z-b.z)).tdiv (fN a b),a.h+st.tdiv 10,a.s⟩
theorem tQ{a b A B:Int}(a0 : -A<=a)(a1:a<=A)(b0 : -B<=b)(b1:b<=B) : -(A*B)<=a*b/\a*b<=A*B:=by
 have h1:a.natAbs<=A.natAbs:=by omega
 have h2:b.natAbs<=B.natAbs:=by omega
 have h3:=Nat.mul_le_mul h1 h2;rw[<- Int.natAbs_mul,<- Int.natAbs_mul] at h3;have h4:0<=A*B:=Int.mul_nonneg (by omega) (by omega);omega
theorem lT{m k A:Int}(hk:0<k)(h0 : -A<=m)(h1:m<=A) : -A<=m.tdiv k/\m.tdiv k<=A:=by
 rcases Int.le_total 0 m with h|h
 .rw[Oi h]
  have:=Uc h (Int.le_of_lt hk);have:=Int.ediv_le_self k h;omega
 .have e:m.tdiv k = -((-m)/k):=by
   rw[<- Oi (by omega),Int.neg_tdiv,Int.neg_neg]
  rw[e];have:=Uc (a := -m) (by omega) (Int.le_of_lt hk);have:=Int.ediv_le_self k (a := -m) (by omega);omega
theorem E9(a b:Pl)(st:Int)(w:World)(ha:rn a)(hb:rn b)(h0 : -20000000<=st)(h1:st<=20000000)(hz:fN a b=0) :
 Calls AS 236 #[Ik #[U O a.x,U O a.y,U O a.z,U O a.h,U O a.s],Ik #[U O b.x,U O b.y,U O b.z,U O b.h,U O b.s],U O st] w λe w'=>e=AT (Ik #[U O (a.x+st),U O a.y,U O a.z,U O (a.h+st.tdiv 10),U O a.s])/\Below w.heap.size w w':=by
 have so:=λw=>qO a b w ha hb;rw[hz] at so;obtain⟨ax0,ax1,ay0,ay1,az0,az1,_,_,_,_⟩:=ha;obtain⟨bx0,bx1,by0,by1,bz0,bz1,_,_,_,_⟩:=hb;clear hz;obtain⟨x1,y1,z1,p1,s1⟩:=a;obtain⟨x2,y2,z2,p2,s2⟩:=b;simp only at *;have d0:=(lT (m:=st) (k:=10) (A:=20000000) (by omega) h0 h1).1;have d1:=(lT (m:=st) (k:=10) (A:=20000000) (by omega) h0 h1).2;go_enter Tryz.func236,Tryz.ntmps236;go_wp2_with fail;refine(so _).mono ?_;rintro e w1 ⟨rfl,aB⟩;obtain⟨hc,hf⟩:=cj aB;have hz:w.heap.size+1+1+1<w1.heap.size:=by have:=aB.size;simp at this;omega
 have aY:Hid _:=(((((Ib _ _).alloc (Ic _) _).alloc (by simp) _).alloc (by simp;omega) _).alloc (by simp;omega) _).trans (aB.mono (by simp;omega));clear aB so;go_wp2_with fail;exact IL (v:=Ik #[U O (x1+st),U O y1,U O z1,U O (p1+st.tdiv 10),U O s1]) (by simp[results,Tryz.results236,go_sem,hc]) rfl ⟨rfl,(((((aY.out.setCell (by simp;omega) _).setCell (by simp;omega) _).setCell (by simp;omega) _).setCell (by simp;omega) _).setCell (by simp;omega) _).setCell (by simp;omega) _⟩
theorem KQ(a b:Pl)(st D:Int)(w:World)(ha:rn a)(hb:rn b)(h0 : -20000000<=st)(h1:st<=20000000)(hD:fN a b=D)(hp:0<D) :
 Calls AS 236 #[Ik #[U O a.x,U O a.y,U O a.z,U O a.h,U O a.s],Ik #[U O b.x,U O b.y,U O b.z,U O b.h,U O b.s],U O st] w λe w'=>e=AT (Ik #[U O (a.x+(st*(a.x-b.x)).tdiv D),U O (a.y+(st*(a.y-b.y)).tdiv D),U O (a.z+(st*(a.z-b.z)).tdiv D),U O (a.h+st.tdiv 10),U O a.s])/\Below w.heap.size w w':=by
 have so:=λw=>qO a b w ha hb;rw[hD] at so;obtain⟨ax0,ax1,ay0,ay1,az0,az1,_,_,_,_⟩:=ha;obtain⟨bx0,bx1,by0,by1,bz0,bz1,_,_,_,_⟩:=hb;clear hD;obtain⟨x1,y1,z1,p1,s1⟩:=a;obtain⟨x2,y2,z2,p2,s2⟩:=b;simp only at *;have d0:=(lT (m:=st) (k:=10) (A:=20000000) (by omega) h0 h1).1;have d1:=(lT (m:=st) (k:=10) (A:=20000000) (by omega) h0 h1).2;obtain⟨mx0,mx1⟩:=tQ (a:=st) (b:=x1-x2) (A:=20000000) (B:=20000000) h0 h1 (by omega) (by omega);obtain⟨my0,my1⟩:=tQ (a:=st) (b:=y1-y2) (A:=20000000) (B:=20000000) h0 h1 (by omega) (by omega);obtain⟨mz0,mz1⟩:=tQ (a:=st) (b:=z1-z2) (A:=20000000) (B:=20000000) h0 h1 (by omega) (by omega);obtain⟨qx0,qx1⟩:=lT hp mx0 mx1;obtain⟨qy0,qy1⟩:=lT hp my0 my1;obtain⟨vI,vJ⟩:=lT hp mz0 mz1;go_enter Tryz.func236,Tryz.ntmps236;go_wp2_with fail;refine(so _).mono ?_;rintro e w1 ⟨rfl,aB⟩;obtain⟨hc,hf⟩:=cj aB;have hz:w.heap.size+1+1+1<w1.heap.size:=by have:=aB.size;simp at this;omega
 have aY:Hid _:=(((((Ib _ _).alloc (Ic _) _).alloc (by simp) _).alloc (by simp;omega) _).alloc (by simp;omega) _).trans (aB.mono (by simp;omega));clear aB so;go_wp2_with fail;go_region
 go_wp2_with fail;go_region
 go_wp2_with fail;go_region
 go_wp2_with fail;exact IL (v:=Ik #[U O (x1+(st*(x1-x2)).tdiv D),U O (y1+(st*(y1-y2)).tdiv D),U O (z1+(st*(z1-z2)).tdiv D),U O (p1+st.tdiv 10),U O s1]) (by simp[results,Tryz.results236,go_sem,hc]) rfl ⟨rfl,((((((((((aY.out.setCell (by simp;omega) _).setCell (by simp;omega) _).setCell (by simp;omega) _).setCell (by simp;omega) _).setCell (by simp;omega) _).setCell (by simp;omega) _).setCell (by simp;omega) _).setCell (by simp;omega) _).drew).drew).drew⟩
theorem KR(a b:Pl)(st:Int)(w:World)(ha:rn a)(hb:rn b)(h0 : -20000000<=st)(h1:st<=20000000) :
 Calls AS 236 #[Ik #[U O a.x,U O a.y,U O a.z,U O a.h,U O a.s],Ik #[U O b.x,U O b.y,U O b.z,U O b.h,U O b.s],U O st] w λe w'=>e=AT (Ik #[U O (hZ a b st).x,U O (hZ a b st).y,U O (hZ a b st).z,U O (hZ a b st).h,U O (hZ a b st).s])/\Below w.heap.size w w':=by
 by_cases hz:fN a b=0
 .unfold hZ
  rw[if_pos hz];exact E9 a b st w ha hb h0 h1 hz
 .unfold hZ
  rw[if_neg hz];exact KQ a b st _ w ha hb h0 h1 rfl (by have:=(qP ha hb).1;omega)
theorem Nu(a b:Pl)(st:Int):(hZ a b st).s=a.s:=by unfold hZ;split<;>rfl
theorem P3{a b:Pl}(ha:rn a)(hb:rn b):0<=wI a b/\wI a b<=1000:=by
 have h1:=ha.s0;have h2:=hb.s0;unfold wI;split
 .omega
 .refine⟨Uc (by omega) (by omega),?_⟩
  exact Int.ediv_le_of_le_mul (by omega) (by omega)
theorem B6(a b:Pl)(w:World)(ha:rn a)(hb:rn b) :
 Calls AS 235 #[Ik #[U O a.x,U O a.y,U O a.z,U O a.h,U O a.s],Ik #[U O b.x,U O b.y,U O b.z,U O b.h,U O b.s]] w λe w'=>e=AT (U O (wI a b))/\Below w.heap.size w w':=by
 have h1:=ha.s0;have h2:=hb.s0;have h3:=ha.s1;have h4:=hb.s1;have hw:=P3 ha hb;by_cases hz:a.s+b.s=0
 .have HE:Hid (wI a b=500):=(show wI a b=500 by unfold wI;rw[if_pos hz])
  clear hw;generalize wI a b=W at *;clear ha hb;obtain⟨x1,y1,z1,p1,s1⟩:=a;obtain⟨x2,y2,z2,p2,s2⟩:=b;simp only at *;go_enter Tryz.func235,Tryz.ntmps235;go_wp2_with fail;go_ret;exact⟨xE HE.out.symm,((Ib _ _).alloc (Ic _) _).alloc (by simp) _⟩
 .have HE:Hid (wI a b=a.s*1000/(a.s+b.s)):=(show wI a b=_ by unfold wI;rw[if_neg hz])
  rw[HE.out] at hw;obtain⟨w0,w1⟩:=hw;generalize wI a b=W at *;clear ha hb;obtain⟨x1,y1,z1,p1,s1⟩:=a;obtain⟨x2,y2,z2,p2,s2⟩:=b;simp only at *;have Wf:0<s1+s2:=by omega
  go_enter Tryz.func235,Tryz.ntmps235;go_wp2_with fail;go_ret;exact⟨xE (by rw[HE.out]),((Ib _ _).alloc (Ic _) _).alloc (by simp) _⟩
theorem vZ{m:Int}(h0 : -42000000000<=m)(h1:m<=42000000000) : -10500000<=m.tdiv 4000/\m.tdiv 4000<=10500000:=by
 rcases Int.le_total 0 m with h|h
 .rw[Oi h];omega
 .have e:m.tdiv 4000 = -((-m)/4000):=by
   rw[<- Oi (by omega),Int.neg_tdiv,Int.neg_neg]
  rw[e];omega
def eI(late round:Int):Int:=min (max late (-late)*1000/round) 1000
theorem WB(late round:Int)(hr:1<=round):0<=eI late round/\eI late round<=1000:=by
 have h:=Uc (a:=max late (-late)*1000) (b:=round) (by omega) (by omega);unfold eI;omega
def KS(a b:Pl)(round:Int):Int:=((round-rQ a b)*wI a b).tdiv 4000
def aeu(a b:Pl)(round:Int):Pl:=
 ⟨(hZ a b (KS a b round)).x,(hZ a b (KS a b round)).y,(hZ a b (KS a b round)).z,(hZ a b (KS a b round)).h,a.s+((eI (round-rQ a b) round-a.s)*wI a b).tdiv 4000⟩
def kU(a b:Pl)(round:Int):Pl:=L9 (aeu a b round)
theorem Nv{a b:Pl}(ha:rn a)(hb:rn b):0<=rQ a b/\rQ a b<=36641016:=by
 have:=qP ha hb;have:=ha.h0;have:=ha.h1;have:=hb.h0;have:=hb.h1;unfold rQ;omega
theorem rq(n a b:Int)(w:World) :
 Calls AS 54 #[U O n,U O a,U O b] w λe w'=>e=AT (.bool (mT n a b))/\w'=w:=by
 go_enter Tryz.func54,Tryz.ntmps54;go_wp2;all_goals
  go_ret;exact⟨aev (by unfold mT;rw[Bool.eq_iff_iff];simp;try omega),rfl⟩
abbrev w3(a b:Pl)(w:World):World:=((w.alloc (.cells #[U O a.x,U O a.y,U O a.z,U O a.h,U O a.s] 39)).alloc (.cells #[U O b.x,U O b.y,U O b.z,U O b.h,U O b.s] 39)).alloc (.cells #[U O 0,U O 0,U O 0,U O 0,U O 0] 39)
theorem WC(a b:Pl)(round:Int)(w:World)(aT:jf [a,b]≠0) :
 Calls AS 200 #[Ik #[U O a.x,U O a.y,U O a.z,U O a.h,U O a.s],Ik #[U O b.x,U O b.y,U O b.z,U O b.h,U O b.s],U O round] w λe w'=>e=AT (Im #[Ik #[U O 0,U O 0,U O 0,U O 0,U O 0],U O 3])/\Below w.heap.size w w':=by
 have h3:=(tR _).resolve_left aT;go_enter Tryz.func200,Tryz.ntmps200;go_wp2_with fail;refine(kE [a,b] _ _ 2 _ _ rfl (tS (by simp)) (by omega)).mono ?_;rintro e w1 ⟨rfl,aB⟩;rw[h3];obtain⟨hc,hf⟩:=cj aB;have hz:w.heap.size+1+1+1<w1.heap.size:=by have:=aB.size;simp at this;omega
 have HB:Hid _:=(((((Ib _ _).alloc (Ic _) _).alloc (by simp) _).alloc (by simp;omega) _).alloc (by simp;omega) _).trans (aB.mono (by simp;omega));clear aB;go_wp2_with fail;exact IL (v:=Im #[Ik #[U O 0,U O 0,U O 0,U O 0,U O 0],U O 3]) (by simp[results,Tryz.results200,go_sem,hc]) rfl ⟨rfl,((((HB.out.setCell (by simp;omega) _).setCell (by simp;omega) _).setCell (by simp;omega) _).setCell (by simp;omega) _).setCell (by simp;omega) _⟩
theorem B7(a b:Pl)(round:Int)(w:World)(h0:jf [a,b]=0)(hr:mT round 1 5000000=false) :
 Calls AS 200 #[Ik #[U O a.x,U O a.y,U O a.z,U O a.h,U O a.s],Ik #[U O b.x,U O b.y,U O b.z,U O b.h,U O b.s],U O round] w λe w'=>e=AT (Im #[Ik #[U O 0,U O 0,U O 0,U O 0,U O 0],U O 3])/\Below w.heap.size w w':=by
 go_enter Tryz.func200,Tryz.ntmps200;go_wp2_with fail;refine(kE [a,b] _ _ 2 _ _ rfl (tS (by simp)) (by omega)).mono ?_;rintro e w1 ⟨rfl,aB⟩;rw[h0];obtain⟨hc,hf⟩:=cj aB;have hz:w.heap.size+1+1+1<w1.heap.size:=by have:=aB.size;simp at this;omega
 have HB:Hid _:=(((((Ib _ _).alloc (Ic _) _).alloc (by simp) _).alloc (by simp;omega) _).alloc (by simp;omega) _).trans (aB.mono (by simp;omega));clear aB;go_wp2_with (go_at_call 54;refine(rq _ _ _ _).mono ?_;rintro e w' ⟨rfl,rfl⟩;rw[hr]);exact IL (v:=Im #[Ik #[U O 0,U O 0,U O 0,U O 0,U O 0],U O 3]) (by simp[results,Tryz.results200,go_sem,hc]) rfl ⟨rfl,((((HB.out.setCell (by simp;omega) _).setCell (by simp;omega) _).setCell (by simp;omega) _).setCell (by simp;omega) _).setCell (by simp;omega) _⟩
theorem Fa(a b:Pl)(round:Int)(w:World)(ha:rn a)(hb:rn b)(hr:mT round 1 5000000=true) :
 Calls AS 200 #[Ik #[U O a.x,U O a.y,U O a.z,U O a.h,U O a.s],Ik #[U O b.x,U O b.y,U O b.z,U O b.h,U O b.s],U O round] w λe w'=>e=AT (Im #[Ik #[U O (kU a b round).x,U O (kU a b round).y,U O (kU a b round).z,U O (kU a b round).h,U O (kU a b round).s],U O 0])/\Below w.heap.size w w':=by
 have h0:=(wa a b).2 ⟨ha,hb⟩;have Dn:∀(g:Nat) (W:World) (t:TypeId),g=W.heap.size->Calls AS 233 #[.slice (some ⟨g,0,none⟩) 2 2] (W.alloc (.cells #[U O a.x,U O a.y,U O a.z,U O a.h,U O a.s,U O b.x,U O b.y,U O b.z,U O b.h,U O b.s] t)) λe w'=>e=AT (U O 0)/\Below (W.heap.size+1) (W.alloc (.cells #[U O a.x,U O a.y,U O a.z,U O a.h,U O a.s,U O b.x,U O b.y,U O b.z,U O b.h,U O b.s] t)) w':=λg W t hg=>
  (kE [a,b] g 0 2 2 _ rfl (tS hg) (by omega)).mono (by rintro e w' ⟨rfl,hb⟩;exact⟨by rw[h0],by simpa using hb⟩)
 obtain⟨r0,r1⟩:=Fb hr;obtain⟨f0,f1⟩:=Nv ha hb;obtain⟨w0,w1⟩:=P3 ha hb;have WD:=λw=>Nw a b w ha hb;have WE:=λw=>B6 a b w ha hb;have zG:=λw=>KR a b (KS a b round) w ha hb;have oG:KS a b round=((round-rQ a b)*wI a b).tdiv 4000:=rfl;have hqs:=Nu a b (KS a b round);have HM:Hid (kU a b round=L9 ⟨(hZ a b (KS a b round)).x,(hZ a b (KS a b round)).y,(hZ a b (KS a b round)).z,(hZ a b (KS a b round)).h,a.s+((eI (round-rQ a b) round-a.s)*wI a b).tdiv 4000⟩):=(show kU a b round=_ from rfl);have s0:=ha.s0;have s1':=ha.s1;clear ha hb h0;generalize rQ a b=f at *;generalize wI a b=W at *;obtain⟨m0,m1⟩:=tQ (a:=round-f) (b:=W) (A:=42000000) (B:=1000) (by omega) (by omega) (by omega) (by omega);obtain⟨t0,t1⟩:=vZ (m:=(round-f)*W) (by omega) (by omega);rw[oG] at zG hqs HM;clear oG;have zG:=λw=>zG w (by omega) (by omega);generalize hZ a b (((round-f)*W).tdiv 4000)=q at *;generalize kU a b round=M at *;obtain⟨e0,e1⟩:=WB (round-f) round r0;have HEI:Hid (eI (round-f) round=min (max (round-f) (-(round-f))*1000/round) 1000):=(show eI (round-f) round=_ from rfl);generalize eI (round-f) round=E at *;obtain⟨n0,n1⟩:=tQ (a:=E-a.s) (b:=W) (A:=1000) (B:=1000) (by omega) (by omega) (by omega) (by omega);obtain⟨u0,u1⟩:=vZ (m:=(E-a.s)*W) (by omega) (by omega);obtain⟨x1,y1,z1,p1,s1⟩:=a;obtain⟨x2,y2,z2,p2,s2⟩:=b;obtain⟨qx,qy,qz,qh,qs⟩:=q;simp only at *;have aex:=hqs.symm;clear hqs;subst aex;go_enter Tryz.func200,Tryz.ntmps200;go_wp2_with fail;refine(Dn _ _ _ (by simp)).mono ?_;rintro e w1 ⟨rfl,aB⟩;have aY:Hid _:=((Ib _ _).alloc (Ic _) _).trans (aB.mono (by simp));obtain⟨hc,hf⟩:=cj aY.out;clear aB Dn;go_wp2_with (go_at_call 54;refine(rq _ _ _ _).mono ?_;rintro e w' ⟨rfl,rfl⟩;rw[hr]);refine(WD _).mono ?_;rintro e w2 ⟨rfl,aI⟩;have bp:Hid _:=aY.out.trans (aI.mono aY.out.size);clear hc hf aI aY WD;obtain⟨hc,hf⟩:=cj bp.out;go_wp2_with fail;refine(WE _).mono ?_;rintro e w3 ⟨rfl,bU⟩;have cF:Hid _:=bp.out.trans (bU.mono bp.out.size);clear hc hf bU bp WE;obtain⟨hc,hf⟩:=cj cF.out;go_wp2_with fail;refine(zG _).mono ?_;rintro e w4 ⟨rfl,eP⟩;have fE:Hid _:=cF.out.trans (eP.mono cF.out.size);clear hc hf eP cF zG;obtain⟨hc,hf⟩:=cj fE.out;have mj:w.heap.size+1+1<w4.heap.size:=by have:=fE.out.size;simp at this;omega
 have hza:w.heap.size<w4.heap.size:=by omega
 have WG:∀ob,(w4.alloc ob).cell? ⟨w.heap.size,4,none⟩=some (U O s1):=λob=>by
  rw[oC hza,hc _ _ (by simp;omega)];rw[oC (by simp;omega),oC (by simp),fy rfl];rfl
 rw[<- HEI.out];go_wp2_with fail;refine(ru _ _ _ _ _ _).mono ?_;rintro e w5 ⟨rfl,jz⟩;have gX:Hid _:=(fE.out.alloc fE.out.size _).trans (jz.mono (by have:=fE.out.size;simp at this ⊢;omega));clear hc hf jz fE WG;obtain⟨hc,hf⟩:=cj gX.out;have iY:w.heap.size+1+1<w5.heap.size:=by have:=gX.out.size;simp at this;omega
 have rD:Hid _:=((((Ib _ _).alloc (Ic _) _).alloc (by simp) _).alloc (by simp;omega) _).trans (gX.out.mono (by simp;omega));go_wp2_with fail;exact IL (v:=Im #[Ik #[U O (cP qx (-10000000) 10000000),U O (cP qy (-10000000) 10000000),U O (cP qz (-10000000) 10000000),U O (cP qh 0 1000000),U O (cP (s1+((E-s1)*W).tdiv 4000) 0 1000)],U O 0]) (by simp[results,Tryz.results200,go_sem,hc]) rfl ⟨by rw[HM.out];rfl,((((rD.out.setCell (by simp;omega) _).setCell (by simp;omega) _).setCell (by simp;omega) _).setCell (by simp;omega) _).setCell (by simp;omega) _⟩
end Go.Proofs.YtfidhgjmifendaaGreatDoor
