import Derived.Test.YtfidjlcdlakceaaGreatDoortf7
import Derived.Laws.AppendOwnNone
set_option maxHeartbeats 1600000
set_option maxRecDepth 100000
open Go.IntKind renaming wrap_i64→IK,i64→J
open Go.Value renaming agg→Im,int→O,string→I,slice→U
open Go.Ending renaming returned→sh
open Go.RowKit.Below renaming refl→Ib
open Nat renaming le_refl→By,not_lt_zero→Ji,lt_succ_iff_lt_or_eq→Jj,zero_le→II
open Option renaming none→Y,some→Z
open Go.Sort renaming grow→Ip
open Go renaming redrawn→IA,cell_regrown→Iq,wp_region_quiet_below→IL
open List renaming length_append→Ii,getD→Io,getElem?_eq_getElem→Ic
namespace Go.Proofs.YtfidjlcdlakceaaGreatDoor
open Go.RowKit
def F7(a b:Pl):Int:=(a.x-b.x)*(a.x-b.x)+(a.y-b.y)*(a.y-b.y)+(a.z-b.z)*(a.z-b.z)
def j2(a b:Pl):Int:=rt (F7 a b)
def MP(a b:Pl):Int:=j2 a b+a.h+b.h
theorem Cq{m:Int}(h0 : -9223372036854775808<=m)(h1:m<=9223372036854775807):IntKind.i64.wrap m=m:=by
 rw[IK];omega
theorem sq_nonneg(x:Int):0<=x*x:=by
 rcases Int.le_total 0 x with h|h
 .exact Int.mul_nonneg h h
 .exact Int.mul_nonneg_of_nonpos_of_nonpos h h
theorem ae4{x m:Int}(h0 : -m<=x)(h1:x<=m):x*x<=m*m:=by
 rcases Int.le_total 0 x with h|h
 .exact FY h h1
 .have:=FY (a := -x) (b:=m) (by omega) (by omega)
  rwa [Int.neg_mul_neg] at this
theorem yb{x:Int}(h0 : -20000000<=x)(h1:x<=20000000):x*x<=400000000000000:=ae4 (m:=20000000) h0 h1
theorem Cr{a b:Pl}(ha:zK a)(hb:zK b):0<=F7 a b/\F7 a b<=1200000000000000:=by
 have h1:=yb (x:=a.x-b.x) (by have:=ha.x0;have:=hb.x1;omega) (by have:=ha.x1;have:=hb.x0;omega);have h2:=yb (x:=a.y-b.y) (by have:=ha.y0;have:=hb.y1;omega) (by have:=ha.y1;have:=hb.y0;omega);have h3:=yb (x:=a.z-b.z) (by have:=ha.z0;have:=hb.z1;omega) (by have:=ha.z1;have:=hb.z0;omega);have g1:=sq_nonneg (a.x-b.x);have g2:=sq_nonneg (a.y-b.y);have g3:=sq_nonneg (a.z-b.z);unfold F7;omega
theorem LY{n r:Int}(h:rv n r):rv n (rt n):=by rw[rt_eq h];exact h
theorem F8:∀(n:Nat),∃r:Nat,rv n r
 |0=>⟨0,by decide,by decide,by decide⟩
 |n+1=>by
  obtain⟨r,h0,h1,h2⟩:=F8 n;by_cases h:(((r+1:Nat):Int))*((r+1:Nat):Int)<=((n+1:Nat):Int)
  .refine⟨r+1,by omega,h,?_⟩
   have e1:((r:Int)+1+1)*((r:Int)+1+1)=((r:Int)+1)*((r:Int)+1)+2*r+3:=by
    simp only[Int.add_mul,Int.mul_add];omega
   push_cast
   omega
  .refine⟨r,h0,by push_cast;omega,by push_cast at h ⊢;omega⟩
theorem ae5{n:Int}(h:0<=n):rv n (rt n):=by
 obtain⟨r,hr⟩:=F8 n.toNat;rw[Int.toNat_of_nonneg h] at hr;exact LY hr
theorem ae6{n:Int}(h0:0<=n)(h1:n<=1200000000000000):0<=rt n/\rt n<=34641016:=by
 obtain⟨h,g,_⟩:=ae5 h0;refine⟨h,?_⟩;apply Classical.byContradiction;intro c;have:=FY (a:=34641017) (b:=rt n) (by omega) (by omega);omega
theorem xd{a b:Pl}(ha:zK a)(hb:zK b):0<=j2 a b/\j2 a b<=34641016:=
 ae6 (Cr ha hb).1 (Cr ha hb).2
theorem LZ(a b:Pl)(w:World)(ha:zK a)(hb:zK b) :
 Calls Tryz.prog 295 #[Im #[O J a.x,O J a.y,O J a.z,O J a.h,O J a.s],Im #[O J b.x,O J b.y,O J b.z,O J b.h,O J b.s]] w λe w'=>e=sh (O J (j2 a b))/\Below w.heap.size w w':=by
 have h1:=yb (x:=a.x-b.x) (by have:=ha.x0;have:=hb.x1;omega) (by have:=ha.x1;have:=hb.x0;omega);have h2:=yb (x:=a.y-b.y) (by have:=ha.y0;have:=hb.y1;omega) (by have:=ha.y1;have:=hb.y0;omega);have h3:=yb (x:=a.z-b.z) (by have:=ha.z0;have:=hb.z1;omega) (by have:=ha.z1;have:=hb.z0;omega);have g1:=sq_nonneg (a.x-b.x);have g2:=sq_nonneg (a.y-b.y);have g3:=sq_nonneg (a.z-b.z);have HE:Hid (j2 a b=rt ((a.x-b.x)*(a.x-b.x)+(a.y-b.y)*(a.y-b.y)+(a.z-b.z)*(a.z-b.z))):=(show j2 a b=_ from rfl);obtain⟨ax0,ax1,ay0,ay1,az0,az1,_,_,_,_⟩:=ha;obtain⟨bx0,bx1,by0,by1,bz0,bz1,_,_,_,_⟩:=hb;generalize j2 a b=r at *;obtain⟨x1,y1,z1,p1,s1⟩:=a;obtain⟨x2,y2,z2,p2,s2⟩:=b;simp only at *;go_enter Tryz.func295,Tryz.ntmps295;go_wp2_with fail;go_quiet (fail)
 go_wp2_with (go_at_call 308;refine(Sd _ _ (by omega) (by omega)).mono ?_;rintro e w' ⟨rfl,rfl⟩);go_ret;exact⟨ES HE.out.symm,below_drewN (((Ib _ _).alloc (By _) _).alloc (by simp) _) _⟩
theorem Tl(a b:Pl)(w:World)(ha:zK a)(hb:zK b) :
 Calls Tryz.prog 286 #[Im #[O J a.x,O J a.y,O J a.z,O J a.h,O J a.s],Im #[O J b.x,O J b.y,O J b.z,O J b.h,O J b.s]] w λe w'=>e=sh (O J (MP a b))/\Below w.heap.size w w':=by
 obtain⟨r0,r1⟩:=xd ha hb;have HE:Hid (MP a b=j2 a b+a.h+b.h):=(show MP a b=_ from rfl);have hap:=λw=>LZ a b w ha hb;have h0:=ha.h0;have h1:=ha.h1;have g0:=hb.h0;have g1:=hb.h1;clear ha hb;generalize j2 a b=r at *;generalize MP a b=f at *;obtain⟨x1,y1,z1,p1,s1⟩:=a;obtain⟨x2,y2,z2,p2,s2⟩:=b;simp only at *;generalize hW:(w.alloc (.cells #[O J x1,O J y1,O J z1,O J p1,O J s1] 27)).alloc (.cells #[O J x2,O J y2,O J z2,O J p2,O J s2] 27)=W at *;have HW:Hid (Below w.heap.size w W):=by rw[<- hW];exact((Ib _ _).alloc (By _) _).alloc (by simp) _
 have E0:∀d os,(Ip (IA W d) os).cell? ⟨w.heap.size,0,Y⟩=Z (O J x1):=Iq (by rw[<- hW];simp);have E1:∀d os,(Ip (IA W d) os).cell? ⟨w.heap.size,1,Y⟩=Z (O J y1):=Iq (by rw[<- hW];simp);have E2:∀d os,(Ip (IA W d) os).cell? ⟨w.heap.size,2,Y⟩=Z (O J z1):=Iq (by rw[<- hW];simp);have E3:∀d os,(Ip (IA W d) os).cell? ⟨w.heap.size,3,Y⟩=Z (O J p1):=Iq (by rw[<- hW];simp);have E4:∀d os,(Ip (IA W d) os).cell? ⟨w.heap.size,4,Y⟩=Z (O J s1):=Iq (by rw[<- hW];simp);have F0:∀d os,(Ip (IA W d) os).cell? ⟨w.heap.size+1,0,Y⟩=Z (O J x2):=Iq (by rw[<- hW];simp);have F1:∀d os,(Ip (IA W d) os).cell? ⟨w.heap.size+1,1,Y⟩=Z (O J y2):=Iq (by rw[<- hW];simp);have F2:∀d os,(Ip (IA W d) os).cell? ⟨w.heap.size+1,2,Y⟩=Z (O J z2):=Iq (by rw[<- hW];simp);have F3:∀d os,(Ip (IA W d) os).cell? ⟨w.heap.size+1,3,Y⟩=Z (O J p2):=Iq (by rw[<- hW];simp);have F4:∀d os,(Ip (IA W d) os).cell? ⟨w.heap.size+1,4,Y⟩=Z (O J s2):=Iq (by rw[<- hW];simp);have cN:∀d os,Calls Tryz.prog 295 #[Im #[O J x1,O J y1,O J z1,O J p1,O J s1],Im #[O J x2,O J y2,O J z2,O J p2,O J s2]] (Ip (IA W d) os) λe gO=>e=sh (O J r)/\∃p:Regrown,gO=Ip (IA W p.d) p.os:=λd os=>
  Calls.regrown_of ((hap _).mono (by rintro e w' ⟨rfl,hb⟩;exact⟨rfl,hb⟩))
 clear hap;go_enter Tryz.func286,Tryz.ntmps286;go_wp2_with fail;refine IL (by kernel_rfl) (by kernel_rfl) ?_;repeat(quiet_step (exact cN _ _))
 refine bK λdq j8 eR=>?_;clear cN E0 E1 E2 E3 E4 F0 F1 F2 F3 F4;go_wp2_with fail;go_ret;exact⟨ES (by rw[Cq (m:=r+p1) (by omega) (by omega),Cq (by omega) (by omega)];exact HE.out.symm),HW.out.trans (eR.out.mono HW.out.size)⟩
end Go.Proofs.YtfidjlcdlakceaaGreatDoor
namespace Go.Proofs.YtfidjlcdlakceaaGreatDoor
namespace Wh
open Go.RowKit
theorem ET(a b:bC)(w:World) :
 nZ 198 #[Im #[I a.node,O J a.x,O J a.y,O J a.z,O J a.h,O J a.s],Im #[I b.node,O J b.x,O J b.y,O J b.z,O J b.h,O J b.s]] w (O J (ord a b)):=by
 go_enter Tryz.func198,Tryz.ntmps198;go_wp2_with (go_at_call 110;refine(fb _ _ _).mono ?_;rintro e w' ⟨rfl,rfl⟩);go_ret;exact⟨rfl,((Ib _ _).alloc (By _) _).alloc (by simp) _⟩
theorem EU(ms:List bC)(b off cap:Nat)(w:World)(hr:Row w b off ms)(hb:b<w.heap.size)(hn:ms.length<=20) :
 aP 199 #[U (Z ⟨b,off,Y⟩) ms.length cap,.func (.func 198) #[] #[]] w λe w'=>e=sh (.bool (aE ms))/\Below w.heap.size w w':=by
 have HR:Hid (Row w b off ms):=hr;clear hr;have H4:Hid (∀k,k+1<ms.length->0<=ord (ms.getD k dm) (ms.getD (k+1) dm)->aE ms=false):=λk hk hl=>by
  rcases h:aE ms with _|_
  .rfl
  .have:=fc ms h k hk;omega
 have H0:Hid _:=fe ms;generalize hN:ms.length=n at *;have HN:Hid _:=hN;clear hN;generalize hC:aE ms=res at *;have HC:Hid _:=hC;clear hC;go_enter Tryz.func199,Tryz.ntmps199;go_wp2_with fail;go_loopw [5] (λi w'=>∃k:Nat,(k+1<=n\/k=0)/\i=O J (k+1)/\Below w.heap.size w w'/\Hid (∀j,j<k->ord (ms.getD j dm) (ms.getD (j+1) dm)<0)) (λi _=>n-(intOf i).toNat)
 case atStart=>exact⟨0,.inr rfl,rfl,Ib _ _,λj h=>absurd h (Ji _)⟩
 case round=>
  obtain⟨q,hq,rfl,aU,hz⟩:=hrel;obtain⟨eA,nO⟩:=cH aU;have bA:=aU.size;by_cases aL:q+1<n
  .obtain⟨c0,c1,c2,c3,c4,c5⟩:=HR.out q (by rw[HN.out];omega)
   obtain⟨d0,d1,d2,d3,d4,d5⟩:=HR.out (q+1) (by rw[HN.out];exact aL);have HK:Hid (0<=ord (ms.getD q dm) (ms.getD (q+1) dm)->res=false):=λh=>H4.out q aL h;have HZ:Hid (ord (ms.getD q dm) (ms.getD (q+1) dm)<0->∀j,j<q+1->ord (ms.getD j dm) (ms.getD (j+1) dm)<0):=λh j hj=>by
    rcases Jj.1 hj with h2|rfl
    .exact hz.out j h2
    .exact h
   generalize ms.getD q dm=m1 at *;generalize ms.getD (q+1) dm=m2 at *;have hN:∀d os,aP 198 #[Im #[I m1.node,O J m1.x,O J m1.y,O J m1.z,O J m1.h,O J m1.s],Im #[I m2.node,O J m2.x,O J m2.y,O J m2.z,O J m2.h,O J m2.s]] (Ip (IA wr d) os) λe gO=>e=sh (O J (ord m1 m2))/\∃p:Regrown,gO=Ip (IA wr p.d) p.os:=λd os=>Calls.regrown_of (ET m1 m2 _);have F0:∀d os,(Ip (IA wr d) os).cell? ⟨b,off+q*6,Y⟩=Z (I m1.node):=Iq ((eA _ _ hb).trans c0);have F1:∀d os,(Ip (IA wr d) os).cell? ⟨b,off+q*6+1,Y⟩=Z (O J m1.x):=Iq ((eA _ _ hb).trans c1);have F2:∀d os,(Ip (IA wr d) os).cell? ⟨b,off+q*6+2,Y⟩=Z (O J m1.y):=Iq ((eA _ _ hb).trans c2);have F3:∀d os,(Ip (IA wr d) os).cell? ⟨b,off+q*6+3,Y⟩=Z (O J m1.z):=Iq ((eA _ _ hb).trans c3);have F4:∀d os,(Ip (IA wr d) os).cell? ⟨b,off+q*6+4,Y⟩=Z (O J m1.h):=Iq ((eA _ _ hb).trans c4);have F5:∀d os,(Ip (IA wr d) os).cell? ⟨b,off+q*6+5,Y⟩=Z (O J m1.s):=Iq ((eA _ _ hb).trans c5);have G0:∀d os,(Ip (IA wr d) os).cell? ⟨b,off+(q+1)*6,Y⟩=Z (I m2.node):=Iq ((eA _ _ hb).trans d0);have G1:∀d os,(Ip (IA wr d) os).cell? ⟨b,off+(q+1)*6+1,Y⟩=Z (O J m2.x):=Iq ((eA _ _ hb).trans d1);have G2:∀d os,(Ip (IA wr d) os).cell? ⟨b,off+(q+1)*6+2,Y⟩=Z (O J m2.y):=Iq ((eA _ _ hb).trans d2);have G3:∀d os,(Ip (IA wr d) os).cell? ⟨b,off+(q+1)*6+3,Y⟩=Z (O J m2.z):=Iq ((eA _ _ hb).trans d3);have G4:∀d os,(Ip (IA wr d) os).cell? ⟨b,off+(q+1)*6+4,Y⟩=Z (O J m2.h):=Iq ((eA _ _ hb).trans d4);have G5:∀d os,(Ip (IA wr d) os).cell? ⟨b,off+(q+1)*6+5,Y⟩=Z (O J m2.s):=Iq ((eA _ _ hb).trans d5);clear c0 c1 c2 c3 c4 c5 d0 d1 d2 d3 d4 d5 eA nO;generalize ord m1 m2=r at *;have xb:IntKind.i64.wrap (q:Int)=(q:Int):=by rw[IK];omega
   have MA:q<n:=by omega
   have iw:(q:Int)+1<(n:Int):=by omega
   have hq0:(0:Int)<=(q:Int)+1:=by omega
   have L3:((q:Int)+1).toNat=q+1:=by omega
   by_cases hl:r<0
   .have fG:¬ (0<=r):=by omega
    go_wp2_with fail;refine IL (by kernel_rfl) (by kernel_rfl) ?_;repeat(quiet_step (exact hN _ _))
    refine bK λdq j8 eR=>?_;clear hN F0 F1 F2 F3 F4 F5 G0 G1 G2 G3 G4 G5;go_wp2_with fail;go_roundw
    case rel=>exact⟨q+1,.inl (by omega),by go_num,aU.trans (eR.out.mono bA),HZ.out hl⟩
    case measure=>simp[intOf];omega
   .have fG:0<=r:=by omega
    have h4:Hid _:=HK.out fG;go_wp2_with fail;refine IL (by kernel_rfl) (by kernel_rfl) ?_;repeat(quiet_step (exact hN _ _))
    refine bK λdq j8 eR=>?_;clear hN F0 F1 F2 F3 F4 F5 G0 G1 G2 G3 G4 G5;go_wp2_with fail;go_ret;exact⟨aD h4.out.symm,aU.trans (eR.out.mono bA)⟩
  .have h0:Hid _:=H0.out λj hj=>hz.out j (by omega)
   go_wp2_with fail;go_ret;exact⟨aD h0.out.symm,aU⟩
theorem gR(ms:List bC)(b off cap:Nat)(w:World)(hr:Row w b off ms)(hb:b<w.heap.size)(hn:ms.length<=20)(hs:∀j,(ms.getD j dm).ok) :
 nZ 143 #[U (Z ⟨b,off,Y⟩) ms.length cap] w (O J (ba ms)):=by
 have HR:Hid (Row w b off ms):=hr;have HE:Hid (∀k,k<ms.length->(∀j,j<k->(ms.getD j dm).e=0)->(ms.getD k dm).e≠0->ba ms=(ms.getD k dm).e):=λk h1 h2 h3=>tC ms k hn h1 h2 h3;have H4:Hid ((∀j,j<ms.length->(ms.getD j dm).e=0)->ba ms=if aE ms=true then 0 else 4):=λh1=>rD ms hn h1;have MH:Hid (∀w',Below w.heap.size w w'->aP _ _ _ _):=λw' rE=>EU ms b off cap w' (hr.later rE hb) (Nat.lt_of_lt_of_le hb rE.size) hn;clear hr;generalize hN:ms.length=n at *;have HN:Hid _:=hN;clear hN;have HS:Hid _:=hs;clear hs;generalize hC:ba ms=res at *;have HC:Hid _:=hC;clear hC;generalize MI:aE ms=rb at *;have XI:Hid _:=MI;clear MI;go_enter Tryz.func143,Tryz.ntmps143;go_wp2_with fail;go_loopw [12] (λi w'=>∃k:Nat,k<=n/\i=O J k/\Below w.heap.size w w'/\Hid (∀j,j<k->(ms.getD j dm).e=0)) (λi _=>n-(intOf i).toNat)
 case atStart=>exact⟨0,II _,rfl,Ib _ _,λj h=>absurd h (Ji _)⟩
 case round=>
  obtain⟨k,hk,rfl,aU,hz⟩:=hrel;obtain⟨eA,nO⟩:=cH aU;have bA:=aU.size;by_cases aL:k<n
  .obtain⟨c0,c1,c2,c3,c4,c5⟩:=HR.out k (by rw[HN.out];exact aL)
   have Sj:Hid _:=HS.out k;have HK:Hid ((ms.getD k dm).e≠0->res=(ms.getD k dm).e):=λh=>HE.out k aL hz.out h;have HZ:Hid ((ms.getD k dm).e=0->∀j,j<k+1->(ms.getD j dm).e=0):=λh j hj=>by
    rcases Jj.1 hj with h2|rfl
    .exact hz.out j h2
    .exact h
   generalize ms.getD k dm=m at *;have Ta:=Sj.out;have HD:Hid (m.e=if aN m.node=true then cJ ⟨m.x,m.y,m.z,m.h,m.s⟩ else 1):=rfl;generalize m.e=me at *;have mG:Hid (Below w.heap.size w (wr.alloc (.cells #[I m.node,O J m.x,O J m.y,O J m.z,O J m.h,O J m.s] 142))):=aU.alloc bA _;rcases h1:aN m.node with _|_
   .have oh:Hid (res=1):=(HK.out (by rw[HD.out];simp[h1])).trans (by rw[HD.out];simp[h1])
    go_wp2_with (go_at_call 65;refine(bc _ _ Ta).mono ?_;rintro e w' ⟨rfl,rfl⟩;rw[h1]);go_ret;exact⟨aj oh.out.symm,mG.out⟩
   .have HP:Hid (∀W,aP _ _ _ _):=λW=>jy ⟨m.x,m.y,m.z,m.h,m.s⟩ W
    have Pm:Hid (me=cJ ⟨m.x,m.y,m.z,m.h,m.s⟩):=HD.out.trans (by rw[h1];exact if_pos rfl);generalize cJ ⟨m.x,m.y,m.z,m.h,m.s⟩=pe at *;rcases he:decide (pe=0) with _|_
    .have ki:(pe !=0)=true:=by simpa using he
     have oh:Hid _:=(HK.out (by rw[Pm.out];simpa using he)).trans Pm.out;clear he;go_wp2_with (first|(go_at_call 65;refine(bc _ _ Ta).mono ?_;rintro e w' ⟨rfl,rfl⟩;rw[h1])|(go_at_call 131;refine(HP.out _).mono ?_;rintro e w' ⟨rfl,aC⟩));go_ret;exact⟨aj oh.out.symm,mG.out.trans (aC.mono (by simp;omega))⟩
    .have ki:(pe !=0)=false:=by simpa using he
     have Ct:Hid _:=Pm.out.trans (by simpa using he);clear he;go_wp2_with (first|(go_at_call 65;refine(bc _ _ Ta).mono ?_;rintro e w' ⟨rfl,rfl⟩;rw[h1])|(go_at_call 131;refine(HP.out _).mono ?_;rintro e w' ⟨rfl,aC⟩));go_roundw
     case rel=>exact⟨k+1,by omega,by go_num,mG.out.trans (aC.mono (by simp;omega)),HZ.out Ct.out⟩
     case measure=>simp[intOf];omega
  .have iC:Hid (∀j,j<n->(ms.getD j dm).e=0):=λj hj=>hz.out j (by omega)
   have oh:Hid _:=H4.out iC.out;clear hz iC H4 HE HC XI;cases rb
   .go_wp2_with (go_at_call 199;refine(MH.out _ aU).mono ?_;rintro e w' ⟨rfl,aC⟩)
    go_ret;exact⟨aj (by rw[oh.out];rfl),aU.trans (aC.mono bA)⟩
   .go_wp2_with (go_at_call 199;refine(MH.out _ aU).mono ?_;rintro e w' ⟨rfl,aC⟩)
    go_ret;exact⟨aj (by rw[oh.out];rfl),aU.trans (aC.mono bA)⟩
theorem fR(a:Option Addr)(n cap:Nat)(w:World)(hn:20<n) :
 aP 143 #[U a n cap] w λe w'=>e=sh (O J 2)/\w'=w:=by
 go_enter Tryz.func143,Tryz.ntmps143;go_wp2_with fail;go_ret;exact⟨rfl,rfl⟩
theorem fS(a:Option Addr)(cap:Nat)(w:World) :
 aP 143 #[U a 0 cap] w λe w'=>e=sh (O J 0)/\w'=w:=by
 go_enter Tryz.func143,Tryz.ntmps143;go_wp2_with fail;go_loop [12] (λi=>i=O J 0) (λ_=>0)
 case atStart=>rfl
 case round=>
  subst hrel;go_wp2_with (go_at_call 199;refine(fO _ _ _ _).mono ?_;rintro e w' ⟨rfl,rfl⟩);go_ret;exact⟨rfl,rfl⟩
theorem aW(ms:List bC)(v:Value)(w:World)(h:Sl w v ms) :
 nZ 143 #[v] w (O J (ba ms)):=by
 obtain⟨a,cap,rfl,hs,h⟩:=h;by_cases hn:20<ms.length
 .refine(fR a ms.length cap w hn).mono ?_
  rintro e w' ⟨rfl,rfl⟩;exact⟨aj (by rw[ba,if_pos hn]),Ib _ _⟩
 .rcases h with rfl|⟨b,off,rfl,hb,hr⟩
  .refine(fS a cap w).mono ?_
   rintro e w' ⟨rfl,rfl⟩;exact⟨rfl,Ib _ _⟩
  .exact gR ms b off cap w hr hb (by omega) hs
end Wh
namespace Pc
open Go.RowKit
structure nQ where
 x:Int
 y:Int
 z:Int
 h:Int
 s:Int
def dm:nQ:=⟨0,0,0,0,0⟩
abbrev As(w:World)(b o:Nat)(m:nQ):Prop:=w.cell? ⟨b,o,Y⟩=Z (O J m.x)/\w.cell? ⟨b,o+1,Y⟩=Z (O J m.y)/\w.cell? ⟨b,o+2,Y⟩=Z (O J m.z)/\w.cell? ⟨b,o+3,Y⟩=Z (O J m.h)/\w.cell? ⟨b,o+4,Y⟩=Z (O J m.s)
def Row(w:World)(b off:Nat)(ms:List nQ):Prop:=∀j,j<ms.length->As w b (off+j*5) (ms.getD j dm)
def nQ.cs(m:nQ):List Value:=[O J m.x,O J m.y,O J m.z,O J m.h,O J m.s]
def fl(ms:List nQ):List Value:=ms.flatMap nQ.cs
theorem bl(m:nQ):m.cs.length=5:=rfl
theorem aT(m:nQ)(r:List nQ):fl (m::r)=m.cs++fl r:=by simp[fl]
theorem cF(a b:List nQ):fl (a++b)=fl a++fl b:=by simp[fl]
theorem cT:∀ms:List nQ,(fl ms).length=ms.length*5
 |[]=>rfl
 |m::r=>by rw[aT,Ii,cT r,bl,List.length_cons];omega
theorem cC(m:nQ):∀v∈m.cs,v.oneCell'=true:=by
 intro v hv;simp[nQ.cs] at hv;rcases hv with rfl|rfl|rfl|rfl|rfl<;>rfl
theorem fi(ms:List nQ):∀v∈fl ms,v.oneCell'=true:=by
 intro v hv;obtain⟨m,_,h⟩:=List.mem_flatMap.1 hv;exact cC m v h
theorem ed(ms:List nQ)(j:Nat)(hj:j<ms.length)(t:Nat)(ht:t<5):(fl ms)[j*5+t]?=(ms.getD j dm).cs[t]?:=by
 induction ms generalizing j with
 |nil=>simp at hj
 |cons m r ih=>
  rw[aT];cases j with
  |zero=>rw[List.getElem?_append_left (by rw[bl];omega)];simp
  |succ j=>
   rw[List.getElem?_append_right (by rw[bl];omega),bl,show(j+1)*5+t-5=j*5+t by omega,ih j (by simpa using hj)];simp
abbrev Own(base:Nat)(w:World)(v:Value)(ms:List nQ):Prop:=w.ownsRow base 27 5 v ms.length (fl ms)
theorem Own.below{base:Nat}{w w':World}{v:Value}{ms:List nQ}(h:Own base w v ms)(hb:Below w.heap.size w w'):Own base w' v ms:=by
 rcases h.2 with⟨rfl,h0⟩|⟨g,c,cur,rfl,dQ,hg,eC,dj,cM,aO⟩
 .exact⟨h.1,.inl ⟨rfl,h0⟩⟩
 .have aL:=(Array.getElem?_eq_some_iff.1 hg).1
  exact⟨h.1,.inr ⟨g,c,cur,rfl,dQ,(hb.block g aL).trans hg,eC,dj,cM,aO⟩⟩
theorem Own.lt{base:Nat}{w:World}{v:Value}{ms:List nQ}(h:Own base w v ms)(k:Nat)(hk:v.ownBlock=Z k):base<=k/\k<w.heap.size:=World.ownsRow.lt h k hk
theorem dH{base g c:Nat}{w:World}{ms:List nQ}(h:Own base w (U (Z ⟨g,0,Y⟩) ms.length c) ms)(j:Nat)(hj:j<ms.length) :
 As w g (j*5) (ms.getD j dm):=by
 rcases h.2 with⟨h1,_⟩|⟨g',c',cur,h1,dQ,hg,eC,dj,cM,aO⟩
 .cases h1
 .simp only[Value.slice.injEq,Option.some.injEq,Addr.mk.injEq] at h1
  obtain⟨⟨rfl,_,_⟩,_,_⟩:=h1;have hc:∀t,t<5->w.cell? ⟨g,j*5+t,Y⟩=(ms.getD j dm).cs[t]?:=λt ht=>by
   rw[af hg,<- ed ms j hj t ht,<- aO,List.getElem?_take_of_lt (by omega)];simp
  exact⟨hc 0 (by omega),hc 1 (by omega),hc 2 (by omega),hc 3 (by omega),hc 4 (by omega)⟩
theorem eL{base:Nat}{w:World}{v:Value}{ms:List nQ}(h:Own base w v ms)(p:Nat)(hp:p<ms.length):∃g c,v=U (Z ⟨g,0,Y⟩) ms.length c:=by
 rcases h.2 with⟨_,h0⟩|⟨g,c,cur,h1,_⟩
 .omega
 .exact⟨g,c,h1⟩
theorem bj(base:Nat)(w:World):Own base w (U Y 0 0) []:=World.ownsRow_nil w base 27 5
theorem eM{base:Nat}{w:World}{v:Value}{L:List nQ}{m:nQ}(h:w.ownsRow base 27 5 v (L.length+1) (fl L++m.cs)):Own base w v (L++[m]):=by
 have e:fl (L++[m])=fl L++m.cs:=by rw[cF,aT];simp[fl]
 show w.ownsRow base 27 5 v (L++[m]).length (fl (L++[m]));rw[e,Ii];exact h
end Pc
end Go.Proofs.YtfidjlcdlakceaaGreatDoor
namespace Go.Proofs.YtfidjlcdlakceaaGreatDoor
open Go.RowKit
theorem Tryz.CM:(Tryz.prog.info? 27).map (λi=>(i.zero,i.size,i.bytes))=Z (Z (Im #[O J 0,O J 0,O J 0,O J 0,O J 0]),5,40):=by kernel_rfl
def nI(m:Wh.bC):Pc.nQ:=⟨m.x,m.y,m.z,m.h,m.s⟩
def dS(ms:List Wh.bC):List Pc.nQ:=ms.map nI
theorem L0{ms:List Wh.bC}{k:Nat}(hk:k<ms.length):dS (ms.take (k+1))=dS (ms.take k)++[nI (ms.getD k Wh.dm)]:=by
 rw[dS,dS,List.take_succ_eq_append_getElem hk,List.map_append];simp[Io,Ic hk]
theorem tE(ms:List Wh.bC):(dS ms).length=ms.length:=by simp[dS]
theorem tF(ms:List Wh.bC)(v:Value)(w:World)(hv:Wh.Sl w v ms)(hn:ms.length<=100) :
 Calls Tryz.prog 264 #[v] w λe w'=>∃v',e=sh v'/\Pc.Own w.heap.size w' v' (dS ms)/\Below w.heap.size w w':=by
 obtain⟨i0,ei,bW,fs,eU⟩:=info_parts Tryz.CM;obtain⟨pa,ca,rfl,_,ha⟩:=hv;have HA:Hid (ms=[]\/∃b off,pa=Z ⟨b,off,Y⟩/\b<w.heap.size/\Wh.Row w b off ms):=ha;clear ha;generalize yo:ms.length=n at *;have HN:Hid (ms.length=n):=yo;clear yo;go_enter Tryz.func264,Tryz.ntmps264;go_wp2_with fail;go_loopw [3,8] (λo i w'=>∃k:Nat,k<=n/\i=O J k/\Below w.heap.size w w'/\Hid (Pc.Own w.heap.size w' o (dS (ms.take k)))) (λ_ i _=>n-(intOf i).toNat)
 case atStart=>exact⟨0,II _,rfl,Ib _ _,Pc.bj _ _⟩
 case round=>
  obtain⟨k,hk,rfl,aU,HO⟩:=hrel;have bA:=aU.size;have XP:(dS (ms.take k)).length<=100:=by rw[tE];have h2:(ms.take k).length<=k:=List.length_take_le _ _;omega
  by_cases aL:k<n
  .obtain⟨b1,o1,lP,eY,yp⟩:∃b off,pa=Z ⟨b,off,Y⟩/\b<w.heap.size/\Wh.Row w b off ms:=by
    rcases HA.out with h|h
    .have:=HN.out;rw[h] at this;simp at this;omega
    .exact h
   subst lP;obtain⟨eA,nO⟩:=cH aU;obtain⟨c0,c1,c2,c3,c4,c5⟩:=yp k (by rw[HN.out];exact aL);have lG:Hid (dS (ms.take (k+1))=dS (ms.take k)++[nI (ms.getD k Wh.dm)]):=L0 (by rw[HN.out];exact aL);clear yp;generalize hL2:dS (ms.take (k+1))=L2 at *;have HL2:Hid (dS (ms.take (k+1))=L2):=hL2;clear hL2;generalize dS (ms.take k)=L at *;generalize ms.getD k Wh.dm=m at *;obtain⟨nd,x,y,z,h,s⟩:=m;simp only[nI] at *;go_wp2_with (at_builtin;refine wpList_append_own _ rfl _ _ 297 rfl w.heap.size 27 i0 _ 5 40 Tryz.underlying297 ei bW fs eU rfl (by omega) _ L.length (Pc.fl L) rfl ?hown ⟨wr.heap.size+1,0,Y⟩ 1 1 (Pc.nQ.mk x y z h s).cs rfl rfl ?hnews (Pc.cC _) ?h63 ?hbytes ?hbase ?_)
   case hown=>exact HO.out.below (((Ib _ _).alloc (By _) _).alloc (by simp) _)
   case hnews=>(intro j u hj;rw[Addr.add_lit];exact(bJ (by simp)).trans (by simpa[Pc.nQ.cs] using hj))
   case h63=>(unfold maxLen;omega)
   case hbytes=>omega
   case hbase=>(simp;omega)
   intro v' w2 r1 r2 r3;have CO:Hid (Below w.heap.size w w2):=((aU.alloc bA _).alloc (by simp;omega) _).grown r2 (by simp;omega) (λj hj=>(HO.out.lt j hj).1);have Wz:Hid (Pc.Own w.heap.size w2 v' (L++[⟨x,y,z,h,s⟩])):=Pc.eM r1;clear r1 r2 r3;go_wp2_with fail;exact⟨⟨k+1,by omega,by go_num,CO.out,by rw[HL2.out,lG.out];exact Wz.out⟩,by simp[intOf];omega⟩
  .have fM:k=n:=by omega
   subst fM;have HFO:Hid (Pc.Own w.heap.size wr u3 (dS ms)):=by
    have h:=HO.out;rw[List.take_of_length_le (by rw[HN.out];exact By _)] at h;exact h
   go_wp2_with fail;go_ret;exact⟨u3,rfl,HFO.out,aU⟩
def dP(m:Pc.nQ):Pl:=⟨m.x,m.y,m.z,m.h,m.s⟩
theorem Th{w:World}{b off:Nat}{ms:List Pc.nQ}(h:Pc.Row w b off ms):qf w b off (ms.map dP):=λk hk=>by
 have hk':k<ms.length:=by simpa using hk
 have e:(ms.map dP).getD k dp=dP (ms.getD k Pc.dm):=by simp[Io,Ic hk']
 obtain⟨h0,h1,h2,h3,h4⟩:=h k hk';rw[e];exact⟨h0,h1,h2,h3,h4⟩
theorem Hu(p:Pl)(a1 a2:Option Addr)(n m c1 c2:Nat)(w:World)(h:100<n\/100<m) :
 Calls Tryz.prog 243 #[Im #[O J p.x,O J p.y,O J p.z,O J p.h,O J p.s],U a1 n c1,U a2 m c2] w λe w'=>e=sh (.tuple #[U Y 0 0,O J 2])/\Below w.heap.size w w':=by
 have hc:decide (100<(n:Int))=true\/(decide (100<(n:Int))=false/\decide (100<(m:Int))=true):=by
  simp only[decide_eq_true_eq,decide_eq_false_iff_not];omega
 clear h;rcases hc with h1|⟨h1,h2⟩;all_goals
  go_enter Tryz.func243,Tryz.ntmps243;go_wp2_with fail;go_ret2;exact⟨rfl,(Ib _ _).alloc (By _) _⟩
end Go.Proofs.YtfidjlcdlakceaaGreatDoor
