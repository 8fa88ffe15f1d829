import Derived.Test.YtfidhgjmifendaaGreatDoorns5
set_option maxHeartbeats 1600000
open Go.IntKind renaming wrap_i64→IW,i64→O
open Go.Lib renaming bitLen→OG
open Go.Value renaming int→U,agg→Ij
open Go.Ending renaming returned→AT
open Go.Proofs.Tryz renaming prog→AS
open Option renaming none→be,some→AI
open Go.RowKit.Below renaming refl→Ib
open Nat renaming le_refl→Ic
open Go.Sort renaming grow→Im
open Go renaming redrawn→Iz,cell_regrown→Iq,wp_region_quiet_below→IG
namespace Go.Proofs.YtfidhgjmifendaaGreatDoor
open Go.RowKit
def rH(n r:Int):Prop:=0<=r/\r*r<=n/\n<(r+1)*(r+1)
theorem DX{a b:Int}(h0:0<=a)(h:a<=b):a*a<=b*b:=Int.mul_le_mul h h h0 (by omega)
def rtN(n:Nat):Nat->Nat
 |0=>0
 |k+1=>if(k+1)*(k+1)<=n then k+1 else rtN n k
def rt(n:Int):Int:=(rtN n.toNat n.toNat:Nat)
theorem L3{n r:Nat}(h1:r*r<=n)(h2:n<(r+1)*(r+1)):∀k,r<=k->rtN n k=r
 |0,hk=>by
  have e:r=0:=by omega
  rw[e];rfl
 |k+1,hk=>by
  simp only[rtN];by_cases hc:(k+1)*(k+1)<=n
  .rw[if_pos hc]
   rcases Nat.lt_or_ge r (k+1) with h|h
   .have:=Nat.mul_le_mul (show r+1<=k+1 by omega) (show r+1<=k+1 by omega)
    omega
   .omega
  .rw[if_neg hc]
   have aQ:r≠k+1:=λe=>hc (e▸h1);exact L3 h1 h2 k (by omega)
theorem rt_eq{n r:Int}(h:rH n r):rt n=r:=by
 obtain⟨h0,h1,h2⟩:=h;obtain⟨m,rfl⟩:=Int.eq_ofNat_of_zero_le h0;have hn:=Int.le_trans (Int.mul_nonneg h0 h0) h1;obtain⟨k,rfl⟩:=Int.eq_ofNat_of_zero_le hn;have g1:m*m<=k:=by exact_mod_cast h1
 have g2:k<(m+1)*(m+1):=by exact_mod_cast h2
 have g3:=Nat.le_trans (Nat.le_mul_self m) g1;show((rtN k k:Nat):Int)=(m:Int);rw[L3 g1 g2 k g3]
def AJ(n r b:Int):Prop:=0<=r/\r*r<=n/\n<(r+b)*(r+b)
theorem Py{n r b:Int}(h:AJ n r (2*b))(hb:0<=b)(hx:(r+b)*(r+b)<=n):AJ n (r+b) b:=by
 obtain⟨h0,h1,h2⟩:=h;refine⟨by omega,hx,?_⟩;rw[show r+b+b=r+2*b by omega];exact h2
theorem L5{n r b:Int}(h:AJ n r (2*b))(hx:¬ (r+b)*(r+b)<=n):AJ n r b:=
 ⟨h.1,h.2.1,by omega⟩
theorem L6{n r:Int}(h:AJ n r 1):rH n r:=h
theorem Pz{n r b:Int}(h:AJ n r b)(hn:n<=9223372036854775807):r<=3037000499:=by
 apply Classical.byContradiction;intro c;have:=DX (a:=3037000500) (b:=r) (by omega) (by omega);have:=h.2.1;omega
theorem DY{n x:Int}(hx:0<x):x<=n/x↔x*x<=n:=Int.le_ediv_iff_mul_le hx
theorem two_pow_pos(k:Nat):(0:Int)<2^k:=by
 have:(0:Nat)<2^k:=Nat.two_pow_pos k
 exact_mod_cast this
theorem two_pow_succ(k:Nat):(2:Int)^(k+1)=2*2^k:=by rw[Int.pow_succ];omega
theorem uK{a b:Nat}(h:a<=b):(2:Int)^a<=2^b:=by
 have:(2:Nat)^a<=2^b:=Nat.pow_le_pow_right (by omega) h
 exact_mod_cast this
theorem Gq(n:Int)(h₀:0<=n)(h₁:n<2^63):IntKind.i64.wrap n=n:=by rw[IW];omega
theorem T4(k:Nat)(r:Int)(h0:0<=r)(hm:r%2^(k+1)=0)(hr:r<2^63)(hk:k<=62):bits BinOp.or IntKind.i64 r (2^k)=r+2^k:=
 bits_join O 63 (by decide) Gq (k+1) r (2^k) h0 hm hr (Int.le_of_lt (two_pow_pos k)) (by rw[two_pow_succ];have:=two_pow_pos k;omega) (Int.lt_of_le_of_lt (uK hk) (by decide))
theorem AK{r:Int}{k:Nat}(hm:r%2^(k+1)=0):r%2^k=0:=
 Int.emod_eq_zero_of_dvd (Int.dvd_trans ⟨2,by rw[Int.pow_succ]⟩ (Int.dvd_of_emod_eq_zero hm))
theorem PA{r:Int}{k:Nat}(hm:r%2^(k+1)=0):(r+2^k)%2^k=0:=by
 rw[Int.add_emod_right];exact AK hm
theorem T5(n:Nat)(h:n<2^64):n<2^OG n:=by
 by_cases h0:n=0
 .subst h0;decide
 .exact(Lib.bitLenAux_bounds 64 n h h0).2.2
theorem CP{n:Int}(h0:0<=n)(h1:n<=9223372036854775807)(j:Nat)(hj:OG n.toNat/2=j):AJ n 0 (2^(j+1)):=by
 refine⟨by omega,by simpa using h0,?_⟩;have h2:=T5 n.toNat (by omega);have h3:(2:Nat)^OG n.toNat<=2^(2*(j+1)):=Nat.pow_le_pow_right (by omega) (by omega);have h4:(2:Nat)^(2*(j+1))=2^(j+1)*2^(j+1):=by rw[<- Nat.pow_add];congr 1;omega
 have h5:n.toNat<2^(j+1)*2^(j+1):=by omega
 have h6:((n.toNat:Nat):Int)<((2^(j+1)*2^(j+1):Nat):Int):=by exact_mod_cast h5
 rw[Int.toNat_of_nonneg h0] at h6;simpa using h6
theorem yi{k:IntKind}{a b:Int}(h:a=b):AT (U k a)=AT (U k b):=by rw[h]
theorem DZ{m:Int}(h0 : -9223372036854775808<=m)(h1:m<=9223372036854775807):wrap64 m=m:=by
 rw[wrap64];omega
theorem AL{n x:Int}(h0:0<=n)(h1:n<=9223372036854775807)(hx:0<x):wrap64 (n.tdiv x)=n/x:=by
 rw[Int.tdiv_eq_ediv_of_nonneg h0];have:=Int.ediv_nonneg h0 (Int.le_of_lt hx);have:=Int.ediv_le_self x h0;exact DZ (by omega) (by omega)
theorem L8(j:Nat)(r:Int)(h0:0<=r)(hm:r%2^(j+1)=0)(h1:r<=3037000499)(hj:j<=40):bits BinOp.or IntKind.i64 r (wrap64 (2^j))=r+2^j:=by
 have h2:=uK hj;have h3:=two_pow_pos j;have h4:(2:Int)^40=1099511627776:=by decide
 rw[DZ (by omega) (by omega)];exact T4 j r h0 hm (Int.lt_of_le_of_lt h1 (by decide)) (by omega)
theorem L9(n:Int)(w:World)(h0:0<=n)(h1:n<=9223372036854775807) :
 Calls AS 286 #[U O n] w λe w'=>e=AT (U O (rt n))/\w'=w:=by
 have hlen:(OG n.toNat:Int)<=64:=by have:=Lib.bitLen_le n.toNat 64 (by omega) (by omega);omega
 have aj2:(0:Int)<=(OG n.toNat:Int):=by omega
 go_enter Tryz.func286,Tryz.ntmps286;go_wp2_with (go_at_call 71;refine(Tryz.bits_Len _ _ (by omega) (by omega)).mono ?_;rintro e w' ⟨rfl,rfl⟩);go_loop [3,4] (λx b=>∃(i:Nat) (r:Int),i<=33/\x=U O r/\b=U O ((i:Int)-1)/\Hid (AJ n r (2^i))/\Hid (r%2^i=0)) (λ_ b=>(intOf b+1).toNat)
 case atStart=>
  exact⟨OG n.toNat/2+1,0,by omega,rfl,congrArg (Value.int IntKind.i64) (by omega),CP h0 h1 _ rfl,(show(0:Int)%_=0 by simp)⟩
 case round=>
  obtain⟨i,r,hi,rfl,rfl,HS,HM⟩:=hrel;have hr0:=HS.out.1;have nN:=Pz HS.out h1;cases i with
  |zero=>
   go_wp2;go_ret;exact⟨yi (rt_eq (L6 HS.out)).symm,rfl⟩
  |succ j=>
   have hj:((j+1:Nat):Int)-1=j:=by omega
   rw[hj];have HO:Hid _:=L8 j r hr0 HM.out nN (by omega);have hp:=two_pow_pos j;go_wp2
   .exfalso;have:=HO.out;omega
   .rename_i Np H6
    rw[HO.out] at H6 ⊢;rw[AL h0 h1 (by omega)] at H6;refine⟨⟨j,r+2^j,by omega,rfl,rfl,Py (by rw[<- two_pow_succ];exact HS.out) (by omega) ((DY (by omega)).1 H6),PA HM.out⟩,by simp[intOf]⟩
   .rename_i Np H6
    rw[HO.out] at H6;rw[AL h0 h1 (by omega)] at H6;refine⟨⟨j,r,by omega,rfl,rfl,L5 (by rw[<- two_pow_succ];exact HS.out) (λh=>by have:=(DY (x:=r+2^j) (n:=n) (by omega)).2 h;omega),AK HM.out⟩,by simp[intOf]⟩
structure Pl where
 x:Int
 y:Int
 z:Int
 h:Int
 s:Int
def cS(n lo hi:Int):Int:=min (max n lo) hi
def Mt(p:Pl):Pl:=⟨cS p.x (-10000000) 10000000,cS p.y (-10000000) 10000000,cS p.z (-10000000) 10000000,cS p.h 0 1000000,cS p.s 0 1000⟩
structure rV(p:Pl):Prop where
 x0 : -10000000<=p.x
 x1:p.x<=10000000
 y0 : -10000000<=p.y
 y1:p.y<=10000000
 z0 : -10000000<=p.z
 z1:p.z<=10000000
 h0:0<=p.h
 h1:p.h<=1000000
 s0:0<=p.s
 s1:p.s<=1000
def qJ(a b:Pl):Bool:=a.x==b.x&&(a.y==b.y&&(a.z==b.z&&(a.h==b.h&&a.s==b.s)))
def ed(p:Pl):Int:=if qJ p (Mt p)=true then 0 else 3
theorem Gr(a b:Pl):qJ a b=true↔a=b:=by
 obtain⟨a1,a2,a3,a4,a5⟩:=a;obtain⟨b1,b2,b3,b4,b5⟩:=b;simp[qJ]
theorem lB{n lo hi:Int}(h:lo<=hi):n=cS n lo hi↔lo<=n/\n<=hi:=by unfold cS;omega
theorem fe(n lo hi:Int)(h:lo<=hi):lo<=cS n lo hi/\cS n lo hi<=hi:=by unfold cS;omega
theorem nJ(p:Pl):ed p=0↔rV p:=by
 obtain⟨x,y,z,h,s⟩:=p;have e:ed ⟨x,y,z,h,s⟩=0↔qJ ⟨x,y,z,h,s⟩ (Mt ⟨x,y,z,h,s⟩)=true:=by unfold ed;split<;>simp[*]
 rw[e,Gr];simp only[Mt,Pl.mk.injEq];rw[lB (by omega),lB (by omega),lB (by omega),lB (by omega),lB (by omega)];exact⟨λ⟨⟨a,b⟩,⟨c,d⟩,⟨e,f⟩,⟨g,h⟩,⟨i,j⟩⟩=>⟨a,b,c,d,e,f,g,h,i,j⟩,λ⟨a,b,c,d,e,f,g,h,i,j⟩=>⟨⟨a,b⟩,⟨c,d⟩,⟨e,f⟩,⟨g,h⟩,⟨i,j⟩⟩⟩
theorem DQ(p:Pl):ed p=0\/ed p=3:=by unfold ed;split<;>simp
theorem TF(p:Pl):rV (Mt p):=
 ⟨(fe _ _ _ (by omega)).1,(fe _ _ _ (by omega)).2,(fe _ _ _ (by omega)).1,(fe _ _ _ (by omega)).2,(fe _ _ _ (by omega)).1,(fe _ _ _ (by omega)).2,(fe _ _ _ (by omega)).1,(fe _ _ _ (by omega)).2,(fe _ _ _ (by omega)).1,(fe _ _ _ (by omega)).2⟩
theorem Gs(n lo hi:Int)(w:World) :
 Calls AS 206 #[U O n,U O lo,U O hi] w λe w'=>e=AT (U O (cS n lo hi))/\w'=w:=by
 go_enter Tryz.func206,Tryz.ntmps206;go_wp2;all_goals
  go_ret;exact⟨yi (by unfold cS;omega),rfl⟩
theorem rY(x y z h s:Int)(w:World) :
 Calls AS 161 #[Ij #[U O x,U O y,U O z,U O h,U O s]] w λe w'=>e=AT (Ij #[U O (cS x (-10000000) 10000000),U O (cS y (-10000000) 10000000),U O (cS z (-10000000) 10000000),U O (cS h 0 1000000),U O (cS s 0 1000)])/\Below w.heap.size w w':=by
 go_enter Tryz.func161,Tryz.ntmps161;go_wp2_with fail;go_region_held3 (λw'=>w'.cell? ⟨w.heap.size,0,be⟩=AI (U O x)/\w'.cell? ⟨w.heap.size,1,be⟩=AI (U O y)/\w'.cell? ⟨w.heap.size,2,be⟩=AI (U O z)/\w'.cell? ⟨w.heap.size,3,be⟩=AI (U O h)/\w'.cell? ⟨w.heap.size,4,be⟩=AI (U O s)) (go_keep) (first|(go_at_call 206;refine(Gs _ _ _ _).mono ?_;rintro e w' ⟨rfl,rfl⟩))
 go_wp2_with fail;exact bodyPost_ret (v:=Ij #[U O (cS x (-10000000) 10000000),U O (cS y (-10000000) 10000000),U O (cS z (-10000000) 10000000),U O (cS h 0 1000000),U O (cS s 0 1000)]) (by simp[results,Tryz.results161,go_sem]) rfl ⟨rfl,(((Ib _ _).alloc (Ic _) _).alloc (by simp) _).drew⟩
theorem T6(a b:Pl)(w:World):(Op.equalIn 10000 39 (Ij #[U O a.x,U O a.y,U O a.z,U O a.h,U O a.s]) (Ij #[U O b.x,U O b.y,U O b.z,U O b.h,U O b.s])).run AS w=.ok (qJ a b) w:=by
 obtain⟨a1,a2,a3,a4,a5⟩:=a;obtain⟨b1,b2,b3,b4,b5⟩:=b;have u3:=run_underlying Tryz.underlying3;have a3':=Tryz.isAgg3;have z3:=Tryz.sizeOf3;have hS:Tryz.prog.underlying 39=AI (.struct (Tryz.prog.fieldsOf 39)):=by kernel_rfl
 have hp:Tryz.prog.stoodInHeld 39=false:=by kernel_rfl
 rw[show(10000:Nat)=9999+1 from rfl,run_equalIn_agg w 9999 39 _ _ hS hp];simp only[Program.fieldsOf,Tryz.underlying39];go_simp;unfold qJ;by_cases h1:a1=b1<;>by_cases h2:a2=b2<;>by_cases h3:a3=b3<;>by_cases h4:a4=b4<;>by_cases h5:a5=b5<;>simp[h1,h2,h3,h4,h5]
theorem aa8(a b:Pl)(w:World):Sem.run AS (binOp .neq 39 (Ij #[U O a.x,U O a.y,U O a.z,U O a.h,U O a.s]) (Ij #[U O b.x,U O b.y,U O b.z,U O b.h,U O b.s])) w=.ok (.bool (!qJ a b)) w:=by
 rw[run_neq_struct,T6];rfl
theorem lW(p:Pl)(w:World) :
 Calls AS 101 #[Ij #[U O p.x,U O p.y,U O p.z,U O p.h,U O p.s]] w λe w'=>e=AT (U O (ed p))/\Below w.heap.size w w':=by
 have Fu:=aa8 p (Mt p);have HC:∀q,qJ p (Mt p)=q->Hid (ed p=bif q then 0 else 3):=λq hq=>(show ed p=_ by unfold ed;cases q<;>simp[hq]);generalize zx:qJ p (Mt p)=q at Fu;have HD:=HC q zx;clear zx HC;generalize ed p=cp at *;obtain⟨x,y,z,h,s⟩:=p;simp only[Mt] at Fu;have hgP:Tryz.prog.eqGuardType Tryz.prog.depth 39=false:=by kernel_rfl
 generalize hW:w.alloc (.cells #[U O x,U O y,U O z,U O h,U O s] 39)=W at *;have HW:Hid (Below w.heap.size w W):=by rw[<- hW];exact(Ib _ _).alloc (Ic _) _
 have E0:∀d os,(Im (Iz W d) os).cell? ⟨w.heap.size,0,be⟩=AI (U O x):=Iq (by rw[<- hW];simp);have E1:∀d os,(Im (Iz W d) os).cell? ⟨w.heap.size,1,be⟩=AI (U O y):=Iq (by rw[<- hW];simp);have E2:∀d os,(Im (Iz W d) os).cell? ⟨w.heap.size,2,be⟩=AI (U O z):=Iq (by rw[<- hW];simp);have E3:∀d os,(Im (Iz W d) os).cell? ⟨w.heap.size,3,be⟩=AI (U O h):=Iq (by rw[<- hW];simp);have E4:∀d os,(Im (Iz W d) os).cell? ⟨w.heap.size,4,be⟩=AI (U O s):=Iq (by rw[<- hW];simp);have cN:∀d os,Calls AS 161 #[Ij #[U O x,U O y,U O z,U O h,U O s]] (Im (Iz W d) os) λe fT=>e=AT (Ij #[U O (cS x (-10000000) 10000000),U O (cS y (-10000000) 10000000),U O (cS z (-10000000) 10000000),U O (cS h 0 1000000),U O (cS s 0 1000)])/\∃p:Regrown,fT=Im (Iz W p.d) p.os:=λd os=>
  Calls.regrown_of ((rY _ _ _ _ _ _).mono (by rintro e w' ⟨rfl,hb⟩;exact⟨rfl,hb⟩))
 go_enter Tryz.func101,Tryz.ntmps101;go_wp2_with fail;cases q
 all_goals
  simp only[Bool.not_true,Bool.not_false] at Fu;refine IG (by kernel_rfl) (by kernel_rfl) ?_;repeat(quiet_step (exact cN _ _))
  refine bM λdq jL ee=>?_;clear cN E0 E1 E2 E3 E4;go_wp2_with fail;go_ret;exact⟨yi (by rw[HD.out];simp),HW.out.trans (ee.out.mono HW.out.size)⟩
def dp:Pl:=⟨0,0,0,0,0⟩
def Gt(w:World)(b off:Nat)(ps:List Pl):Prop:=∀k,k<ps.length ->
 w.cell? ⟨b,off+k*5,be⟩=AI (U O (ps.getD k dp).x)/\w.cell? ⟨b,off+k*5+1,be⟩=AI (U O (ps.getD k dp).y)/\w.cell? ⟨b,off+k*5+2,be⟩=AI (U O (ps.getD k dp).z)/\w.cell? ⟨b,off+k*5+3,be⟩=AI (U O (ps.getD k dp).h)/\w.cell? ⟨b,off+k*5+4,be⟩=AI (U O (ps.getD k dp).s)
theorem Gt.below{w w':World}{b off:Nat}{ps:List Pl}(h:Gt w b off ps)(hb:Below w.heap.size w w'):Gt w' b off ps:=λk hk=>by
 obtain⟨h0,h1,h2,h3,h4⟩:=h k hk;have aX:b<w.heap.size:=World.block_lt_of_cell? w ⟨b,off+k*5,be⟩ h0;exact⟨by rw[hb.cell aX];exact h0,by rw[hb.cell aX];exact h1,by rw[hb.cell aX];exact h2,by rw[hb.cell aX];exact h3,by rw[hb.cell aX];exact h4⟩
def jA:List Pl->Int
 |[]=>0
 |p::r=>if ed p=0 then jA r else 3
theorem pA:∀(ps:List Pl),jA ps=0↔∀j,j<ps.length->ed (ps.getD j dp)=0
 |[]=>by simp[jA]
 |p::r=>by
  unfold jA;by_cases h:ed p=0
  .rw[if_pos h,pA r]
   constructor
   .intro g j hj
    cases j with
    |zero=>simpa using h
    |succ j=>simpa using g j (by simpa using hj)
   .intro g j hj
    simpa using g (j+1) (by simpa using hj)
  .rw[if_neg h]
   exact⟨λe=>by simp at e,λg=>absurd (by simpa using g 0 (by simp)) h⟩
theorem ux:∀(ps:List Pl),jA ps=0\/jA ps=3
 |[]=>.inl rfl
 |p::r=>by
  unfold jA;split
  .exact ux r
  .exact .inr rfl
theorem Gu{ps:List Pl}{k:Nat}(hk:k<ps.length)(h:ed (ps.getD k dp)≠0):jA ps=3:=by
 rcases ux ps with e|e
 .exact absurd ((pA ps).1 e k hk) h
 .exact e
theorem kU(ps:List Pl)(b off n cap:Nat)(w:World)(hn:ps.length=n)(hr:Gt w b off ps)(zx:n<=1000) :
 Calls AS 233 #[.slice (AI ⟨b,off,be⟩) n cap] w λe w'=>e=AT (U O (jA ps))/\Below w.heap.size w w':=by
 have HR:Hid (Gt w b off ps):=hr;have HN:Hid _:=hn;clear hr hn;go_enter Tryz.func233,Tryz.ntmps233;go_wp2;go_loopw [8] (λi w'=>∃k:Nat,k<=n/\i=U O k/\Hid (Below w.heap.size w w')/\Hid (∀j,j<k->ed (ps.getD j dp)=0)) (λi _=>n-(intOf i).toNat)
 case atStart=>exact⟨0,Nat.zero_le _,rfl,Ib _ _,λj hj=>by omega⟩
 case round=>
  obtain⟨k,hk,rfl,HB,HZ⟩:=hrel;by_cases aX:k<n
  .obtain⟨c0,c1,c2,c3,c4⟩:=HR.out.below HB.out k (by rw[HN.out];exact aX)
   have HS:Hid (ed (ps.getD k dp)=0->∀j,j<k+1->ed (ps.getD j dp)=0):=λh j hj=>by
    by_cases e:j=k
    .subst e;exact h
    .exact HZ.out j (by omega)
   have HX:Hid (ed (ps.getD k dp)≠0->jA ps=ed (ps.getD k dp)):=λh=>by
    rw[Gu (by rw[HN.out];exact aX) h];exact((DQ _).resolve_left h).symm
   generalize ps.getD k dp=pk at *;obtain⟨x,y,z,h,s⟩:=pk;simp only at c0 c1 c2 c3 c4;clear HZ;go_wp2_with fail;refine(lW ⟨x,y,z,h,s⟩ _).mono ?_;rintro e w1 ⟨rfl,aB⟩;have ba:Hid _:=(HB.out.alloc HB.out.size _).trans (aB.mono (by have:=HB.out.size;simp;omega));clear aB c0 c1 c2 c3 c4;by_cases hc:ed ⟨x,y,z,h,s⟩=0
   .have hc':(ed ⟨x,y,z,h,s⟩!=0)=false:=by simpa using hc
    have tR:=HS.out hc;have Vq:Hid _:=tR;clear tR HS HX hc;go_wp2_with fail;go_roundw
    case rel=>exact⟨k+1,by omega,by go_num,ba,Vq⟩
    case measure=>simp[intOf];omega
   .have hc':(ed ⟨x,y,z,h,s⟩!=0)=true:=by simpa using hc
    have HE:Hid _:=HX.out hc;clear HS HX hc;go_wp2_with fail;go_ret;exact⟨yi HE.out.symm,ba.out⟩
  .have HE:Hid _:=(pA ps).2 (λj hj=>HZ.out j (by have:=HN.out;omega))
   clear HZ;go_wp2_with fail;go_ret;exact⟨yi HE.out.symm,HB.out⟩
def D0(a b:Pl):Int:=(a.x-b.x)*(a.x-b.x)+(a.y-b.y)*(a.y-b.y)+(a.z-b.z)*(a.z-b.z)
def fR(a b:Pl):Int:=rt (D0 a b)
def sF(a b:Pl):Int:=fR a b+a.h+b.h
theorem AM{m:Int}(h0 : -9223372036854775808<=m)(h1:m<=9223372036854775807):IntKind.i64.wrap m=m:=by
 rw[IW];omega
theorem sq_nonneg(x:Int):0<=x*x:=by
 rcases Int.le_total 0 x with h|h
 .exact Int.mul_nonneg h h
 .exact Int.mul_nonneg_of_nonpos_of_nonpos h h
theorem aa9{x m:Int}(h0 : -m<=x)(h1:x<=m):x*x<=m*m:=by
 rcases Int.le_total 0 x with h|h
 .exact DX h h1
 .have:=DX (a := -x) (b:=m) (by omega) (by omega)
  rwa [Int.neg_mul_neg] at this
theorem wZ{x:Int}(h0 : -20000000<=x)(h1:x<=20000000):x*x<=400000000000000:=aa9 (m:=20000000) h0 h1
theorem AN{a b:Pl}(ha:rV a)(hb:rV b):0<=D0 a b/\D0 a b<=1200000000000000:=by
 have h1:=wZ (x:=a.x-b.x) (by have:=ha.x0;have:=hb.x1;omega) (by have:=ha.x1;have:=hb.x0;omega);have h2:=wZ (x:=a.y-b.y) (by have:=ha.y0;have:=hb.y1;omega) (by have:=ha.y1;have:=hb.y0;omega);have h3:=wZ (x:=a.z-b.z) (by have:=ha.z0;have:=hb.z1;omega) (by have:=ha.z1;have:=hb.z0;omega);have g1:=sq_nonneg (a.x-b.x);have g2:=sq_nonneg (a.y-b.y);have g3:=sq_nonneg (a.z-b.z);unfold D0;omega
theorem Gv{n r:Int}(h:rH n r):rH n (rt n):=by rw[rt_eq h];exact h
theorem D1:∀(n:Nat),∃r:Nat,rH n r
 |0=>⟨0,by decide,by decide,by decide⟩
 |n+1=>by
  obtain⟨r,h0,h1,h2⟩:=D1 n;by_cases h:(((r+1:Nat):Int))*((r+1:Nat):Int)<=((n+1:Nat):Int)
  .refine⟨r+1,by omega,h,?_⟩
   have e1:((r:Int)+1+1)*((r:Int)+1+1)=((r:Int)+1)*((r:Int)+1)+2*r+3:=by
    simp only[Int.add_mul,Int.mul_add];omega
   push_cast
   omega
  .refine⟨r,h0,by push_cast;omega,by push_cast at h ⊢;omega⟩
theorem aba{n:Int}(h:0<=n):rH n (rt n):=by
 obtain⟨r,hr⟩:=D1 n.toNat;rw[Int.toNat_of_nonneg h] at hr;exact Gv hr
theorem abb{n:Int}(h0:0<=n)(h1:n<=1200000000000000):0<=rt n/\rt n<=34641016:=by
 obtain⟨h,g,_⟩:=aba h0;refine⟨h,?_⟩;apply Classical.byContradiction;intro c;have:=DX (a:=34641017) (b:=rt n) (by omega) (by omega);omega
theorem rE{a b:Pl}(ha:rV a)(hb:rV b):0<=fR a b/\fR a b<=34641016:=
 abb (AN ha hb).1 (AN ha hb).2
theorem rD(a b:Pl)(w:World)(ha:rV a)(hb:rV b) :
 Calls AS 270 #[Ij #[U O a.x,U O a.y,U O a.z,U O a.h,U O a.s],Ij #[U O b.x,U O b.y,U O b.z,U O b.h,U O b.s]] w λe w'=>e=AT (U O (fR a b))/\Below w.heap.size w w':=by
 have h1:=wZ (x:=a.x-b.x) (by have:=ha.x0;have:=hb.x1;omega) (by have:=ha.x1;have:=hb.x0;omega);have h2:=wZ (x:=a.y-b.y) (by have:=ha.y0;have:=hb.y1;omega) (by have:=ha.y1;have:=hb.y0;omega);have h3:=wZ (x:=a.z-b.z) (by have:=ha.z0;have:=hb.z1;omega) (by have:=ha.z1;have:=hb.z0;omega);have g1:=sq_nonneg (a.x-b.x);have g2:=sq_nonneg (a.y-b.y);have g3:=sq_nonneg (a.z-b.z);have HE:Hid (fR a b=rt ((a.x-b.x)*(a.x-b.x)+(a.y-b.y)*(a.y-b.y)+(a.z-b.z)*(a.z-b.z))):=(show fR a b=_ from rfl);obtain⟨ax0,ax1,ay0,ay1,az0,az1,_,_,_,_⟩:=ha;obtain⟨bx0,bx1,by0,by1,bz0,bz1,_,_,_,_⟩:=hb;generalize fR a b=r at *;obtain⟨x1,y1,z1,p1,s1⟩:=a;obtain⟨x2,y2,z2,p2,s2⟩:=b;simp only at *;go_enter Tryz.func270,Tryz.ntmps270;go_wp2_with fail;go_quiet (fail)
 go_wp2_with (go_at_call 286;refine(L9 _ _ (by omega) (by omega)).mono ?_;rintro e w' ⟨rfl,rfl⟩);go_ret;exact⟨yi HE.out.symm,below_drewN (((Ib _ _).alloc (Ic _) _).alloc (by simp) _) _⟩
theorem NR(a b:Pl)(w:World)(ha:rV a)(hb:rV b) :
 Calls AS 234 #[Ij #[U O a.x,U O a.y,U O a.z,U O a.h,U O a.s],Ij #[U O b.x,U O b.y,U O b.z,U O b.h,U O b.s]] w λe w'=>e=AT (U O (sF a b))/\Below w.heap.size w w':=by
 obtain⟨r0,r1⟩:=rE ha hb;have HE:Hid (sF a b=fR a b+a.h+b.h):=(show sF a b=_ from rfl);have rW:=λw=>rD a b w ha hb;have h0:=ha.h0;have h1:=ha.h1;have g0:=hb.h0;have g1:=hb.h1;clear ha hb;generalize fR a b=r at *;generalize sF a b=f at *;obtain⟨x1,y1,z1,p1,s1⟩:=a;obtain⟨x2,y2,z2,p2,s2⟩:=b;simp only at *;generalize hW:(w.alloc (.cells #[U O x1,U O y1,U O z1,U O p1,U O s1] 39)).alloc (.cells #[U O x2,U O y2,U O z2,U O p2,U O s2] 39)=W at *;have HW:Hid (Below w.heap.size w W):=by rw[<- hW];exact((Ib _ _).alloc (Ic _) _).alloc (by simp) _
 have E0:∀d os,(Im (Iz W d) os).cell? ⟨w.heap.size,0,be⟩=AI (U O x1):=Iq (by rw[<- hW];simp);have E1:∀d os,(Im (Iz W d) os).cell? ⟨w.heap.size,1,be⟩=AI (U O y1):=Iq (by rw[<- hW];simp);have E2:∀d os,(Im (Iz W d) os).cell? ⟨w.heap.size,2,be⟩=AI (U O z1):=Iq (by rw[<- hW];simp);have E3:∀d os,(Im (Iz W d) os).cell? ⟨w.heap.size,3,be⟩=AI (U O p1):=Iq (by rw[<- hW];simp);have E4:∀d os,(Im (Iz W d) os).cell? ⟨w.heap.size,4,be⟩=AI (U O s1):=Iq (by rw[<- hW];simp);have F0:∀d os,(Im (Iz W d) os).cell? ⟨w.heap.size+1,0,be⟩=AI (U O x2):=Iq (by rw[<- hW];simp);have F1:∀d os,(Im (Iz W d) os).cell? ⟨w.heap.size+1,1,be⟩=AI (U O y2):=Iq (by rw[<- hW];simp);have F2:∀d os,(Im (Iz W d) os).cell? ⟨w.heap.size+1,2,be⟩=AI (U O z2):=Iq (by rw[<- hW];simp);have F3:∀d os,(Im (Iz W d) os).cell? ⟨w.heap.size+1,3,be⟩=AI (U O p2):=Iq (by rw[<- hW];simp);have F4:∀d os,(Im (Iz W d) os).cell? ⟨w.heap.size+1,4,be⟩=AI (U O s2):=Iq (by rw[<- hW];simp);have cN:∀d os,Calls AS 270 #[Ij #[U O x1,U O y1,U O z1,U O p1,U O s1],Ij #[U O x2,U O y2,U O z2,U O p2,U O s2]] (Im (Iz W d) os) λe fT=>e=AT (U O r)/\∃p:Regrown,fT=Im (Iz W p.d) p.os:=λd os=>
  Calls.regrown_of ((rW _).mono (by rintro e w' ⟨rfl,hb⟩;exact⟨rfl,hb⟩))
 clear rW;go_enter Tryz.func234,Tryz.ntmps234;go_wp2_with fail;refine IG (by kernel_rfl) (by kernel_rfl) ?_;repeat(quiet_step (exact cN _ _))
 refine bM λdq jL ee=>?_;clear cN E0 E1 E2 E3 E4 F0 F1 F2 F3 F4;go_wp2_with fail;go_ret;exact⟨yi (by rw[AM (m:=r+p1) (by omega) (by omega),AM (by omega) (by omega)];exact HE.out.symm),HW.out.trans (ee.out.mono HW.out.size)⟩
theorem wQ(a b:Pl):jA [a,b]=0↔rV a/\rV b:=by
 rw[<- nJ,<- nJ];unfold jA jA jA;by_cases h:ed a=0<;>by_cases g:ed b=0<;>simp[h,g]
theorem fJ{W:World}{cs:Array Value}{t:TypeId}{g k:Nat}(hg:g=W.heap.size):(W.alloc (.cells cs t)).cell? ⟨g,k,be⟩=cs[k]?:=by subst hg;simp
theorem po{W:World}{o:Obj}{g k:Nat}(hg:g<W.heap.size):(W.alloc o).cell? ⟨g,k,be⟩=W.cell? ⟨g,k,be⟩:=
 ((Ib W.heap.size W).alloc (Ic _) o).cell (p:=⟨g,k,be⟩) hg
theorem uy{W:World}{a b:Pl}{t:TypeId}{g:Nat}(hg:g=W.heap.size):Gt (W.alloc (.cells #[U O a.x,U O a.y,U O a.z,U O a.h,U O a.s,U O b.x,U O b.y,U O b.z,U O b.h,U O b.s] t)) g 0 [a,b]:=by
 intro k hk
 match k,hk with
 |0,_=>exact⟨fJ hg,fJ hg,fJ hg,fJ hg,fJ hg⟩
 |1,_=>exact⟨fJ hg,fJ hg,fJ hg,fJ hg,fJ hg⟩
def nt(n a b:Int):Bool:=decide (a<=n)&&decide (n<=b)
theorem afb{a b:Bool}(h:a=b):AT (.bool a)=AT (.bool b):=by rw[h]
theorem Fz{n a b:Int}(h:nt n a b=true):a<=n/\n<=b:=by simpa[nt] using h
end Go.Proofs.YtfidhgjmifendaaGreatDoor
