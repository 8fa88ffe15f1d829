import Derived.Test.YtbfghimjdlpicaaGreatDoorna5
set_option maxHeartbeats 3200000
open Go.Value renaming int→U,agg→Ik
open Go.IntKind renaming i64→O
open Option renaming none→be,some→AI
open Go.Ending renaming returned→AT
open Go.Proofs.Tryz renaming prog→AS
open Go.RowKit.Below renaming refl→Ib
open Nat renaming le_refl→Ie
open Go.Sort renaming grow→Ig
open Go renaming redrawn→Im,cell_regrown→Ih,bodyPost_ret→IL
open Int renaming tdiv_eq_ediv_of_nonneg→Ov,ediv_nonneg→Um
namespace Go.Proofs.YtbfghimjdlpicaaGreatDoor
open Go.RowKit
def dp:Pl:=⟨0,0,0,0,0⟩
def Ll(w:World)(b off:Nat)(ps:List Pl):Prop:=∀k,k<ps.length ->
 w.cell? ⟨b,off+k*5,be⟩=AI (U O (ps.getD k dp).x)/\w.cell? ⟨b,off+k*5+1,be⟩=AI (U O (ps.getD k dp).y)/\w.cell? ⟨b,off+k*5+2,be⟩=AI (U O (ps.getD k dp).z)/\w.cell? ⟨b,off+k*5+3,be⟩=AI (U O (ps.getD k dp).h)/\w.cell? ⟨b,off+k*5+4,be⟩=AI (U O (ps.getD k dp).s)
theorem Ll.below{w w':World}{b off:Nat}{ps:List Pl}(h:Ll w b off ps)(hb:Below w.heap.size w w'):Ll w' b off ps:=λk hk=>by
 obtain⟨h0,h1,h2,h3,h4⟩:=h k hk;have aX:b<w.heap.size:=World.block_lt_of_cell? w ⟨b,off+k*5,be⟩ h0;exact⟨by rw[hb.cell aX];exact h0,by rw[hb.cell aX];exact h1,by rw[hb.cell aX];exact h2,by rw[hb.cell aX];exact h3,by rw[hb.cell aX];exact h4⟩
def kd:List Pl->Int
 |[]=>0
 |p::r=>if eF p=0 then kd r else 3
theorem qU:∀(ps:List Pl),kd ps=0↔∀j,j<ps.length->eF (ps.getD j dp)=0
 |[]=>by simp[kd]
 |p::r=>by
  unfold kd;by_cases h:eF p=0
  .rw[if_pos h,qU r]
   constructor
   .intro g j hj
    cases j with
    |zero=>simpa using h
    |succ j=>simpa using g j (by simpa using hj)
   .intro g j hj
    simpa using g (j+1) (by simpa using hj)
  .rw[if_neg h]
   exact⟨λe=>by simp at e,λg=>absurd (by simpa using g 0 (by simp)) h⟩
theorem vU:∀(ps:List Pl),kd ps=0\/kd ps=3
 |[]=>.inl rfl
 |p::r=>by
  unfold kd;split
  .exact vU r
  .exact .inr rfl
theorem Lm{ps:List Pl}{k:Nat}(hk:k<ps.length)(h:eF (ps.getD k dp)≠0):kd ps=3:=by
 rcases vU ps with e|e
 .exact absurd ((qU ps).1 e k hk) h
 .exact e
theorem lY(ps:List Pl)(b off n cap:Nat)(w:World)(hn:ps.length=n)(hr:Ll w b off ps)(xM:n<=1000) :
 Calls AS 225 #[.slice (AI ⟨b,off,be⟩) n cap] w λe w'=>e=AT (U O (kd ps))/\Below w.heap.size w w':=by
 have HR:Hid (Ll w b off ps):=hr;have HN:Hid _:=hn;clear hr hn;go_enter Tryz.func225,Tryz.ntmps225;go_wp2;go_loopw [8] (λi w'=>∃k:Nat,k<=n/\i=U O k/\Hid (Below w.heap.size w w')/\Hid (∀j,j<k->eF (ps.getD j dp)=0)) (λi _=>n-(intOf i).toNat)
 case atStart=>exact⟨0,Nat.zero_le _,rfl,Ib _ _,λj hj=>by omega⟩
 case round=>
  obtain⟨k,hk,rfl,HB,HZ⟩:=hrel;by_cases aX:k<n
  .obtain⟨c0,c1,c2,c3,c4⟩:=HR.out.below HB.out k (by rw[HN.out];exact aX)
   have HS:Hid (eF (ps.getD k dp)=0->∀j,j<k+1->eF (ps.getD j dp)=0):=λh j hj=>by
    by_cases e:j=k
    .subst e;exact h
    .exact HZ.out j (by omega)
   have HX:Hid (eF (ps.getD k dp)≠0->kd ps=eF (ps.getD k dp)):=λh=>by
    rw[Lm (by rw[HN.out];exact aX) h];exact((FK _).resolve_left h).symm
   generalize ps.getD k dp=pk at *;obtain⟨x,y,z,h,s⟩:=pk;simp only at c0 c1 c2 c3 c4;clear HZ;go_wp2_with fail;refine(mO ⟨x,y,z,h,s⟩ _).mono ?_;rintro e w1 ⟨rfl,aC⟩;have aZ:Hid _:=(HB.out.alloc HB.out.size _).trans (aC.mono (by have:=HB.out.size;simp;omega));clear aC c0 c1 c2 c3 c4;by_cases hc:eF ⟨x,y,z,h,s⟩=0
   .have hc':(eF ⟨x,y,z,h,s⟩!=0)=false:=by simpa using hc
    have vh:=HS.out hc;have HS2:Hid _:=vh;clear vh HS HX hc;go_wp2_with fail;go_roundw
    case rel=>exact⟨k+1,by omega,by go_num,aZ,HS2⟩
    case measure=>simp[intOf];omega
   .have hc':(eF ⟨x,y,z,h,s⟩!=0)=true:=by simpa using hc
    have HE:Hid _:=HX.out hc;clear HS HX hc;go_wp2_with fail;go_ret;exact⟨An HE.out.symm,aZ.out⟩
  .have HE:Hid _:=(qU ps).2 (λj hj=>HZ.out j (by have:=HN.out;omega))
   clear HZ;go_wp2_with fail;go_ret;exact⟨An HE.out.symm,HB.out⟩
def Gh(a b:Pl):Int:=(a.x-b.x)*(a.x-b.x)+(a.y-b.y)*(a.y-b.y)+(a.z-b.z)*(a.z-b.z)
def gM(a b:Pl):Int:=rt (Gh a b)
def uc(a b:Pl):Int:=gM a b+a.h+b.h
theorem Ch{m:Int}(h0 : -9223372036854775808<=m)(h1:m<=9223372036854775807):IntKind.i64.wrap m=m:=by
 rw[IntKind.wrap_i64];omega
theorem sq_nonneg(x:Int):0<=x*x:=by
 rcases Int.le_total 0 x with h|h
 .exact Int.mul_nonneg h h
 .exact Int.mul_nonneg_of_nonpos_of_nonpos h h
theorem aev{x m:Int}(h0 : -m<=x)(h1:x<=m):x*x<=m*m:=by
 rcases Int.le_total 0 x with h|h
 .exact Ge h h1
 .have:=Ge (a := -x) (b:=m) (by omega) (by omega)
  rwa [Int.neg_mul_neg] at this
theorem yL{x:Int}(h0 : -20000000<=x)(h1:x<=20000000):x*x<=400000000000000:=aev (m:=20000000) h0 h1
theorem Ci{a b:Pl}(ha:tE a)(hb:tE b):0<=Gh a b/\Gh a b<=1200000000000000:=by
 have h1:=yL (x:=a.x-b.x) (by have:=ha.x0;have:=hb.x1;omega) (by have:=ha.x1;have:=hb.x0;omega);have h2:=yL (x:=a.y-b.y) (by have:=ha.y0;have:=hb.y1;omega) (by have:=ha.y1;have:=hb.y0;omega);have h3:=yL (x:=a.z-b.z) (by have:=ha.z0;have:=hb.z1;omega) (by have:=ha.z1;have:=hb.z0;omega);have g1:=sq_nonneg (a.x-b.x);have g2:=sq_nonneg (a.y-b.y);have g3:=sq_nonneg (a.z-b.z);unfold Gh;omega
theorem Ln{n r:Int}(h:tj n r):tj n (rt n):=by rw[rt_eq h];exact h
theorem Gi:∀(n:Nat),∃r:Nat,tj n r
 |0=>⟨0,by decide,by decide,by decide⟩
 |n+1=>by
  obtain⟨r,h0,h1,h2⟩:=Gi n;by_cases h:(((r+1:Nat):Int))*((r+1:Nat):Int)<=((n+1:Nat):Int)
  .refine⟨r+1,by omega,h,?_⟩
   have e1:((r:Int)+1+1)*((r:Int)+1+1)=((r:Int)+1)*((r:Int)+1)+2*r+3:=by
    simp only[Int.add_mul,Int.mul_add];omega
   push_cast
   omega
  .refine⟨r,h0,by push_cast;omega,by push_cast at h ⊢;omega⟩
theorem aew{n:Int}(h:0<=n):tj n (rt n):=by
 obtain⟨r,hr⟩:=Gi n.toNat;rw[Int.toNat_of_nonneg h] at hr;exact Ln hr
theorem aex{n:Int}(h0:0<=n)(h1:n<=1200000000000000):0<=rt n/\rt n<=34641016:=by
 obtain⟨h,g,_⟩:=aew h0;refine⟨h,?_⟩;apply Classical.byContradiction;intro c;have:=Ge (a:=34641017) (b:=rt n) (by omega) (by omega);omega
theorem sY{a b:Pl}(ha:tE a)(hb:tE b):0<=gM a b/\gM a b<=34641016:=
 aex (Ci ha hb).1 (Ci ha hb).2
theorem tl(a b:Pl)(w:World)(ha:tE a)(hb:tE b) :
 Calls AS 267 #[Ik #[U O a.x,U O a.y,U O a.z,U O a.h,U O a.s],Ik #[U O b.x,U O b.y,U O b.z,U O b.h,U O b.s]] w λe w'=>e=AT (U O (gM a b))/\Below w.heap.size w w':=by
 have h1:=yL (x:=a.x-b.x) (by have:=ha.x0;have:=hb.x1;omega) (by have:=ha.x1;have:=hb.x0;omega);have h2:=yL (x:=a.y-b.y) (by have:=ha.y0;have:=hb.y1;omega) (by have:=ha.y1;have:=hb.y0;omega);have h3:=yL (x:=a.z-b.z) (by have:=ha.z0;have:=hb.z1;omega) (by have:=ha.z1;have:=hb.z0;omega);have g1:=sq_nonneg (a.x-b.x);have g2:=sq_nonneg (a.y-b.y);have g3:=sq_nonneg (a.z-b.z);have HE:Hid (gM a b=rt ((a.x-b.x)*(a.x-b.x)+(a.y-b.y)*(a.y-b.y)+(a.z-b.z)*(a.z-b.z))):=(show gM a b=_ from rfl);obtain⟨ax0,ax1,ay0,ay1,az0,az1,_,_,_,_⟩:=ha;obtain⟨bx0,bx1,by0,by1,bz0,bz1,_,_,_,_⟩:=hb;generalize gM a b=r at *;obtain⟨x1,y1,z1,p1,s1⟩:=a;obtain⟨x2,y2,z2,p2,s2⟩:=b;simp only at *;go_enter Tryz.func267,Tryz.ntmps267;go_wp2_with fail;go_quiet (fail)
 go_wp2_with (go_at_call 283;refine(P1 _ _ (by omega) (by omega)).mono ?_;rintro e w' ⟨rfl,rfl⟩);go_ret;exact⟨An HE.out.symm,below_drewN (((Ib _ _).alloc (Ie _) _).alloc (by simp) _) _⟩
theorem Te(a b:Pl)(w:World)(ha:tE a)(hb:tE b) :
 Calls AS 226 #[Ik #[U O a.x,U O a.y,U O a.z,U O a.h,U O a.s],Ik #[U O b.x,U O b.y,U O b.z,U O b.h,U O b.s]] w λe w'=>e=AT (U O (uc a b))/\Below w.heap.size w w':=by
 obtain⟨r0,r1⟩:=sY ha hb;have HE:Hid (uc a b=gM a b+a.h+b.h):=(show uc a b=_ from rfl);have sy:=λw=>tl a b w ha hb;have h0:=ha.h0;have h1:=ha.h1;have g0:=hb.h0;have g1:=hb.h1;clear ha hb;generalize gM a b=r at *;generalize uc a b=f at *;obtain⟨x1,y1,z1,p1,s1⟩:=a;obtain⟨x2,y2,z2,p2,s2⟩:=b;simp only at *;generalize hW:(w.alloc (.cells #[U O x1,U O y1,U O z1,U O p1,U O s1] 36)).alloc (.cells #[U O x2,U O y2,U O z2,U O p2,U O s2] 36)=W at *;have HW:Hid (Below w.heap.size w W):=by rw[<- hW];exact((Ib _ _).alloc (Ie _) _).alloc (by simp) _
 have E0:∀d os,(Ig (Im W d) os).cell? ⟨w.heap.size,0,be⟩=AI (U O x1):=Ih (by rw[<- hW];simp);have E1:∀d os,(Ig (Im W d) os).cell? ⟨w.heap.size,1,be⟩=AI (U O y1):=Ih (by rw[<- hW];simp);have E2:∀d os,(Ig (Im W d) os).cell? ⟨w.heap.size,2,be⟩=AI (U O z1):=Ih (by rw[<- hW];simp);have E3:∀d os,(Ig (Im W d) os).cell? ⟨w.heap.size,3,be⟩=AI (U O p1):=Ih (by rw[<- hW];simp);have E4:∀d os,(Ig (Im W d) os).cell? ⟨w.heap.size,4,be⟩=AI (U O s1):=Ih (by rw[<- hW];simp);have F0:∀d os,(Ig (Im W d) os).cell? ⟨w.heap.size+1,0,be⟩=AI (U O x2):=Ih (by rw[<- hW];simp);have F1:∀d os,(Ig (Im W d) os).cell? ⟨w.heap.size+1,1,be⟩=AI (U O y2):=Ih (by rw[<- hW];simp);have F2:∀d os,(Ig (Im W d) os).cell? ⟨w.heap.size+1,2,be⟩=AI (U O z2):=Ih (by rw[<- hW];simp);have F3:∀d os,(Ig (Im W d) os).cell? ⟨w.heap.size+1,3,be⟩=AI (U O p2):=Ih (by rw[<- hW];simp);have F4:∀d os,(Ig (Im W d) os).cell? ⟨w.heap.size+1,4,be⟩=AI (U O s2):=Ih (by rw[<- hW];simp);have cN:∀d os,Calls AS 267 #[Ik #[U O x1,U O y1,U O z1,U O p1,U O s1],Ik #[U O x2,U O y2,U O z2,U O p2,U O s2]] (Ig (Im W d) os) λe fR=>e=AT (U O r)/\∃p:Regrown,fR=Ig (Im W p.d) p.os:=λd os=>
  Calls.regrown_of ((sy _).mono (by rintro e w' ⟨rfl,hb⟩;exact⟨rfl,hb⟩))
 clear sy;go_enter Tryz.func226,Tryz.ntmps226;go_wp2_with fail;refine wp_region_quiet_below (by kernel_rfl) (by kernel_rfl) ?_;repeat(quiet_step (exact cN _ _))
 refine bu λdq gW dF=>?_;clear cN E0 E1 E2 E3 E4 F0 F1 F2 F3 F4;go_wp2_with fail;go_ret;exact⟨An (by rw[Ch (m:=r+p1) (by omega) (by omega),Ch (by omega) (by omega)];exact HE.out.symm),HW.out.trans (dF.out.mono HW.out.size)⟩
theorem yA(a b:Pl):kd [a,b]=0↔tE a/\tE b:=by
 rw[<- o9,<- o9];unfold kd kd kd;by_cases h:eF a=0<;>by_cases g:eF b=0<;>simp[h,g]
theorem gr{W:World}{cs:Array Value}{t:TypeId}{g k:Nat}(hg:g=W.heap.size):(W.alloc (.cells cs t)).cell? ⟨g,k,be⟩=cs[k]?:=by subst hg;simp
theorem qQ{W:World}{o:Obj}{g k:Nat}(hg:g<W.heap.size):(W.alloc o).cell? ⟨g,k,be⟩=W.cell? ⟨g,k,be⟩:=
 ((Ib W.heap.size W).alloc (Ie _) o).cell (p:=⟨g,k,be⟩) hg
theorem vV{W:World}{a b:Pl}{t:TypeId}{g:Nat}(hg:g=W.heap.size):Ll (W.alloc (.cells #[U O a.x,U O a.y,U O a.z,U O a.h,U O a.s,U O b.x,U O b.y,U O b.z,U O b.h,U O b.s] t)) g 0 [a,b]:=by
 intro k hk
 match k,hk with
 |0,_=>exact⟨gr hg,gr hg,gr hg,gr hg,gr hg⟩
 |1,_=>exact⟨gr hg,gr hg,gr hg,gr hg,gr hg⟩
def oH(n a b:Int):Bool:=decide (a<=n)&&decide (n<=b)
theorem ajt{a b:Bool}(h:a=b):Ending.returned (.bool a)=AT (.bool b):=by rw[h]
theorem KD{n a b:Int}(h:oH n a b=true):a<=n/\n<=b:=by simpa[oH] using h
def wI(a b:Pl):Int:=if a.s+b.s=0 then 500 else a.s*1000/(a.s+b.s)
def jj(a b:Pl)(st:Int):Pl:=
 if gM a b=0 then⟨a.x+st,a.y,a.z,a.h+st.tdiv 10,a.s⟩
 else⟨a.x+(st*(a.x-b.x)).tdiv (gM a b),a.y+(st*(a.y-b.y)).tdiv (gM a b),a.z+(st*(a.z-b.z)).tdiv (gM a b),a.h+st.tdiv 10,a.s⟩
theorem vW{a b A B:Int}(a0 : -A<=a)(a1:a<=A)(b0 : -B<=b)(b1:b<=B) : -(A*B)<=a*b/\a*b<=A*B:=by
 have h1:a.natAbs<=A.natAbs:=by omega
 have h2:b.natAbs<=B.natAbs:=by omega
 have h3:=Nat.mul_le_mul h1 h2;rw[<- Int.natAbs_mul,<- Int.natAbs_mul] at h3;have h4:0<=A*B:=Int.mul_nonneg (by omega) (by omega);omega
theorem nI{m k A:Int}(hk:0<k)(h0 : -A<=m)(h1:m<=A) : -A<=m.tdiv k/\m.tdiv k<=A:=by
 rcases Int.le_total 0 m with h|h
 .rw[Ov h]
  have:=Um h (Int.le_of_lt hk);have:=Int.ediv_le_self k h;omega
 .have e:m.tdiv k = -((-m)/k):=by
   rw[<- Ov (by omega),Int.neg_tdiv,Int.neg_neg]
  rw[e];have:=Um (a := -m) (by omega) (Int.le_of_lt hk);have:=Int.ediv_le_self k (a := -m) (by omega);omega
theorem Lp(a b:Pl)(st:Int)(w:World)(ha:tE a)(hb:tE b)(h0 : -20000000<=st)(h1:st<=20000000)(hz:gM a b=0) :
 Calls AS 228 #[Ik #[U O a.x,U O a.y,U O a.z,U O a.h,U O a.s],Ik #[U O b.x,U O b.y,U O b.z,U O b.h,U O b.s],U O st] w λe w'=>e=AT (Ik #[U O (a.x+st),U O a.y,U O a.z,U O (a.h+st.tdiv 10),U O a.s])/\Below w.heap.size w w':=by
 have sy:=λw=>tl a b w ha hb;rw[hz] at sy;obtain⟨ax0,ax1,ay0,ay1,az0,az1,_,_,_,_⟩:=ha;obtain⟨bx0,bx1,by0,by1,bz0,bz1,_,_,_,_⟩:=hb;clear hz;obtain⟨x1,y1,z1,p1,s1⟩:=a;obtain⟨x2,y2,z2,p2,s2⟩:=b;simp only at *;have d0:=(nI (m:=st) (k:=10) (A:=20000000) (by omega) h0 h1).1;have d1:=(nI (m:=st) (k:=10) (A:=20000000) (by omega) h0 h1).2;go_enter Tryz.func228,Tryz.ntmps228;go_wp2_with fail;refine(sy _).mono ?_;rintro e w1 ⟨rfl,aC⟩;obtain⟨hc,hf⟩:=cd aC;have hz:w.heap.size+1+1+1<w1.heap.size:=by have:=aC.size;simp at this;omega
 have aZ:Hid _:=(((((Ib _ _).alloc (Ie _) _).alloc (by simp) _).alloc (by simp;omega) _).alloc (by simp;omega) _).trans (aC.mono (by simp;omega));clear aC sy;go_wp2_with fail;exact IL (v:=Ik #[U O (x1+st),U O y1,U O z1,U O (p1+st.tdiv 10),U O s1]) (by simp[results,Tryz.results228,go_sem,hc]) rfl ⟨rfl,(((((aZ.out.setCell (by simp;omega) _).setCell (by simp;omega) _).setCell (by simp;omega) _).setCell (by simp;omega) _).setCell (by simp;omega) _).setCell (by simp;omega) _⟩
theorem P4(a b:Pl)(st D:Int)(w:World)(ha:tE a)(hb:tE b)(h0 : -20000000<=st)(h1:st<=20000000)(hD:gM a b=D)(hp:0<D) :
 Calls AS 228 #[Ik #[U O a.x,U O a.y,U O a.z,U O a.h,U O a.s],Ik #[U O b.x,U O b.y,U O b.z,U O b.h,U O b.s],U O st] w λe w'=>e=AT (Ik #[U O (a.x+(st*(a.x-b.x)).tdiv D),U O (a.y+(st*(a.y-b.y)).tdiv D),U O (a.z+(st*(a.z-b.z)).tdiv D),U O (a.h+st.tdiv 10),U O a.s])/\Below w.heap.size w w':=by
 have sy:=λw=>tl a b w ha hb;rw[hD] at sy;obtain⟨ax0,ax1,ay0,ay1,az0,az1,_,_,_,_⟩:=ha;obtain⟨bx0,bx1,by0,by1,bz0,bz1,_,_,_,_⟩:=hb;clear hD;obtain⟨x1,y1,z1,p1,s1⟩:=a;obtain⟨x2,y2,z2,p2,s2⟩:=b;simp only at *;have d0:=(nI (m:=st) (k:=10) (A:=20000000) (by omega) h0 h1).1;have d1:=(nI (m:=st) (k:=10) (A:=20000000) (by omega) h0 h1).2;obtain⟨mx0,mx1⟩:=vW (a:=st) (b:=x1-x2) (A:=20000000) (B:=20000000) h0 h1 (by omega) (by omega);obtain⟨my0,my1⟩:=vW (a:=st) (b:=y1-y2) (A:=20000000) (B:=20000000) h0 h1 (by omega) (by omega);obtain⟨mz0,mz1⟩:=vW (a:=st) (b:=z1-z2) (A:=20000000) (B:=20000000) h0 h1 (by omega) (by omega);obtain⟨qx0,qx1⟩:=nI hp mx0 mx1;obtain⟨qy0,qy1⟩:=nI hp my0 my1;obtain⟨xX,xY⟩:=nI hp mz0 mz1;go_enter Tryz.func228,Tryz.ntmps228;go_wp2_with fail;refine(sy _).mono ?_;rintro e w1 ⟨rfl,aC⟩;obtain⟨hc,hf⟩:=cd aC;have hz:w.heap.size+1+1+1<w1.heap.size:=by have:=aC.size;simp at this;omega
 have aZ:Hid _:=(((((Ib _ _).alloc (Ie _) _).alloc (by simp) _).alloc (by simp;omega) _).alloc (by simp;omega) _).trans (aC.mono (by simp;omega));clear aC sy;go_wp2_with fail;go_region
 go_wp2_with fail;go_region
 go_wp2_with fail;go_region
 go_wp2_with fail;exact IL (v:=Ik #[U O (x1+(st*(x1-x2)).tdiv D),U O (y1+(st*(y1-y2)).tdiv D),U O (z1+(st*(z1-z2)).tdiv D),U O (p1+st.tdiv 10),U O s1]) (by simp[results,Tryz.results228,go_sem,hc]) rfl ⟨rfl,((((((((((aZ.out.setCell (by simp;omega) _).setCell (by simp;omega) _).setCell (by simp;omega) _).setCell (by simp;omega) _).setCell (by simp;omega) _).setCell (by simp;omega) _).setCell (by simp;omega) _).setCell (by simp;omega) _).drew).drew).drew⟩
theorem N6(a b:Pl)(st:Int)(w:World)(ha:tE a)(hb:tE b)(h0 : -20000000<=st)(h1:st<=20000000) :
 Calls AS 228 #[Ik #[U O a.x,U O a.y,U O a.z,U O a.h,U O a.s],Ik #[U O b.x,U O b.y,U O b.z,U O b.h,U O b.s],U O st] w λe w'=>e=AT (Ik #[U O (jj a b st).x,U O (jj a b st).y,U O (jj a b st).z,U O (jj a b st).h,U O (jj a b st).s])/\Below w.heap.size w w':=by
 by_cases hz:gM a b=0
 .unfold jj
  rw[if_pos hz];exact Lp a b st w ha hb h0 h1 hz
 .unfold jj
  rw[if_neg hz];exact P4 a b st _ w ha hb h0 h1 rfl (by have:=(sY ha hb).1;omega)
theorem Tf(a b:Pl)(st:Int):(jj a b st).s=a.s:=by unfold jj;split<;>rfl
theorem VG{a b:Pl}(ha:tE a)(hb:tE b):0<=wI a b/\wI a b<=1000:=by
 have h1:=ha.s0;have h2:=hb.s0;unfold wI;split
 .omega
 .refine⟨Um (by omega) (by omega),?_⟩
  exact Int.ediv_le_of_le_mul (by omega) (by omega)
theorem Eb(a b:Pl)(w:World)(ha:tE a)(hb:tE b) :
 Calls AS 227 #[Ik #[U O a.x,U O a.y,U O a.z,U O a.h,U O a.s],Ik #[U O b.x,U O b.y,U O b.z,U O b.h,U O b.s]] w λe w'=>e=AT (U O (wI a b))/\Below w.heap.size w w':=by
 have h1:=ha.s0;have h2:=hb.s0;have h3:=ha.s1;have h4:=hb.s1;have hw:=VG ha hb;by_cases hz:a.s+b.s=0
 .have HE:Hid (wI a b=500):=(show wI a b=500 by unfold wI;rw[if_pos hz])
  clear hw;generalize wI a b=W at *;clear ha hb;obtain⟨x1,y1,z1,p1,s1⟩:=a;obtain⟨x2,y2,z2,p2,s2⟩:=b;simp only at *;go_enter Tryz.func227,Tryz.ntmps227;go_wp2_with fail;go_ret;exact⟨An HE.out.symm,((Ib _ _).alloc (Ie _) _).alloc (by simp) _⟩
 .have HE:Hid (wI a b=a.s*1000/(a.s+b.s)):=(show wI a b=_ by unfold wI;rw[if_neg hz])
  rw[HE.out] at hw;obtain⟨w0,w1⟩:=hw;generalize wI a b=W at *;clear ha hb;obtain⟨x1,y1,z1,p1,s1⟩:=a;obtain⟨x2,y2,z2,p2,s2⟩:=b;simp only at *;have abl:0<s1+s2:=by omega
  go_enter Tryz.func227,Tryz.ntmps227;go_wp2_with fail;go_ret;exact⟨An (by rw[HE.out]),((Ib _ _).alloc (Ie _) _).alloc (by simp) _⟩
end Go.Proofs.YtbfghimjdlpicaaGreatDoor
