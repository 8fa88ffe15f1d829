import Derived.Lib.ItoaNum
import Derived.Deep.RegionHeld3
import Derived.Test.YtfidjlcdlakceaaGreatDoorrt3
set_option maxHeartbeats 1600000
open Go.IntKind renaming wrap_i64→IN,i64→J
open Go.Lib renaming bitLen→Qm
open Go.Value renaming int→O,agg→Ip
open Go.Ending renaming returned→sh
open Go.Proofs.Tryz renaming prog→be
open Option renaming none→Y,some→Z
open Nat renaming le_refl→By
open Go.Sort renaming grow→Im
open Go renaming redrawn→Ix,cell_regrown→Iq,wp_region_quiet_below→IT
open List renaming getD_cons_zero→I4,getD_cons_succ→Jv
namespace Go.Proofs.YtfidjlcdlakceaaGreatDoor
open Go.RowKit
def pU(n r:Int):Prop:=0<=r/\r*r<=n/\n<(r+1)*(r+1)
theorem Dq{a b:Int}(h0:0<=a)(h:a<=b):a*a<=b*b:=Int.mul_le_mul h h h0 (by omega)
def rtN(n:Nat):Nat->Nat
 |0=>0
 |k+1=>if(k+1)*(k+1)<=n then k+1 else rtN n k
def rt(n:Int):Int:=(rtN n.toNat n.toNat:Nat)
theorem MF{n r:Nat}(h1:r*r<=n)(h2:n<(r+1)*(r+1)):∀k,r<=k->rtN n k=r
 |0,hk=>by
  have e:r=0:=by omega
  rw[e];rfl
 |k+1,hk=>by
  simp only[rtN];by_cases hc:(k+1)*(k+1)<=n
  .rw[if_pos hc]
   rcases Nat.lt_or_ge r (k+1) with h|h
   .have:=Nat.mul_le_mul (show r+1<=k+1 by omega) (show r+1<=k+1 by omega)
    omega
   .omega
  .rw[if_neg hc]
   have bE:r≠k+1:=λe=>hc (e▸h1);exact MF h1 h2 k (by omega)
theorem rt_eq{n r:Int}(h:pU n r):rt n=r:=by
 obtain⟨h0,h1,h2⟩:=h;obtain⟨m,rfl⟩:=Int.eq_ofNat_of_zero_le h0;have hn:=Int.le_trans (Int.mul_nonneg h0 h0) h1;obtain⟨k,rfl⟩:=Int.eq_ofNat_of_zero_le hn;have g1:m*m<=k:=by exact_mod_cast h1
 have g2:k<(m+1)*(m+1):=by exact_mod_cast h2
 have g3:=Nat.le_trans (Nat.le_mul_self m) g1;show((rtN k k:Nat):Int)=(m:Int);rw[MF g1 g2 k g3]
def zO(n r b:Int):Prop:=0<=r/\r*r<=n/\n<(r+b)*(r+b)
theorem Rv{n r b:Int}(h:zO n r (2*b))(hb:0<=b)(hx:(r+b)*(r+b)<=n):zO n (r+b) b:=by
 obtain⟨h0,h1,h2⟩:=h;refine⟨by omega,hx,?_⟩;rw[show r+b+b=r+2*b by omega];exact h2
theorem MG{n r b:Int}(h:zO n r (2*b))(hx:¬ (r+b)*(r+b)<=n):zO n r b:=
 ⟨h.1,h.2.1,by omega⟩
theorem MH{n r:Int}(h:zO n r 1):pU n r:=h
theorem Rw{n r b:Int}(h:zO n r b)(hn:n<=9223372036854775807):r<=3037000499:=by
 apply Classical.byContradiction;intro c;have:=Dq (a:=3037000500) (b:=r) (by omega) (by omega);have:=h.2.1;omega
theorem Dr{n x:Int}(hx:0<x):x<=n/x↔x*x<=n:=Int.le_ediv_iff_mul_le hx
theorem two_pow_pos(k:Nat):(0:Int)<2^k:=by
 have:(0:Nat)<2^k:=Nat.two_pow_pos k
 exact_mod_cast this
theorem two_pow_succ(k:Nat):(2:Int)^(k+1)=2*2^k:=by rw[Int.pow_succ];omega
theorem tR{a b:Nat}(h:a<=b):(2:Int)^a<=2^b:=by
 have:(2:Nat)^a<=2^b:=Nat.pow_le_pow_right (by omega) h
 exact_mod_cast this
theorem Gy(n:Int)(h₀:0<=n)(h₁:n<2^63):IntKind.i64.wrap n=n:=by rw[IN];omega
theorem WO(k:Nat)(r:Int)(h0:0<=r)(hm:r%2^(k+1)=0)(hr:r<2^63)(hk:k<=62):bits BinOp.or IntKind.i64 r (2^k)=r+2^k:=
 bits_join J 63 (by decide) Gy (k+1) r (2^k) h0 hm hr (Int.le_of_lt (two_pow_pos k)) (by rw[two_pow_succ];have:=two_pow_pos k;omega) (Int.lt_of_le_of_lt (tR hk) (by decide))
theorem zP{r:Int}{k:Nat}(hm:r%2^(k+1)=0):r%2^k=0:=
 Int.emod_eq_zero_of_dvd (Int.dvd_trans ⟨2,by rw[Int.pow_succ]⟩ (Int.dvd_of_emod_eq_zero hm))
theorem Rz{r:Int}{k:Nat}(hm:r%2^(k+1)=0):(r+2^k)%2^k=0:=by
 rw[Int.add_emod_right];exact zP hm
theorem WQ(n:Nat)(h:n<2^64):n<2^Qm n:=by
 by_cases h0:n=0
 .subst h0;decide
 .exact(Lib.bitLenAux_bounds 64 n h h0).2.2
theorem Ce{n:Int}(h0:0<=n)(h1:n<=9223372036854775807)(j:Nat)(hj:Qm n.toNat/2=j):zO n 0 (2^(j+1)):=by
 refine⟨by omega,by simpa using h0,?_⟩;have h2:=WQ n.toNat (by omega);have h3:(2:Nat)^Qm n.toNat<=2^(2*(j+1)):=Nat.pow_le_pow_right (by omega) (by omega);have h4:(2:Nat)^(2*(j+1))=2^(j+1)*2^(j+1):=by rw[<- Nat.pow_add];congr 1;omega
 have h5:n.toNat<2^(j+1)*2^(j+1):=by omega
 have h6:((n.toNat:Nat):Int)<((2^(j+1)*2^(j+1):Nat):Int):=by exact_mod_cast h5
 rw[Int.toNat_of_nonneg h0] at h6;simpa using h6
theorem pF{k:IntKind}{a b:Int}(h:a=b):Ending.returned (O k a)=sh (O k b):=by rw[h]
theorem Ds{m:Int}(h0 : -9223372036854775808<=m)(h1:m<=9223372036854775807):wrap64 m=m:=by
 rw[wrap64];omega
theorem zQ{n x:Int}(h0:0<=n)(h1:n<=9223372036854775807)(hx:0<x):wrap64 (n.tdiv x)=n/x:=by
 rw[Int.tdiv_eq_ediv_of_nonneg h0];have:=Int.ediv_nonneg h0 (Int.le_of_lt hx);have:=Int.ediv_le_self x h0;exact Ds (by omega) (by omega)
theorem MI(j:Nat)(r:Int)(h0:0<=r)(hm:r%2^(j+1)=0)(h1:r<=3037000499)(hj:j<=40):bits BinOp.or IntKind.i64 r (wrap64 (2^j))=r+2^j:=by
 have h2:=tR hj;have h3:=two_pow_pos j;have h4:(2:Int)^40=1099511627776:=by decide
 rw[Ds (by omega) (by omega)];exact WO j r h0 hm (Int.lt_of_le_of_lt h1 (by decide)) (by omega)
theorem MJ(n:Int)(w:World)(h0:0<=n)(h1:n<=9223372036854775807) :
 Calls be 308 #[O J n] w λe w'=>e=sh (O J (rt n))/\w'=w:=by
 have hlen:(Qm n.toNat:Int)<=64:=by have:=Lib.bitLen_le n.toNat 64 (by omega) (by omega);omega
 have ajD:(0:Int)<=(Qm n.toNat:Int):=by omega
 go_enter Tryz.func308,Tryz.ntmps308;go_wp2_with (go_at_call 159;refine(Tryz.bits_Len _ _ (by omega) (by omega)).mono ?_;rintro e w' ⟨rfl,rfl⟩);go_loop [3,4] (λx b=>∃(i:Nat) (r:Int),i<=33/\x=O J r/\b=O J ((i:Int)-1)/\Hid (zO n r (2^i))/\Hid (r%2^i=0)) (λ_ b=>(intOf b+1).toNat)
 case atStart=>
  exact⟨Qm n.toNat/2+1,0,by omega,rfl,congrArg (Value.int IntKind.i64) (by omega),Ce h0 h1 _ rfl,(show(0:Int)%_=0 by simp)⟩
 case round=>
  obtain⟨i,r,hi,rfl,rfl,HS,HM⟩:=hrel;have Aj:=HS.out.1;have kF:=Rw HS.out h1;cases i with
  |zero=>
   go_wp2;go_ret;exact⟨pF (rt_eq (MH HS.out)).symm,rfl⟩
  |succ j=>
   have hj:((j+1:Nat):Int)-1=j:=by omega
   rw[hj];have HO:Hid _:=MI j r Aj HM.out kF (by omega);have hp:=two_pow_pos j;go_wp2
   .exfalso;have:=HO.out;omega
   .rename_i GN vB
    rw[HO.out] at vB ⊢;rw[zQ h0 h1 (by omega)] at vB;refine⟨⟨j,r+2^j,by omega,rfl,rfl,Rv (by rw[<- two_pow_succ];exact HS.out) (by omega) ((Dr (by omega)).1 vB),Rz HM.out⟩,by simp[intOf]⟩
   .rename_i GN vB
    rw[HO.out] at vB;rw[zQ h0 h1 (by omega)] at vB;refine⟨⟨j,r,by omega,rfl,rfl,MG (by rw[<- two_pow_succ];exact HS.out) (λh=>by have:=(Dr (x:=r+2^j) (n:=n) (by omega)).2 h;omega),zP HM.out⟩,by simp[intOf]⟩
structure Pl where
 x:Int
 y:Int
 z:Int
 h:Int
 s:Int
def de(n lo hi:Int):Int:=min (max n lo) hi
def WR(p:Pl):Pl:=⟨de p.x (-10000000) 10000000,de p.y (-10000000) 10000000,de p.z (-10000000) 10000000,de p.h 0 1000000,de p.s 0 1000⟩
structure uy(p:Pl):Prop where
 x0 : -10000000<=p.x
 x1:p.x<=10000000
 y0 : -10000000<=p.y
 y1:p.y<=10000000
 z0 : -10000000<=p.z
 z1:p.z<=10000000
 h0:0<=p.h
 h1:p.h<=1000000
 s0:0<=p.s
 s1:p.s<=1000
def oI(a b:Pl):Bool:=a.x==b.x&&(a.y==b.y&&(a.z==b.z&&(a.h==b.h&&a.s==b.s)))
def bF(p:Pl):Int:=if oI p (WR p)=true then 0 else 3
theorem Gz(a b:Pl):oI a b=true↔a=b:=by
 obtain⟨a1,a2,a3,a4,a5⟩:=a;obtain⟨b1,b2,b3,b4,b5⟩:=b;simp[oI]
theorem jX{n lo hi:Int}(h:lo<=hi):n=de n lo hi↔lo<=n/\n<=hi:=by unfold de;omega
theorem rM(p:Pl):bF p=0↔uy p:=by
 obtain⟨x,y,z,h,s⟩:=p;have e:bF ⟨x,y,z,h,s⟩=0↔oI ⟨x,y,z,h,s⟩ (WR ⟨x,y,z,h,s⟩)=true:=by unfold bF;split<;>simp[*]
 rw[e,Gz];simp only[WR,Pl.mk.injEq];rw[jX (by omega),jX (by omega),jX (by omega),jX (by omega),jX (by omega)];exact⟨λ⟨⟨a,b⟩,⟨c,d⟩,⟨e,f⟩,⟨g,h⟩,⟨i,j⟩⟩=>⟨a,b,c,d,e,f,g,h,i,j⟩,λ⟨a,b,c,d,e,f,g,h,i,j⟩=>⟨⟨a,b⟩,⟨c,d⟩,⟨e,f⟩,⟨g,h⟩,⟨i,j⟩⟩⟩
theorem CI(p:Pl):bF p=0\/bF p=3:=by unfold bF;split<;>simp
theorem GA(n lo hi:Int)(w:World) :
 Calls be 237 #[O J n,O J lo,O J hi] w λe w'=>e=sh (O J (de n lo hi))/\w'=w:=by
 go_enter Tryz.func237,Tryz.ntmps237;go_wp2;all_goals
  go_ret;exact⟨pF (by unfold de;omega),rfl⟩
theorem zS(x y z h s:Int)(w:World) :
 Calls be 186 #[Ip #[O J x,O J y,O J z,O J h,O J s]] w λe w'=>e=sh (Ip #[O J (de x (-10000000) 10000000),O J (de y (-10000000) 10000000),O J (de z (-10000000) 10000000),O J (de h 0 1000000),O J (de s 0 1000)])/\Below w.heap.size w w':=by
 go_enter Tryz.func186,Tryz.ntmps186;go_wp2_with fail;go_region_held3 (λw'=>w'.cell? ⟨w.heap.size,0,Y⟩=Z (O J x)/\w'.cell? ⟨w.heap.size,1,Y⟩=Z (O J y)/\w'.cell? ⟨w.heap.size,2,Y⟩=Z (O J z)/\w'.cell? ⟨w.heap.size,3,Y⟩=Z (O J h)/\w'.cell? ⟨w.heap.size,4,Y⟩=Z (O J s)) (go_keep) (first|(go_at_call 237;refine(GA _ _ _ _).mono ?_;rintro e w' ⟨rfl,rfl⟩))
 go_wp2_with fail;exact bodyPost_ret (v:=Ip #[O J (de x (-10000000) 10000000),O J (de y (-10000000) 10000000),O J (de z (-10000000) 10000000),O J (de h 0 1000000),O J (de s 0 1000)]) (by simp[results,Tryz.results186,go_sem]) rfl ⟨rfl,(((Below.refl _ _).alloc (By _) _).alloc (by simp) _).drew⟩
theorem WS(a b:Pl)(w:World):(Op.equalIn 10000 27 (Ip #[O J a.x,O J a.y,O J a.z,O J a.h,O J a.s]) (Ip #[O J b.x,O J b.y,O J b.z,O J b.h,O J b.s])).run be w=.ok (oI a b) w:=by
 obtain⟨a1,a2,a3,a4,a5⟩:=a;obtain⟨b1,b2,b3,b4,b5⟩:=b;have u3:=run_underlying Tryz.underlying3;have a3':=Tryz.isAgg3;have z3:=Tryz.sizeOf3;have hS:Tryz.prog.underlying 27=Z (.struct (Tryz.prog.fieldsOf 27)):=by kernel_rfl
 have hp:Tryz.prog.stoodInHeld 27=false:=by kernel_rfl
 rw[show(10000:Nat)=9999+1 from rfl,run_equalIn_agg w 9999 27 _ _ hS hp];simp only[Program.fieldsOf,Tryz.underlying27];go_simp;unfold oI;by_cases h1:a1=b1<;>by_cases h2:a2=b2<;>by_cases h3:a3=b3<;>by_cases h4:a4=b4<;>by_cases h5:a5=b5<;>simp[h1,h2,h3,h4,h5]
theorem ab0(a b:Pl)(w:World):Sem.run be (binOp .neq 27 (Ip #[O J a.x,O J a.y,O J a.z,O J a.h,O J a.s]) (Ip #[O J b.x,O J b.y,O J b.z,O J b.h,O J b.s])) w=.ok (.bool (!oI a b)) w:=by
 rw[run_neq_struct,WS];rfl
theorem iN(p:Pl)(w:World) :
 Calls be 131 #[Ip #[O J p.x,O J p.y,O J p.z,O J p.h,O J p.s]] w λe w'=>e=sh (O J (bF p))/\Below w.heap.size w w':=by
 have Eg:=ab0 p (WR p);have HC:∀q,oI p (WR p)=q->Hid (bF p=bif q then 0 else 3):=λq hq=>(show bF p=_ by unfold bF;cases q<;>simp[hq]);generalize Aw:oI p (WR p)=q at Eg;have HD:=HC q Aw;clear Aw HC;generalize bF p=cp at *;obtain⟨x,y,z,h,s⟩:=p;simp only[WR] at Eg;have hgP:Tryz.prog.eqGuardType Tryz.prog.depth 27=false:=by kernel_rfl
 generalize hW:w.alloc (.cells #[O J x,O J y,O J z,O J h,O J s] 27)=W at *;have HW:Hid (Below w.heap.size w W):=by rw[<- hW];exact(Below.refl _ _).alloc (By _) _
 have E0:∀d os,(Im (Ix W d) os).cell? ⟨w.heap.size,0,Y⟩=Z (O J x):=Iq (by rw[<- hW];simp);have E1:∀d os,(Im (Ix W d) os).cell? ⟨w.heap.size,1,Y⟩=Z (O J y):=Iq (by rw[<- hW];simp);have E2:∀d os,(Im (Ix W d) os).cell? ⟨w.heap.size,2,Y⟩=Z (O J z):=Iq (by rw[<- hW];simp);have E3:∀d os,(Im (Ix W d) os).cell? ⟨w.heap.size,3,Y⟩=Z (O J h):=Iq (by rw[<- hW];simp);have E4:∀d os,(Im (Ix W d) os).cell? ⟨w.heap.size,4,Y⟩=Z (O J s):=Iq (by rw[<- hW];simp);have cN:∀d os,Calls be 186 #[Ip #[O J x,O J y,O J z,O J h,O J s]] (Im (Ix W d) os) λe kE=>e=sh (Ip #[O J (de x (-10000000) 10000000),O J (de y (-10000000) 10000000),O J (de z (-10000000) 10000000),O J (de h 0 1000000),O J (de s 0 1000)])/\∃p:Regrown,kE=Im (Ix W p.d) p.os:=λd os=>
  Calls.regrown_of ((zS _ _ _ _ _ _).mono (by rintro e w' ⟨rfl,hb⟩;exact⟨rfl,hb⟩))
 go_enter Tryz.func131,Tryz.ntmps131;go_wp2_with fail;cases q
 all_goals
  simp only[Bool.not_true,Bool.not_false] at Eg;refine IT (by kernel_rfl) (by kernel_rfl) ?_;repeat(quiet_step (exact cN _ _))
  refine cA λdq oN gC=>?_;clear cN E0 E1 E2 E3 E4;go_wp2_with fail;go_ret;exact⟨pF (by rw[HD.out];simp),HW.out.trans (gC.out.mono HW.out.size)⟩
end Go.Proofs.YtfidjlcdlakceaaGreatDoor
namespace Go.Proofs.YtfidjlcdlakceaaGreatDoor
namespace Wh
open Go.RowKit
def ord(a b:cd):Int:=bl a.node b.node
theorem keyed:RL.Keyed ord:=RL.mv cd.node
def fX(_ _:cd):Bool:=true
abbrev dt(ms:List cd):Prop:=RL.dt ord ms
abbrev bB(ms:List cd)(m:cd):List cd:=RL.Vp ord fX ms m
abbrev aC(ms:List cd):Bool:=RL.aC ord ms
theorem dM(ms:List cd)(h:∀j,j+1<ms.length->ord (ms.getD j dm) (ms.getD (j+1) dm)<0):aC ms=true:=RL.fF ord dm ms h
theorem dL(ms:List cd)(h:aC ms=true):∀j,j+1<ms.length->ord (ms.getD j dm) (ms.getD (j+1) dm)<0:=RL.fG ord dm ms h
def cd.e(m:cd):Int:=if aA m.node=true then bF ⟨m.x,m.y,m.z,m.h,m.s⟩ else 1
def aQ:List cd->Int
 |[]=>0
 |m::r=>if m.e=0 then aQ r else m.e
theorem bM:∀(ms:List cd),(∀j,j<ms.length->(ms.getD j dm).e=0)->aQ ms=0
 |[],_=>rfl
 |m::r,h=>by
  have h0:=h 0 (by simp);simp only[I4] at h0;rw[aQ,if_pos h0];exact bM r λj hj=>by have:=h (j+1) (by simpa using hj);simpa using this
theorem dv:∀(ms:List cd) (k:Nat),k<ms.length->(∀j,j<k->(ms.getD j dm).e=0)->(ms.getD k dm).e≠0->aQ ms=(ms.getD k dm).e
 |[],k,h,_,_=>by simp at h
 |m::r,0,_,_,bE=>by
  simp only[I4] at bE ⊢;rw[aQ,if_neg bE]
 |m::r,k+1,h,hz,bE=>by
  have h0:=hz 0 (by omega);simp only[I4] at h0;rw[aQ,if_pos h0,Jv];rw[Jv] at bE;exact dv r k (by simpa using h) (λj hj=>by have:=hz (j+1) (by omega);simpa using this) bE
theorem dw:∀(ms:List cd),aQ ms=0->∀m∈ms,m.e=0
 |[],_,m,hm=>by simp at hm
 |x::r,h,m,hm=>by
  rw[aQ] at h;split at h
  .rename_i hx
   rcases List.mem_cons.1 hm with rfl|hm
   .exact hx
   .exact dw r h m hm
  .rename_i hx;exact absurd h hx
def aM(ms:List cd):Int:=if 20<ms.length then 2 else if aQ ms=0 then(if aC ms=true then 0 else 4) else aQ ms
theorem ll(ms:List cd)(k:Nat)(hn:ms.length<=20)(hk:k<ms.length)(hz:∀j,j<k->(ms.getD j dm).e=0)(bE:(ms.getD k dm).e≠0):aM ms=(ms.getD k dm).e:=by
 have h:=dv ms k hk hz bE;rw[aM,if_neg (by omega),h,if_neg bE]
theorem ja(ms:List cd)(hn:ms.length<=20)(hz:∀j,j<ms.length->(ms.getD j dm).e=0):aM ms=if aC ms=true then 0 else 4:=by
 rw[aM,if_neg (by omega),bM ms hz,if_pos rfl]
theorem sf(ms:List cd)(k:Nat)(hn:ms.length<=20)(hz:∀j,j<ms.length->(ms.getD j dm).e=0)(hk:k+1<ms.length)(hl:¬ ord (ms.getD k dm) (ms.getD (k+1) dm)<0):aM ms=4:=by
 rw[ja ms hn hz,if_neg];intro h;exact hl (dL ms h k hk)
theorem sg(ms:List cd)(hn:ms.length<=20)(hz:∀j,j<ms.length->(ms.getD j dm).e=0)(hl:∀j,j+1<ms.length->ord (ms.getD j dm) (ms.getD (j+1) dm)<0):aM ms=0:=by
 rw[ja ms hn hz,if_pos (dM ms hl)]
theorem aI{ms:List cd}(h:aM ms=0):ms.length<=20/\dt ms/\aQ ms=0:=by
 unfold aM at h;split at h
 .omega
 .split at h
  .rename_i h1 h2
   split at h
   .rename_i h3
    exact⟨by omega,RL.kd ord keyed ms h3,h2⟩
   .omega
  .rename_i h1 h2;exact absurd h h2
end Wh
namespace Wh
open Go.RowKit
end Wh
end Go.Proofs.YtfidjlcdlakceaaGreatDoor
namespace Go.Proofs.YtfidjlcdlakceaaGreatDoor
open Go.RowKit
def dp:Pl:=⟨0,0,0,0,0⟩
def pG(w:World)(b off:Nat)(ps:List Pl):Prop:=∀k,k<ps.length ->
 w.cell? ⟨b,off+k*5,Y⟩=Z (O J (ps.getD k dp).x)/\w.cell? ⟨b,off+k*5+1,Y⟩=Z (O J (ps.getD k dp).y)/\w.cell? ⟨b,off+k*5+2,Y⟩=Z (O J (ps.getD k dp).z)/\w.cell? ⟨b,off+k*5+3,Y⟩=Z (O J (ps.getD k dp).h)/\w.cell? ⟨b,off+k*5+4,Y⟩=Z (O J (ps.getD k dp).s)
theorem pG.below{w w':World}{b off:Nat}{ps:List Pl}(h:pG w b off ps)(hb:Below w.heap.size w w'):pG w' b off ps:=λk hk=>by
 obtain⟨h0,h1,h2,h3,h4⟩:=h k hk;have aB:b<w.heap.size:=World.block_lt_of_cell? w ⟨b,off+k*5,Y⟩ h0;exact⟨by rw[hb.cell aB];exact h0,by rw[hb.cell aB];exact h1,by rw[hb.cell aB];exact h2,by rw[hb.cell aB];exact h3,by rw[hb.cell aB];exact h4⟩
def gN:List Pl->Int
 |[]=>0
 |p::r=>if bF p=0 then gN r else 3
theorem iK:∀(ps:List Pl),gN ps=0↔∀j,j<ps.length->bF (ps.getD j dp)=0
 |[]=>by simp[gN]
 |p::r=>by
  unfold gN;by_cases h:bF p=0
  .rw[if_pos h,iK r]
   constructor
   .intro g j hj
    cases j with
    |zero=>simpa using h
    |succ j=>simpa using g j (by simpa using hj)
   .intro g j hj
    simpa using g (j+1) (by simpa using hj)
  .rw[if_neg h]
   exact⟨λe=>by simp at e,λg=>absurd (by simpa using g 0 (by simp)) h⟩
theorem sX:∀(ps:List Pl),gN ps=0\/gN ps=3
 |[]=>.inl rfl
 |p::r=>by
  unfold gN;split
  .exact sX r
  .exact .inr rfl
theorem pO{ps:List Pl}{k:Nat}(hk:k<ps.length)(h:bF (ps.getD k dp)≠0):gN ps=3:=by
 rcases sX ps with e|e
 .exact absurd ((iK ps).1 e k hk) h
 .exact e
theorem gD(ps:List Pl)(b off n cap:Nat)(w:World)(hn:ps.length=n)(hr:pG w b off ps)(Aw:n<=1000) :
 Calls be 263 #[.slice (Z ⟨b,off,Y⟩) n cap] w λe w'=>e=sh (O J (gN ps))/\Below w.heap.size w w':=by
 have HR:Hid (pG w b off ps):=hr;have HN:Hid _:=hn;clear hr hn;go_enter Tryz.func263,Tryz.ntmps263;go_wp2;go_loopw [8] (λi w'=>∃k:Nat,k<=n/\i=O J k/\Hid (Below w.heap.size w w')/\Hid (∀j,j<k->bF (ps.getD j dp)=0)) (λi _=>n-(intOf i).toNat)
 case atStart=>exact⟨0,Nat.zero_le _,rfl,Below.refl _ _,λj hj=>by omega⟩
 case round=>
  obtain⟨k,hk,rfl,HB,HZ⟩:=hrel;by_cases aB:k<n
  .obtain⟨c0,c1,c2,c3,c4⟩:=HR.out.below HB.out k (by rw[HN.out];exact aB)
   have HS:Hid (bF (ps.getD k dp)=0->∀j,j<k+1->bF (ps.getD j dp)=0):=λh j hj=>by
    by_cases e:j=k
    .subst e;exact h
    .exact HZ.out j (by omega)
   have HX:Hid (bF (ps.getD k dp)≠0->gN ps=bF (ps.getD k dp)):=λh=>by
    rw[pO (by rw[HN.out];exact aB) h];exact((CI _).resolve_left h).symm
   generalize ps.getD k dp=pk at *;obtain⟨x,y,z,h,s⟩:=pk;simp only at c0 c1 c2 c3 c4;clear HZ;go_wp2_with fail;refine(iN ⟨x,y,z,h,s⟩ _).mono ?_;rintro e w1 ⟨rfl,an⟩;have aK:Hid _:=(HB.out.alloc HB.out.size _).trans (an.mono (by have:=HB.out.size;simp;omega));clear an c0 c1 c2 c3 c4;by_cases hc:bF ⟨x,y,z,h,s⟩=0
   .have hc':(bF ⟨x,y,z,h,s⟩!=0)=false:=by simpa using hc
    have EA:=HS.out hc;have xN:Hid _:=EA;clear EA HS HX hc;go_wp2_with fail;go_roundw
    case rel=>exact⟨k+1,by omega,by go_num,aK,xN⟩
    case measure=>simp[intOf];omega
   .have hc':(bF ⟨x,y,z,h,s⟩!=0)=true:=by simpa using hc
    have HE:Hid _:=HX.out hc;clear HS HX hc;go_wp2_with fail;go_ret;exact⟨pF HE.out.symm,aK.out⟩
  .have HE:Hid _:=(iK ps).2 (λj hj=>HZ.out j (by have:=HN.out;omega))
   clear HZ;go_wp2_with fail;go_ret;exact⟨pF HE.out.symm,HB.out⟩
def Dt(a b:Pl):Int:=(a.x-b.x)*(a.x-b.x)+(a.y-b.y)*(a.y-b.y)+(a.z-b.z)*(a.z-b.z)
def jz(a b:Pl):Int:=rt (Dt a b)
def K9(a b:Pl):Int:=jz a b+a.h+b.h
theorem zT{m:Int}(h0 : -9223372036854775808<=m)(h1:m<=9223372036854775807):IntKind.i64.wrap m=m:=by
 rw[IN];omega
theorem sq_nonneg(x:Int):0<=x*x:=by
 rcases Int.le_total 0 x with h|h
 .exact Int.mul_nonneg h h
 .exact Int.mul_nonneg_of_nonpos_of_nonpos h h
theorem ab1{x m:Int}(h0 : -m<=x)(h1:x<=m):x*x<=m*m:=by
 rcases Int.le_total 0 x with h|h
 .exact Dq h h1
 .have:=Dq (a := -x) (b:=m) (by omega) (by omega)
  rwa [Int.neg_mul_neg] at this
theorem vX{x:Int}(h0 : -20000000<=x)(h1:x<=20000000):x*x<=400000000000000:=ab1 (m:=20000000) h0 h1
theorem zU{a b:Pl}(ha:uy a)(hb:uy b):0<=Dt a b/\Dt a b<=1200000000000000:=by
 have h1:=vX (x:=a.x-b.x) (by have:=ha.x0;have:=hb.x1;omega) (by have:=ha.x1;have:=hb.x0;omega);have h2:=vX (x:=a.y-b.y) (by have:=ha.y0;have:=hb.y1;omega) (by have:=ha.y1;have:=hb.y0;omega);have h3:=vX (x:=a.z-b.z) (by have:=ha.z0;have:=hb.z1;omega) (by have:=ha.z1;have:=hb.z0;omega);have g1:=sq_nonneg (a.x-b.x);have g2:=sq_nonneg (a.y-b.y);have g3:=sq_nonneg (a.z-b.z);unfold Dt;omega
theorem GB{n r:Int}(h:pU n r):pU n (rt n):=by rw[rt_eq h];exact h
theorem Du:∀(n:Nat),∃r:Nat,pU n r
 |0=>⟨0,by decide,by decide,by decide⟩
 |n+1=>by
  obtain⟨r,h0,h1,h2⟩:=Du n;by_cases h:(((r+1:Nat):Int))*((r+1:Nat):Int)<=((n+1:Nat):Int)
  .refine⟨r+1,by omega,h,?_⟩
   have e1:((r:Int)+1+1)*((r:Int)+1+1)=((r:Int)+1)*((r:Int)+1)+2*r+3:=by
    simp only[Int.add_mul,Int.mul_add];omega
   push_cast
   omega
  .refine⟨r,h0,by push_cast;omega,by push_cast at h ⊢;omega⟩
theorem ab2{n:Int}(h:0<=n):pU n (rt n):=by
 obtain⟨r,hr⟩:=Du n.toNat;rw[Int.toNat_of_nonneg h] at hr;exact GB hr
theorem ab3{n:Int}(h0:0<=n)(h1:n<=1200000000000000):0<=rt n/\rt n<=34641016:=by
 obtain⟨h,g,_⟩:=ab2 h0;refine⟨h,?_⟩;apply Classical.byContradiction;intro c;have:=Dq (a:=34641017) (b:=rt n) (by omega) (by omega);omega
theorem vx{a b:Pl}(ha:uy a)(hb:uy b):0<=jz a b/\jz a b<=34641016:=
 ab3 (zU ha hb).1 (zU ha hb).2
theorem GC(a b:Pl)(w:World)(ha:uy a)(hb:uy b) :
 Calls be 295 #[Ip #[O J a.x,O J a.y,O J a.z,O J a.h,O J a.s],Ip #[O J b.x,O J b.y,O J b.z,O J b.h,O J b.s]] w λe w'=>e=sh (O J (jz a b))/\Below w.heap.size w w':=by
 have h1:=vX (x:=a.x-b.x) (by have:=ha.x0;have:=hb.x1;omega) (by have:=ha.x1;have:=hb.x0;omega);have h2:=vX (x:=a.y-b.y) (by have:=ha.y0;have:=hb.y1;omega) (by have:=ha.y1;have:=hb.y0;omega);have h3:=vX (x:=a.z-b.z) (by have:=ha.z0;have:=hb.z1;omega) (by have:=ha.z1;have:=hb.z0;omega);have g1:=sq_nonneg (a.x-b.x);have g2:=sq_nonneg (a.y-b.y);have g3:=sq_nonneg (a.z-b.z);have HE:Hid (jz a b=rt ((a.x-b.x)*(a.x-b.x)+(a.y-b.y)*(a.y-b.y)+(a.z-b.z)*(a.z-b.z))):=(show jz a b=_ from rfl);obtain⟨ax0,ax1,ay0,ay1,az0,az1,_,_,_,_⟩:=ha;obtain⟨bx0,bx1,by0,by1,bz0,bz1,_,_,_,_⟩:=hb;generalize jz a b=r at *;obtain⟨x1,y1,z1,p1,s1⟩:=a;obtain⟨x2,y2,z2,p2,s2⟩:=b;simp only at *;go_enter Tryz.func295,Tryz.ntmps295;go_wp2_with fail;go_quiet (fail)
 go_wp2_with (go_at_call 308;refine(MJ _ _ (by omega) (by omega)).mono ?_;rintro e w' ⟨rfl,rfl⟩);go_ret;exact⟨pF HE.out.symm,below_drewN (((Below.refl _ _).alloc (By _) _).alloc (by simp) _) _⟩
theorem Ps(a b:Pl)(w:World)(ha:uy a)(hb:uy b) :
 Calls be 286 #[Ip #[O J a.x,O J a.y,O J a.z,O J a.h,O J a.s],Ip #[O J b.x,O J b.y,O J b.z,O J b.h,O J b.s]] w λe w'=>e=sh (O J (K9 a b))/\Below w.heap.size w w':=by
 obtain⟨r0,r1⟩:=vx ha hb;have HE:Hid (K9 a b=jz a b+a.h+b.h):=(show K9 a b=_ from rfl);have hap:=λw=>GC a b w ha hb;have h0:=ha.h0;have h1:=ha.h1;have g0:=hb.h0;have g1:=hb.h1;clear ha hb;generalize jz a b=r at *;generalize K9 a b=f at *;obtain⟨x1,y1,z1,p1,s1⟩:=a;obtain⟨x2,y2,z2,p2,s2⟩:=b;simp only at *;generalize hW:(w.alloc (.cells #[O J x1,O J y1,O J z1,O J p1,O J s1] 27)).alloc (.cells #[O J x2,O J y2,O J z2,O J p2,O J s2] 27)=W at *;have HW:Hid (Below w.heap.size w W):=by rw[<- hW];exact((Below.refl _ _).alloc (By _) _).alloc (by simp) _
 have E0:∀d os,(Im (Ix W d) os).cell? ⟨w.heap.size,0,Y⟩=Z (O J x1):=Iq (by rw[<- hW];simp);have E1:∀d os,(Im (Ix W d) os).cell? ⟨w.heap.size,1,Y⟩=Z (O J y1):=Iq (by rw[<- hW];simp);have E2:∀d os,(Im (Ix W d) os).cell? ⟨w.heap.size,2,Y⟩=Z (O J z1):=Iq (by rw[<- hW];simp);have E3:∀d os,(Im (Ix W d) os).cell? ⟨w.heap.size,3,Y⟩=Z (O J p1):=Iq (by rw[<- hW];simp);have E4:∀d os,(Im (Ix W d) os).cell? ⟨w.heap.size,4,Y⟩=Z (O J s1):=Iq (by rw[<- hW];simp);have F0:∀d os,(Im (Ix W d) os).cell? ⟨w.heap.size+1,0,Y⟩=Z (O J x2):=Iq (by rw[<- hW];simp);have F1:∀d os,(Im (Ix W d) os).cell? ⟨w.heap.size+1,1,Y⟩=Z (O J y2):=Iq (by rw[<- hW];simp);have F2:∀d os,(Im (Ix W d) os).cell? ⟨w.heap.size+1,2,Y⟩=Z (O J z2):=Iq (by rw[<- hW];simp);have F3:∀d os,(Im (Ix W d) os).cell? ⟨w.heap.size+1,3,Y⟩=Z (O J p2):=Iq (by rw[<- hW];simp);have F4:∀d os,(Im (Ix W d) os).cell? ⟨w.heap.size+1,4,Y⟩=Z (O J s2):=Iq (by rw[<- hW];simp);have cN:∀d os,Calls be 295 #[Ip #[O J x1,O J y1,O J z1,O J p1,O J s1],Ip #[O J x2,O J y2,O J z2,O J p2,O J s2]] (Im (Ix W d) os) λe kE=>e=sh (O J r)/\∃p:Regrown,kE=Im (Ix W p.d) p.os:=λd os=>
  Calls.regrown_of ((hap _).mono (by rintro e w' ⟨rfl,hb⟩;exact⟨rfl,hb⟩))
 clear hap;go_enter Tryz.func286,Tryz.ntmps286;go_wp2_with fail;refine IT (by kernel_rfl) (by kernel_rfl) ?_;repeat(quiet_step (exact cN _ _))
 refine cA λdq oN gC=>?_;clear cN E0 E1 E2 E3 E4 F0 F1 F2 F3 F4;go_wp2_with fail;go_ret;exact⟨pF (by rw[zT (m:=r+p1) (by omega) (by omega),zT (by omega) (by omega)];exact HE.out.symm),HW.out.trans (gC.out.mono HW.out.size)⟩
end Go.Proofs.YtfidjlcdlakceaaGreatDoor
namespace Go.Proofs.YtfidjlcdlakceaaGreatDoor
open Go.ChangeShapes Go.WideShapes Go.ChangeAt Go.RowKit
section
variable {H:Type} {enc:TypeId × Value→H} {w:World} {base:Nat} {spare:Nat→Bool} {held:Bool}
end
end Go.Proofs.YtfidjlcdlakceaaGreatDoor
