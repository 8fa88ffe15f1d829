import Derived.Lib.ItoaNum
import Derived.Deep.RegionHeld3
import Derived.Test.YtfidjlcdlakceaaGreatDoortf3
set_option maxHeartbeats 1600000
set_option maxRecDepth 100000
open Go.IntKind renaming wrap_i64→IK,i64→J
open Go.Lib renaming bitLen→Qp
open Go.Value renaming int→O,agg→Im,bool→AI,string→I,slice→U,func→IZ,tuple→Il
open Go.Ending renaming returned→sh
open Go.Proofs.Tryz renaming prog→be
open Option renaming none→Y,some→Z
open Go.RowKit.Below renaming refl→Ib
open Nat renaming le_refl→By,not_lt_zero→Ji,zero_le→II
open Go.Sort renaming grow→Ip
open Go renaming redrawn→IA,cell_regrown→Iq,Regrown→Om,wp_region_quiet_below→IL
open List renaming getD_cons_zero→IT,getD_cons_succ→Jx
namespace Go.Proofs.YtfidjlcdlakceaaGreatDoor
open Go.RowKit
def rv(n r:Int):Prop:=0<=r/\r*r<=n/\n<(r+1)*(r+1)
theorem FY{a b:Int}(h0:0<=a)(h:a<=b):a*a<=b*b:=Int.mul_le_mul h h h0 (by omega)
def rtN(n:Nat):Nat->Nat
 |0=>0
 |k+1=>if(k+1)*(k+1)<=n then k+1 else rtN n k
def rt(n:Int):Int:=(rtN n.toNat n.toNat:Nat)
theorem R8{n r:Nat}(h1:r*r<=n)(h2:n<(r+1)*(r+1)):∀k,r<=k->rtN n k=r
 |0,hk=>by
  have e:r=0:=by omega
  rw[e];rfl
 |k+1,hk=>by
  simp only[rtN];by_cases hc:(k+1)*(k+1)<=n
  .rw[if_pos hc]
   rcases Nat.lt_or_ge r (k+1) with h|h
   .have:=Nat.mul_le_mul (show r+1<=k+1 by omega) (show r+1<=k+1 by omega)
    omega
   .omega
  .rw[if_neg hc]
   have bu:r≠k+1:=λe=>hc (e▸h1);exact R8 h1 h2 k (by omega)
theorem rt_eq{n r:Int}(h:rv n r):rt n=r:=by
 obtain⟨h0,h1,h2⟩:=h;obtain⟨m,rfl⟩:=Int.eq_ofNat_of_zero_le h0;have hn:=Int.le_trans (Int.mul_nonneg h0 h0) h1;obtain⟨k,rfl⟩:=Int.eq_ofNat_of_zero_le hn;have g1:m*m<=k:=by exact_mod_cast h1
 have g2:k<(m+1)*(m+1):=by exact_mod_cast h2
 have g3:=Nat.le_trans (Nat.le_mul_self m) g1;show((rtN k k:Nat):Int)=(m:Int);rw[R8 g1 g2 k g3]
def Cm(n r b:Int):Prop:=0<=r/\r*r<=n/\n<(r+b)*(r+b)
theorem V9{n r b:Int}(h:Cm n r (2*b))(hb:0<=b)(hx:(r+b)*(r+b)<=n):Cm n (r+b) b:=by
 obtain⟨h0,h1,h2⟩:=h;refine⟨by omega,hx,?_⟩;rw[show r+b+b=r+2*b by omega];exact h2
theorem Sa{n r b:Int}(h:Cm n r (2*b))(hx:¬ (r+b)*(r+b)<=n):Cm n r b:=
 ⟨h.1,h.2.1,by omega⟩
theorem Sb{n r:Int}(h:Cm n r 1):rv n r:=h
theorem Wa{n r b:Int}(h:Cm n r b)(hn:n<=9223372036854775807):r<=3037000499:=by
 apply Classical.byContradiction;intro c;have:=FY (a:=3037000500) (b:=r) (by omega) (by omega);have:=h.2.1;omega
theorem FZ{n x:Int}(hx:0<x):x<=n/x↔x*x<=n:=Int.le_ediv_iff_mul_le hx
theorem two_pow_pos(k:Nat):(0:Int)<2^k:=by
 have:(0:Nat)<2^k:=Nat.two_pow_pos k
 exact_mod_cast this
theorem two_pow_succ(k:Nat):(2:Int)^(k+1)=2*2^k:=by rw[Int.pow_succ];omega
theorem vp{a b:Nat}(h:a<=b):(2:Int)^a<=2^b:=by
 have:(2:Nat)^a<=2^b:=Nat.pow_le_pow_right (by omega) h
 exact_mod_cast this
theorem LU(n:Int)(h₀:0<=n)(h₁:n<2^63):IntKind.i64.wrap n=n:=by rw[IK];omega
theorem abZ(k:Nat)(r:Int)(h0:0<=r)(hm:r%2^(k+1)=0)(hr:r<2^63)(hk:k<=62):bits BinOp.or IntKind.i64 r (2^k)=r+2^k:=
 bits_join J 63 (by decide) LU (k+1) r (2^k) h0 hm hr (Int.le_of_lt (two_pow_pos k)) (by rw[two_pow_succ];have:=two_pow_pos k;omega) (Int.lt_of_le_of_lt (vp hk) (by decide))
theorem Cn{r:Int}{k:Nat}(hm:r%2^(k+1)=0):r%2^k=0:=
 Int.emod_eq_zero_of_dvd (Int.dvd_trans ⟨2,by rw[Int.pow_succ]⟩ (Int.dvd_of_emod_eq_zero hm))
theorem Wb{r:Int}{k:Nat}(hm:r%2^(k+1)=0):(r+2^k)%2^k=0:=by
 rw[Int.add_emod_right];exact Cn hm
theorem ab0(n:Nat)(h:n<2^64):n<2^Qp n:=by
 by_cases h0:n=0
 .subst h0;decide
 .exact(Lib.bitLenAux_bounds 64 n h h0).2.2
theorem ER{n:Int}(h0:0<=n)(h1:n<=9223372036854775807)(j:Nat)(hj:Qp n.toNat/2=j):Cm n 0 (2^(j+1)):=by
 refine⟨by omega,by simpa using h0,?_⟩;have h2:=ab0 n.toNat (by omega);have h3:(2:Nat)^Qp n.toNat<=2^(2*(j+1)):=Nat.pow_le_pow_right (by omega) (by omega);have h4:(2:Nat)^(2*(j+1))=2^(j+1)*2^(j+1):=by rw[<- Nat.pow_add];congr 1;omega
 have h5:n.toNat<2^(j+1)*2^(j+1):=by omega
 have h6:((n.toNat:Nat):Int)<((2^(j+1)*2^(j+1):Nat):Int):=by exact_mod_cast h5
 rw[Int.toNat_of_nonneg h0] at h6;simpa using h6
theorem ES{k:IntKind}{a b:Int}(h:a=b):Ending.returned (O k a)=sh (O k b):=by rw[h]
theorem F6{m:Int}(h0 : -9223372036854775808<=m)(h1:m<=9223372036854775807):wrap64 m=m:=by
 rw[wrap64];omega
theorem Co{n x:Int}(h0:0<=n)(h1:n<=9223372036854775807)(hx:0<x):wrap64 (n.tdiv x)=n/x:=by
 rw[Int.tdiv_eq_ediv_of_nonneg h0];have:=Int.ediv_nonneg h0 (Int.le_of_lt hx);have:=Int.ediv_le_self x h0;exact F6 (by omega) (by omega)
theorem Sc(j:Nat)(r:Int)(h0:0<=r)(hm:r%2^(j+1)=0)(h1:r<=3037000499)(hj:j<=40):bits BinOp.or IntKind.i64 r (wrap64 (2^j))=r+2^j:=by
 have h2:=vp hj;have h3:=two_pow_pos j;have h4:(2:Int)^40=1099511627776:=by decide
 rw[F6 (by omega) (by omega)];exact abZ j r h0 hm (Int.lt_of_le_of_lt h1 (by decide)) (by omega)
theorem Sd(n:Int)(w:World)(h0:0<=n)(h1:n<=9223372036854775807) :
 Calls be 308 #[O J n] w λe w'=>e=sh (O J (rt n))/\w'=w:=by
 have hlen:(Qp n.toNat:Int)<=64:=by have:=Lib.bitLen_le n.toNat 64 (by omega) (by omega);omega
 have alP:(0:Int)<=(Qp n.toNat:Int):=by omega
 go_enter Tryz.func308,Tryz.ntmps308;go_wp2_with (go_at_call 159;refine(Tryz.bits_Len _ _ (by omega) (by omega)).mono ?_;rintro e w' ⟨rfl,rfl⟩);go_loop [3,4] (λx b=>∃(i:Nat) (r:Int),i<=33/\x=O J r/\b=O J ((i:Int)-1)/\Hid (Cm n r (2^i))/\Hid (r%2^i=0)) (λ_ b=>(intOf b+1).toNat)
 case atStart=>
  exact⟨Qp n.toNat/2+1,0,by omega,rfl,congrArg (Value.int IntKind.i64) (by omega),ER h0 h1 _ rfl,(show(0:Int)%_=0 by simp)⟩
 case round=>
  obtain⟨i,r,hi,rfl,rfl,HS,HM⟩:=hrel;have zQ:=HS.out.1;have yp:=Wa HS.out h1;cases i with
  |zero=>
   go_wp2;go_ret;exact⟨ES (rt_eq (Sb HS.out)).symm,rfl⟩
  |succ j=>
   have hj:((j+1:Nat):Int)-1=j:=by omega
   rw[hj];have HO:Hid _:=Sc j r zQ HM.out yp (by omega);have hp:=two_pow_pos j;go_wp2
   .exfalso;have:=HO.out;omega
   .rename_i CR yA
    rw[HO.out] at yA ⊢;rw[Co h0 h1 (by omega)] at yA;refine⟨⟨j,r+2^j,by omega,rfl,rfl,V9 (by rw[<- two_pow_succ];exact HS.out) (by omega) ((FZ (by omega)).1 yA),Wb HM.out⟩,by simp[intOf]⟩
   .rename_i CR yA
    rw[HO.out] at yA;rw[Co h0 h1 (by omega)] at yA;refine⟨⟨j,r,by omega,rfl,rfl,Sa (by rw[<- two_pow_succ];exact HS.out) (λh=>by have:=(FZ (x:=r+2^j) (n:=n) (by omega)).2 h;omega),Cn HM.out⟩,by simp[intOf]⟩
structure Pl where
 x:Int
 y:Int
 z:Int
 h:Int
 s:Int
def dB(n lo hi:Int):Int:=min (max n lo) hi
def inP(p:Pl):Pl:=⟨dB p.x (-10000000) 10000000,dB p.y (-10000000) 10000000,dB p.z (-10000000) 10000000,dB p.h 0 1000000,dB p.s 0 1000⟩
structure zK(p:Pl):Prop where
 x0 : -10000000<=p.x
 x1:p.x<=10000000
 y0 : -10000000<=p.y
 y1:p.y<=10000000
 z0 : -10000000<=p.z
 z1:p.z<=10000000
 h0:0<=p.h
 h1:p.h<=1000000
 s0:0<=p.s
 s1:p.s<=1000
def pV(a b:Pl):Bool:=a.x==b.x&&(a.y==b.y&&(a.z==b.z&&(a.h==b.h&&a.s==b.s)))
def cJ(p:Pl):Int:=if pV p (inP p)=true then 0 else 3
theorem LW(a b:Pl):pV a b=true↔a=b:=by
 obtain⟨a1,a2,a3,a4,a5⟩:=a;obtain⟨b1,b2,b3,b4,b5⟩:=b;simp[pV]
theorem kK{n lo hi:Int}(h:lo<=hi):n=dB n lo hi↔lo<=n/\n<=hi:=by unfold dB;omega
theorem Fw(p:Pl):cJ p=0↔zK p:=by
 obtain⟨x,y,z,h,s⟩:=p;have e:cJ ⟨x,y,z,h,s⟩=0↔pV ⟨x,y,z,h,s⟩ (inP ⟨x,y,z,h,s⟩)=true:=by unfold cJ;split<;>simp[*]
 rw[e,LW];simp only[inP,Pl.mk.injEq];rw[kK (by omega),kK (by omega),kK (by omega),kK (by omega),kK (by omega)];exact⟨λ⟨⟨a,b⟩,⟨c,d⟩,⟨e,f⟩,⟨g,h⟩,⟨i,j⟩⟩=>⟨a,b,c,d,e,f,g,h,i,j⟩,λ⟨a,b,c,d,e,f,g,h,i,j⟩=>⟨⟨a,b⟩,⟨c,d⟩,⟨e,f⟩,⟨g,h⟩,⟨i,j⟩⟩⟩
theorem Wc(p:Pl):cJ p=0\/cJ p=3:=by unfold cJ;split<;>simp
theorem LX(n lo hi:Int)(w:World) :
 Calls be 237 #[O J n,O J lo,O J hi] w λe w'=>e=sh (O J (dB n lo hi))/\w'=w:=by
 go_enter Tryz.func237,Tryz.ntmps237;go_wp2;all_goals
  go_ret;exact⟨ES (by unfold dB;omega),rfl⟩
theorem Cp(x y z h s:Int)(w:World) :
 Calls be 186 #[Im #[O J x,O J y,O J z,O J h,O J s]] w λe w'=>e=sh (Im #[O J (dB x (-10000000) 10000000),O J (dB y (-10000000) 10000000),O J (dB z (-10000000) 10000000),O J (dB h 0 1000000),O J (dB s 0 1000)])/\Below w.heap.size w w':=by
 go_enter Tryz.func186,Tryz.ntmps186;go_wp2_with fail;go_region_held3 (λw'=>w'.cell? ⟨w.heap.size,0,Y⟩=Z (O J x)/\w'.cell? ⟨w.heap.size,1,Y⟩=Z (O J y)/\w'.cell? ⟨w.heap.size,2,Y⟩=Z (O J z)/\w'.cell? ⟨w.heap.size,3,Y⟩=Z (O J h)/\w'.cell? ⟨w.heap.size,4,Y⟩=Z (O J s)) (go_keep) (first|(go_at_call 237;refine(LX _ _ _ _).mono ?_;rintro e w' ⟨rfl,rfl⟩))
 go_wp2_with fail;exact bodyPost_ret (v:=Im #[O J (dB x (-10000000) 10000000),O J (dB y (-10000000) 10000000),O J (dB z (-10000000) 10000000),O J (dB h 0 1000000),O J (dB s 0 1000)]) (by simp[results,Tryz.results186,go_sem]) rfl ⟨rfl,(((Ib _ _).alloc (By _) _).alloc (by simp) _).drew⟩
theorem ab2(a b:Pl)(w:World):(Op.equalIn 10000 27 (Im #[O J a.x,O J a.y,O J a.z,O J a.h,O J a.s]) (Im #[O J b.x,O J b.y,O J b.z,O J b.h,O J b.s])).run be w=.ok (pV a b) w:=by
 obtain⟨a1,a2,a3,a4,a5⟩:=a;obtain⟨b1,b2,b3,b4,b5⟩:=b;have u3:=run_underlying Tryz.underlying3;have a3':=Tryz.isAgg3;have z3:=Tryz.sizeOf3;have hS:Tryz.prog.underlying 27=Z (.struct (Tryz.prog.fieldsOf 27)):=by kernel_rfl
 have hp:Tryz.prog.stoodInHeld 27=false:=by kernel_rfl
 rw[show(10000:Nat)=9999+1 from rfl,run_equalIn_agg w 9999 27 _ _ hS hp];simp only[Program.fieldsOf,Tryz.underlying27];go_simp;unfold pV;by_cases h1:a1=b1<;>by_cases h2:a2=b2<;>by_cases h3:a3=b3<;>by_cases h4:a4=b4<;>by_cases h5:a5=b5<;>simp[h1,h2,h3,h4,h5]
theorem ae3(a b:Pl)(w:World):Sem.run be (binOp .neq 27 (Im #[O J a.x,O J a.y,O J a.z,O J a.h,O J a.s]) (Im #[O J b.x,O J b.y,O J b.z,O J b.h,O J b.s])) w=.ok (AI (!pV a b)) w:=by
 rw[run_neq_struct,ab2];rfl
theorem jy(p:Pl)(w:World) :
 Calls be 131 #[Im #[O J p.x,O J p.y,O J p.z,O J p.h,O J p.s]] w λe w'=>e=sh (O J (cJ p))/\Below w.heap.size w w':=by
 have Gn:=ae3 p (inP p);have HC:∀q,pV p (inP p)=q->Hid (cJ p=bif q then 0 else 3):=λq hq=>(show cJ p=_ by unfold cJ;cases q<;>simp[hq]);generalize CK:pV p (inP p)=q at Gn;have HD:=HC q CK;clear CK HC;generalize cJ p=cp at *;obtain⟨x,y,z,h,s⟩:=p;simp only[inP] at Gn;have hgP:Tryz.prog.eqGuardType Tryz.prog.depth 27=false:=by kernel_rfl
 generalize hW:w.alloc (.cells #[O J x,O J y,O J z,O J h,O J s] 27)=W at *;have HW:Hid (Below w.heap.size w W):=by rw[<- hW];exact(Ib _ _).alloc (By _) _
 have E0:∀d os,(Ip (IA W d) os).cell? ⟨w.heap.size,0,Y⟩=Z (O J x):=Iq (by rw[<- hW];simp);have E1:∀d os,(Ip (IA W d) os).cell? ⟨w.heap.size,1,Y⟩=Z (O J y):=Iq (by rw[<- hW];simp);have E2:∀d os,(Ip (IA W d) os).cell? ⟨w.heap.size,2,Y⟩=Z (O J z):=Iq (by rw[<- hW];simp);have E3:∀d os,(Ip (IA W d) os).cell? ⟨w.heap.size,3,Y⟩=Z (O J h):=Iq (by rw[<- hW];simp);have E4:∀d os,(Ip (IA W d) os).cell? ⟨w.heap.size,4,Y⟩=Z (O J s):=Iq (by rw[<- hW];simp);have cN:∀d os,Calls be 186 #[Im #[O J x,O J y,O J z,O J h,O J s]] (Ip (IA W d) os) λe gO=>e=sh (Im #[O J (dB x (-10000000) 10000000),O J (dB y (-10000000) 10000000),O J (dB z (-10000000) 10000000),O J (dB h 0 1000000),O J (dB s 0 1000)])/\∃p:Om,gO=Ip (IA W p.d) p.os:=λd os=>
  Calls.regrown_of ((Cp _ _ _ _ _ _).mono (by rintro e w' ⟨rfl,hb⟩;exact⟨rfl,hb⟩))
 go_enter Tryz.func131,Tryz.ntmps131;go_wp2_with fail;cases q
 all_goals
  simp only[Bool.not_true,Bool.not_false] at Gn;refine IL (by kernel_rfl) (by kernel_rfl) ?_;repeat(quiet_step (exact cN _ _))
  refine bK λdq j8 eR=>?_;clear cN E0 E1 E2 E3 E4;go_wp2_with fail;go_ret;exact⟨ES (by rw[HD.out];simp),HW.out.trans (eR.out.mono HW.out.size)⟩
end Go.Proofs.YtfidjlcdlakceaaGreatDoor
namespace Go.Proofs.YtfidjlcdlakceaaGreatDoor
namespace Wh
open Go.RowKit
def ord(a b:bC):Int:=bz a.node b.node
theorem keyed:RL.Keyed ord:=RL.ni bC.node
def cP(_ _:bC):Bool:=true
abbrev bO(ms:List bC):Prop:=RL.bO ord ms
abbrev aZ(ms:List bC)(m:bC):List bC:=RL.iE ord cP ms m
abbrev At(ms:List bC)(t:bC)(p:Nat)(f:Bool):Prop:=RL.At ord dm ms t p f
abbrev aE(ms:List bC):Bool:=RL.aE ord ms
theorem dG{ms:List bC}(h:bO ms)(t:bC):∀i j,i<=j->j<ms.length->ord (ms.getD j dm) t<0->ord (ms.getD i dm) t<0:=RL.dG ord dm keyed h t
theorem fe(ms:List bC)(h:∀j,j+1<ms.length->ord (ms.getD j dm) (ms.getD (j+1) dm)<0):aE ms=true:=RL.gf ord dm ms h
theorem fc(ms:List bC)(h:aE ms=true):∀j,j+1<ms.length->ord (ms.getD j dm) (ms.getD (j+1) dm)<0:=RL.gS ord dm ms h
theorem qJ(ms:List bC)(hr:bO ms)(t:bC):∃p f,At ms t p f:=RL.qJ ord dm keyed ms hr t
theorem eV{ms:List bC}{t:bC}{p q:Nat}{f e:Bool}(h:At ms t p f)(k:At ms t q e):p=q/\f=e:=RL.eV ord dm h k
theorem dM(ms:List bC)(m:bC)(p:Nat)(f:Bool)(h:At ms m p f) :
 aZ ms m=if f=true then(if cP m (ms.getD p dm)=true then ms.set p m else ms) else ms.take p++m::ms.drop p:=RL.sQ ord cP dm ms m p f h
theorem gX(ms:List bC)(m x:bC)(h:x∈aZ ms m):x=m\/x∈ms:=RL.pB ord cP ms m x h
theorem jC(ms:List bC)(m:bC)(h:bO ms):bO (aZ ms m):=RL.qK ord cP keyed ms m h
theorem kt(ms:List bC)(m:bC):ms.length<=(aZ ms m).length/\(aZ ms m).length<=ms.length+1:=RL.uh ord cP ms m
theorem sP{ms:List bC}{m:bC}(h:∀m∈ms,m.ok)(hm:m.ok):∀x∈aZ ms m,x.ok:=by
 intro x hx;rcases gX ms m x hx with rfl|hx
 .exact hm
 .exact h x hx
def bC.e(m:bC):Int:=if aN m.node=true then cJ ⟨m.x,m.y,m.z,m.h,m.s⟩ else 1
def aV:List bC->Int
 |[]=>0
 |m::r=>if m.e=0 then aV r else m.e
theorem bY:∀(ms:List bC),(∀j,j<ms.length->(ms.getD j dm).e=0)->aV ms=0
 |[],_=>rfl
 |m::r,h=>by
  have h0:=h 0 (by simp);simp only[IT] at h0;rw[aV,if_pos h0];exact bY r λj hj=>by have:=h (j+1) (by simpa using hj);simpa using this
theorem dI:∀(ms:List bC) (k:Nat),k<ms.length->(∀j,j<k->(ms.getD j dm).e=0)->(ms.getD k dm).e≠0->aV ms=(ms.getD k dm).e
 |[],k,h,_,_=>by simp at h
 |m::r,0,_,_,bu=>by
  simp only[IT] at bu ⊢;rw[aV,if_neg bu]
 |m::r,k+1,h,hz,bu=>by
  have h0:=hz 0 (by omega);simp only[IT] at h0;rw[aV,if_pos h0,Jx];rw[Jx] at bu;exact dI r k (by simpa using h) (λj hj=>by have:=hz (j+1) (by omega);simpa using this) bu
theorem dh:∀(ms:List bC),aV ms=0->∀m∈ms,m.e=0
 |[],_,m,hm=>by simp at hm
 |x::r,h,m,hm=>by
  rw[aV] at h;split at h
  .rename_i hx
   rcases List.mem_cons.1 hm with rfl|hm
   .exact hx
   .exact dh r h m hm
  .rename_i hx;exact absurd h hx
def ba(ms:List bC):Int:=if 20<ms.length then 2 else if aV ms=0 then(if aE ms=true then 0 else 4) else aV ms
theorem tC(ms:List bC)(k:Nat)(hn:ms.length<=20)(hk:k<ms.length)(hz:∀j,j<k->(ms.getD j dm).e=0)(bu:(ms.getD k dm).e≠0):ba ms=(ms.getD k dm).e:=by
 have h:=dI ms k hk hz bu;rw[ba,if_neg (by omega),h,if_neg bu]
theorem rD(ms:List bC)(hn:ms.length<=20)(hz:∀j,j<ms.length->(ms.getD j dm).e=0):ba ms=if aE ms=true then 0 else 4:=by
 rw[ba,if_neg (by omega),bY ms hz,if_pos rfl]
theorem aF{ms:List bC}(h:ba ms=0):ms.length<=20/\bO ms/\aV ms=0:=by
 unfold ba at h;split at h
 .omega
 .split at h
  .rename_i h1 h2
   split at h
   .rename_i h3
    exact⟨by omega,RL.kY ord keyed ms h3,h2⟩
   .omega
  .rename_i h1 h2;exact absurd h h2
end Wh
namespace Wh
open Go.RowKit
theorem cW(a b:bC)(w:World) :
 aP 150 #[Im #[I a.node,O J a.x,O J a.y,O J a.z,O J a.h,O J a.s],Im #[I b.node,O J b.x,O J b.y,O J b.z,O J b.h,O J b.s]] w λe w'=>e=sh (O J (ord a b))/\Below w.heap.size w w':=by
 go_enter Tryz.func150,Tryz.ntmps150;go_wp2_with (go_at_call 110;refine(fb _ _ _).mono ?_;rintro e w' ⟨rfl,rfl⟩);go_ret;exact⟨rfl,((Ib _ _).alloc (By _) _).alloc (by simp) _⟩
end Wh
namespace Wh
open Go.RowKit
theorem iT(ms:List bC)(b off cap:Nat)(w:World)(hr:Row w b off ms)(hb:b<w.heap.size)(hn:ms.length<=20) :
 Calls be 199 #[U (Z ⟨b,off,Y⟩) ms.length cap,IZ (.func 150) #[] #[]] w λe w'=>e=sh (AI (aE ms))/\Below w.heap.size w w':=by
 have HR:Hid (Row w b off ms):=hr;clear hr;have H4:Hid (∀k,k+1<ms.length->0<=ord (ms.getD k dm) (ms.getD (k+1) dm)->aE ms=false):=λk hk hl=>by
  rcases h:aE ms with _|_
  .rfl
  .have:=fc ms h k hk;omega
 have H0:Hid ((∀j,j+1<ms.length->ord (ms.getD j dm) (ms.getD (j+1) dm)<0)->aE ms=true):=fe ms;generalize hN:ms.length=n at *;have HN:Hid (ms.length=n):=hN;clear hN;generalize hC:aE ms=res at *;have HC:Hid (aE ms=res):=hC;clear hC;go_enter Tryz.func199,Tryz.ntmps199;go_wp2_with fail;go_loopw [5] (λi w'=>∃k:Nat,(k+1<=n\/k=0)/\i=O J (k+1)/\Below w.heap.size w w'/\Hid (∀j,j<k->ord (ms.getD j dm) (ms.getD (j+1) dm)<0)) (λi _=>n-(intOf i).toNat)
 case atStart=>exact⟨0,.inr rfl,rfl,Ib _ _,λj h=>absurd h (Ji _)⟩
 case round=>
  obtain⟨q,hq,rfl,aU,hz⟩:=hrel;obtain⟨eA,nO⟩:=cH aU;have bA:=aU.size;by_cases aL:q+1<n
  .have F:=((HR.out q (by rw[HN.out];omega)).eq (λo=>eA b o hb)).re
   have G:=((HR.out (q+1) (by rw[HN.out];exact aL)).eq (λo=>eA b o hb)).re;have HK:Hid (0<=ord (ms.getD q dm) (ms.getD (q+1) dm)->res=false):=λh=>H4.out q aL h;have HZ:Hid (ord (ms.getD q dm) (ms.getD (q+1) dm)<0->∀j,j<q+1->ord (ms.getD j dm) (ms.getD (j+1) dm)<0):=λh j hj=>by
    rcases Nat.lt_succ_iff_lt_or_eq.1 hj with h2|rfl
    .exact hz.out j h2
    .exact h
   generalize ms.getD q dm=m1 at *;generalize ms.getD (q+1) dm=m2 at *;have hN:∀d os,Calls be 150 #[Im #[I m1.node,O J m1.x,O J m1.y,O J m1.z,O J m1.h,O J m1.s],Im #[I m2.node,O J m2.x,O J m2.y,O J m2.z,O J m2.h,O J m2.s]] (Ip (IA wr d) os) λe gO=>e=sh (O J (ord m1 m2))/\∃p:Om,gO=Ip (IA wr p.d) p.os:=λd os=>Calls.regrown_of (cW m1 m2 _);simp only[As] at F G;clear eA nO;generalize ord m1 m2=r at *;have xb:IntKind.i64.wrap (q:Int)=(q:Int):=by rw[IK];omega
   have MA:q<n:=by omega
   have iw:(q:Int)+1<(n:Int):=by omega
   have hq0:(0:Int)<=(q:Int)+1:=by omega
   have L3:((q:Int)+1).toNat=q+1:=by omega
   go_wp2_with fail;refine IL (by kernel_rfl) (by kernel_rfl) ?_;repeat(quiet_step (exact hN _ _))
   refine bK λdq j8 eR=>?_;clear hN F G;by_cases hl:r<0
   .have fG:¬ (0<=r):=by omega
    go_wp2_with fail;go_roundw
    case rel=>exact⟨q+1,.inl (by omega),by go_num,aU.trans (eR.out.mono bA),HZ.out hl⟩
    case measure=>simp[intOf];omega
   .have fG:0<=r:=by omega
    have h4:Hid (res=false):=HK.out fG;go_wp2_with fail;go_ret;exact⟨aD h4.out.symm,aU.trans (eR.out.mono bA)⟩
  .have h0:Hid (res=true):=H0.out λj hj=>hz.out j (by omega)
   go_wp2_with fail;go_ret;exact⟨aD h0.out.symm,aU⟩
theorem fO(a:Option Addr)(cap:Nat)(fv:Value)(w:World) :
 Calls be 199 #[U a 0 cap,fv] w λe w'=>e=sh (AI true)/\w'=w:=by
 go_enter Tryz.func199,Tryz.ntmps199;go_wp2_with fail;go_loop [5] (λi=>i=O J 1) (λ_=>0)
 case atStart=>rfl
 case round=>
  subst hrel;go_wp2_with fail;go_ret;exact⟨rfl,rfl⟩
theorem fP(ms:List bC)(b off cap:Nat)(lk:bC)(w:World)(hr:Row w b off ms)(hb:b<w.heap.size)(hn:ms.length<=40)(gu:∀i j,i<=j->j<ms.length->ord (ms.getD j dm) lk<0->ord (ms.getD i dm) lk<0) :
 Calls be 211 #[U (Z ⟨b,off,Y⟩) ms.length cap,Im #[I lk.node,O J lk.x,O J lk.y,O J lk.z,O J lk.h,O J lk.s],IZ (.func 150) #[] #[]] w λe w'=>∃(p:Nat) (f:Bool),e=sh (Il #[O J p,AI f])/\Below w.heap.size w w' /\
  p<=ms.length/\(∀j,j<p->ord (ms.getD j dm) lk<0)/\(∀j,p<=j->j<ms.length->0<=ord (ms.getD j dm) lk)/\(f=true↔p<ms.length/\ord (ms.getD p dm) lk=0):=by
 have HR:Hid (Row w b off ms):=hr;clear hr;have HM:Hid _:=gu;clear gu;generalize hN:ms.length=n at *;have HN:Hid (ms.length=n):=hN;clear hN;go_enter Tryz.func211,Tryz.ntmps211;go_wp2_with fail;obtain⟨W0,dK,df,nP,dt⟩:=cR w #[I lk.node,O J lk.x,O J lk.y,O J lk.z,O J lk.h,O J lk.s] 142;have yj:Hid (Row W0 b off ms):=HR.out.later df hb;have HT:Hid (As W0 w.heap.size 0 lk):=⟨af dt 0,af dt 1,af dt 2,af dt 3,af dt 4,af dt 5⟩;have dy:Hid (Below w.heap.size w W0):=df;have Gj:Hid (W0=w.alloc (.cells #[I lk.node,O J lk.x,O J lk.y,O J lk.z,O J lk.h,O J lk.s] 142)):=dK;clear dt df HR dK;have zT:b<w.heap.size+1:=by omega
 go_loopw [9,10] (λi j w'=>∃k l:Nat,k<=l/\l<=n/\i=O J k/\j=O J l/\Below (w.heap.size+1) W0 w'/\Hid (∀j,j<k->ord (ms.getD j dm) lk<0)/\Hid (∀j,l<=j->j<n->0<=ord (ms.getD j dm) lk)) (λi j _=>(intOf j).toNat-(intOf i).toNat)
 case atStart=>exact⟨0,n,II _,By _,rfl,rfl,by rw[Gj.out];exact Ib _ _,λj h=>absurd h (Ji _),λj h1 h2=>by omega⟩
 case round=>
  obtain⟨k,l,sO,Si,rfl,rfl,aU,zE,zF⟩:=hrel;have bA:=aU.size;have eA:∀b o,b<w.heap.size+1->wr.cell? ⟨b,o,Y⟩=W0.cell? ⟨b,o,Y⟩:=λb o h=>aU.cell (p:=⟨b,o,Y⟩) h;have G:=(HT.out.eq (λo=>eA w.heap.size o (by omega))).re;simp only[As,Nat.zero_add] at G;by_cases aL:k<l
  .obtain⟨h,hh,h1,h2⟩:∃h:Nat,((k:Int)+(l:Int))/2=(h:Int)/\k<=h/\h<l:=⟨(k+l)/2,by omega,by omega,by omega⟩
   have F:=((yj.out h (by rw[HN.out];omega)).eq (λo=>eA b o zT)).re;have oO:=HM.out;have HK:Hid (ord (ms.getD h dm) lk<0->∀j,j<h+1->ord (ms.getD j dm) lk<0):=λhx j hj=>oO j h (by omega) (by omega) hx;have HL:Hid (0<=ord (ms.getD h dm) lk->∀j,h<=j->j<n->0<=ord (ms.getD j dm) lk):=λhx j hj L4=>by
    apply Int.not_lt.1;intro hq;have:=oO h j hj L4 hq;omega
   clear oO;have hhn:h<n:=by omega
   generalize ms.getD h dm=m at *;have hO:∀d os,Calls be 150 #[Im #[I m.node,O J m.x,O J m.y,O J m.z,O J m.h,O J m.s],Im #[I lk.node,O J lk.x,O J lk.y,O J lk.z,O J lk.h,O J lk.s]] (Ip (IA wr d) os) λe gO=>e=sh (O J (ord m lk))/\∃p:Om,gO=Ip (IA wr p.d) p.os:=λd os=>Calls.regrown_of (cW m lk _);simp only[As] at F;clear eA;generalize ord m lk=r at *;go_wp2_with fail;refine IL (by kernel_rfl) (by kernel_rfl) ?_;repeat(quiet_step (exact hO _ _))
   refine bK λdq j8 eR=>?_;clear hO F G;by_cases sf:r<0
   .go_wp2_with fail
    exact⟨⟨h+1,l,by omega,by omega,by go_num,rfl,aU.trans (eR.out.mono (by omega)),HK.out sf,zF⟩,by simp[intOf];omega⟩
   .have zZ:0<=r:=by omega
    go_wp2_with fail;exact⟨⟨k,h,by omega,by omega,rfl,rfl,aU.trans (eR.out.mono (by omega)),zE,HL.out zZ⟩,by simp[intOf];omega⟩
  .have CH:l=k:=by omega
   subst CH;by_cases fM:l<n
   .have F:=((yj.out l (by rw[HN.out];omega)).eq (λo=>eA b o zT)).re
    generalize hm:ms.getD l dm=m at *;have Hm:Hid (ms.getD l dm=m):=hm;clear hm;have hO:∀d os,Calls be 150 #[Im #[I m.node,O J m.x,O J m.y,O J m.z,O J m.h,O J m.s],Im #[I lk.node,O J lk.x,O J lk.y,O J lk.z,O J lk.h,O J lk.s]] (Ip (IA wr d) os) λe gO=>e=sh (O J (ord m lk))/\∃p:Om,gO=Ip (IA wr p.d) p.os:=λd os=>Calls.regrown_of (cW m lk _);simp only[As] at F;clear eA;generalize zG:ord m lk=r at *;have Hr:Hid (ord m lk=r):=zG;clear zG;go_wp2_with fail;refine IL (by kernel_rfl) (by kernel_rfl) ?_;repeat(quiet_step (exact hO _ _))
    refine bK λdq j8 eR=>?_;clear hO F G;go_wp2_with fail;go_ret2;refine⟨l,_,rfl,dy.out.trans ((aU.trans (eR.out.mono (by omega))).mono (by omega)),by omega,zE.out,zF.out,?_⟩;rw[Hm.out,Hr.out];simp[fM]
   .clear G
    have hkd:decide ((l:Int)<(n:Int))=false:=by simp;omega
    go_wp2_with fail;go_quiet (fail)
    go_wp2_with fail;go_ret2;refine⟨l,_,rfl,dy.out.trans ((below_drewN aU _).mono (by omega)),by omega,zE.out,zF.out,?_⟩;simp[fM]
theorem ff(a:Option Addr)(cap:Nat)(lk:bC)(fv:Value)(w:World) :
 Calls be 211 #[U a 0 cap,Im #[I lk.node,O J lk.x,O J lk.y,O J lk.z,O J lk.h,O J lk.s],fv] w λe w'=>e=sh (Il #[O J 0,AI false])/\Below w.heap.size w w':=by
 go_enter Tryz.func211,Tryz.ntmps211;go_wp2_with fail;go_loop [9,10] (λi j=>i=O J 0/\j=O J 0) (λ_ _=>0)
 case atStart=>exact⟨rfl,rfl⟩
 case round=>
  obtain⟨rfl,rfl⟩:=hrel;go_wp2_with fail;go_quiet (fail)
  go_wp2_with fail;go_ret2;exact⟨rfl,below_drewN ((Ib _ _).alloc (By _) _) _⟩
theorem fh(ms:List bC)(v:Value)(lk:bC)(w:World)(h:Sl w v ms)(hn:ms.length<=40)(gu:∀i j,i<=j->j<ms.length->ord (ms.getD j dm) lk<0->ord (ms.getD i dm) lk<0) :
 Calls be 211 #[v,Im #[I lk.node,O J lk.x,O J lk.y,O J lk.z,O J lk.h,O J lk.s],IZ (.func 150) #[] #[]] w λe w'=>∃(p:Nat) (f:Bool),e=sh (Il #[O J p,AI f])/\Below w.heap.size w w'/\At ms lk p f:=by
 obtain⟨a,cap,rfl,hs,h⟩:=h;rcases h with rfl|⟨b,off,rfl,hb,hr⟩
 .refine(ff a cap lk _ w).mono ?_
  rintro e w' ⟨rfl,hb⟩;exact⟨0,false,rfl,hb,⟨by simp,λj h=>by omega,λj h h2=>by simp at h2,by simp⟩⟩
 .refine(fP ms b off cap lk w hr hb hn gu).mono ?_
  rintro e w' ⟨p,f,rfl,aU,g1,g2,g3,g4⟩;exact⟨p,f,rfl,aU,⟨g1,g2,g3,g4⟩⟩
theorem fH(ms:List bC)(v:Value)(lk:bC)(w:World)(h:Sl w v ms)(hn:ms.length<=40)(hr:bO ms) :
 Calls be 149 #[v,Im #[I lk.node,O J lk.x,O J lk.y,O J lk.z,O J lk.h,O J lk.s],IZ (.func 150) #[] #[]] w λe w'=>∃(p:Nat) (f:Bool),e=sh (Il #[O J p,AI f])/\Below w.heap.size w w'/\At ms lk p f:=by
 have HC:Hid (∀w',Below w.heap.size w w'->Calls be 211 #[v,Im #[I lk.node,O J lk.x,O J lk.y,O J lk.z,O J lk.h,O J lk.s],IZ (.func 150) #[] #[]] w' λe gO=>∃(p:Nat) (f:Bool),e=sh (Il #[O J p,AI f])/\Below w'.heap.size w' gO/\At ms lk p f):=
  λw' hb=>fh ms v lk w' (h.below hb) hn (dG hr lk)
 clear h hn hr;go_enter Tryz.func149,Tryz.ntmps149;go_wp2_with (go_at_call 211;refine(HC.out _ ?hb).mono ?_)
 case hb=>exact(Ib _ _).alloc (By _) _
 rintro e w' ⟨p,f,rfl,aU,cA⟩;have fw:Hid (At ms lk p f):=cA;clear cA;go_wp2_with fail;go_ret2;exact⟨p,f,rfl,((Ib _ _).alloc (By _) _).trans (aU.mono (by simp)),fw.out⟩
end Wh
end Go.Proofs.YtfidjlcdlakceaaGreatDoor
namespace Go.Proofs.YtfidjlcdlakceaaGreatDoor
open Go.RowKit
def dp:Pl:=⟨0,0,0,0,0⟩
def qf(w:World)(b off:Nat)(ps:List Pl):Prop:=∀k,k<ps.length ->
 w.cell? ⟨b,off+k*5,Y⟩=Z (O J (ps.getD k dp).x)/\w.cell? ⟨b,off+k*5+1,Y⟩=Z (O J (ps.getD k dp).y)/\w.cell? ⟨b,off+k*5+2,Y⟩=Z (O J (ps.getD k dp).z)/\w.cell? ⟨b,off+k*5+3,Y⟩=Z (O J (ps.getD k dp).h)/\w.cell? ⟨b,off+k*5+4,Y⟩=Z (O J (ps.getD k dp).s)
theorem qf.below{w w':World}{b off:Nat}{ps:List Pl}(h:qf w b off ps)(hb:Below w.heap.size w w'):qf w' b off ps:=λk hk=>by
 obtain⟨h0,h1,h2,h3,h4⟩:=h k hk;have aL:b<w.heap.size:=World.block_lt_of_cell? w ⟨b,off+k*5,Y⟩ h0;exact⟨by rw[hb.cell aL];exact h0,by rw[hb.cell aL];exact h1,by rw[hb.cell aL];exact h2,by rw[hb.cell aL];exact h3,by rw[hb.cell aL];exact h4⟩
def hZ:List Pl->Int
 |[]=>0
 |p::r=>if cJ p=0 then hZ r else 3
theorem jx:∀(ps:List Pl),hZ ps=0↔∀j,j<ps.length->cJ (ps.getD j dp)=0
 |[]=>by simp[hZ]
 |p::r=>by
  unfold hZ;by_cases h:cJ p=0
  .rw[if_pos h,jx r]
   constructor
   .intro g j hj
    cases j with
    |zero=>simpa using h
    |succ j=>simpa using g j (by simpa using hj)
   .intro g j hj
    simpa using g (j+1) (by simpa using hj)
  .rw[if_neg h]
   exact⟨λe=>by simp at e,λg=>absurd (by simpa using g 0 (by simp)) h⟩
theorem uk:∀(ps:List Pl),hZ ps=0\/hZ ps=3
 |[]=>.inl rfl
 |p::r=>by
  unfold hZ;split
  .exact uk r
  .exact .inr rfl
theorem qP{ps:List Pl}{k:Nat}(hk:k<ps.length)(h:cJ (ps.getD k dp)≠0):hZ ps=3:=by
 rcases uk ps with e|e
 .exact absurd ((jx ps).1 e k hk) h
 .exact e
theorem hJ(ps:List Pl)(b off n cap:Nat)(w:World)(hn:ps.length=n)(hr:qf w b off ps)(CK:n<=1000) :
 Calls be 263 #[U (Z ⟨b,off,Y⟩) n cap] w λe w'=>e=sh (O J (hZ ps))/\Below w.heap.size w w':=by
 have HR:Hid (qf w b off ps):=hr;have HN:Hid _:=hn;clear hr hn;go_enter Tryz.func263,Tryz.ntmps263;go_wp2;go_loopw [8] (λi w'=>∃k:Nat,k<=n/\i=O J k/\Hid (Below w.heap.size w w')/\Hid (∀j,j<k->cJ (ps.getD j dp)=0)) (λi _=>n-(intOf i).toNat)
 case atStart=>exact⟨0,II _,rfl,Ib _ _,λj hj=>by omega⟩
 case round=>
  obtain⟨k,hk,rfl,HB,HZ⟩:=hrel;by_cases aL:k<n
  .obtain⟨c0,c1,c2,c3,c4⟩:=HR.out.below HB.out k (by rw[HN.out];exact aL)
   have HS:Hid (cJ (ps.getD k dp)=0->∀j,j<k+1->cJ (ps.getD j dp)=0):=λh j hj=>by
    by_cases e:j=k
    .subst e;exact h
    .exact HZ.out j (by omega)
   have HX:Hid (cJ (ps.getD k dp)≠0->hZ ps=cJ (ps.getD k dp)):=λh=>by
    rw[qP (by rw[HN.out];exact aL) h];exact((Wc _).resolve_left h).symm
   generalize ps.getD k dp=pk at *;obtain⟨x,y,z,h,s⟩:=pk;simp only at c0 c1 c2 c3 c4;clear HZ;go_wp2_with fail;refine(jy ⟨x,y,z,h,s⟩ _).mono ?_;rintro e w1 ⟨rfl,al⟩;have aR:Hid _:=(HB.out.alloc HB.out.size _).trans (al.mono (by have:=HB.out.size;simp;omega));clear al c0 c1 c2 c3 c4;by_cases hc:cJ ⟨x,y,z,h,s⟩=0
   .have hc':(cJ ⟨x,y,z,h,s⟩!=0)=false:=by simpa using hc
    have CB:=HS.out hc;have Ad:Hid _:=CB;clear CB HS HX hc;go_wp2_with fail;go_roundw
    case rel=>exact⟨k+1,by omega,by go_num,aR,Ad⟩
    case measure=>simp[intOf];omega
   .have hc':(cJ ⟨x,y,z,h,s⟩!=0)=true:=by simpa using hc
    have HE:Hid _:=HX.out hc;clear HS HX hc;go_wp2_with fail;go_ret;exact⟨ES HE.out.symm,aR.out⟩
  .have HE:Hid _:=(jx ps).2 (λj hj=>HZ.out j (by have:=HN.out;omega))
   clear HZ;go_wp2_with fail;go_ret;exact⟨ES HE.out.symm,HB.out⟩
end Go.Proofs.YtfidjlcdlakceaaGreatDoor
