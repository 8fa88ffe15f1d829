import Derived.Test.YtbfghimjdlpicaaGreatDoorna4
set_option maxHeartbeats 3200000
set_option maxRecDepth 100000
open Nat renaming le_trans→Is,le_refl→Ie,zero_le→IF
open Go.IntKind renaming i64→O
open Go.Lib renaming bitLen→OO,run_eql_slice_nil→Jy
open Go.Proofs.Tryz renaming prog→AS,underlying3→IH,isAgg3→OA,sizeOf3→Oi,zeroValue3→Qa,underlying4→JS,isAgg4→Qp,sizeOf4→O6,zeroValue4→Qb,underlying5→OT,isAgg5→Uk,sizeOf5→QX,zeroValue5→Qc,underlying9→Jd,isAgg9→O2,sizeOf9→OL,zeroValue9→Qd,underlying161→OU,isAgg161→Ua,sizeOf161→QS,zeroValue161→Qi,underlying200→OV,isAgg200→Ub,sizeOf200→QT,zeroValue200→Qj,underlying166→JG,underlying46→Oj
open Option renaming some→AI,none→be
open Go.Value renaming int→U,string→Y,agg→Ik,bool→Ia,slice→J,tuple→Ip
open Go.Ending renaming returned→AT
open Go.RowKit.Below renaming refl→Ib
open Go renaming run_underlying→QQ,redrawn→Im,cell_regrown→Ih,maxLen→Io,plainElem→Qg,wpList_append_own→IZ
open Go.Sort renaming grow→Ig
open List renaming getD_cons_zero→I8,getD_cons_succ→JH,getD→Ir,getElem?_eq_getElem→Ic,getElem?_eq_none→I3,range→JC,all_eq_true→OQ,getElem_of_mem→IT,any_eq_true→Qq,length_append→Ii,getElem?_take_of_lt→IP
open ByteArray renaming empty→Ix
open Go.Maps renaming has→QU,size→JK
open Array renaming getElem?_eq_some_iff→BY
namespace Go.Proofs.YtbfghimjdlpicaaGreatDoor
open Go.RowKit
def tj(n r:Int):Prop:=0<=r/\r*r<=n/\n<(r+1)*(r+1)
theorem Ge{a b:Int}(h0:0<=a)(h:a<=b):a*a<=b*b:=Int.mul_le_mul h h h0 (by omega)
def rtN(n:Nat):Nat->Nat
 |0=>0
 |k+1=>if(k+1)*(k+1)<=n then k+1 else rtN n k
def rt(n:Int):Int:=(rtN n.toNat n.toNat:Nat)
theorem PX{n r:Nat}(h1:r*r<=n)(h2:n<(r+1)*(r+1)):∀k,r<=k->rtN n k=r
 |0,hk=>by
  have e:r=0:=by omega
  rw[e];rfl
 |k+1,hk=>by
  simp only[rtN];by_cases hc:(k+1)*(k+1)<=n
  .rw[if_pos hc]
   rcases Nat.lt_or_ge r (k+1) with h|h
   .have:=Nat.mul_le_mul (show r+1<=k+1 by omega) (show r+1<=k+1 by omega)
    omega
   .omega
  .rw[if_neg hc]
   have aP:r≠k+1:=λe=>hc (e▸h1);exact PX h1 h2 k (by omega)
theorem rt_eq{n r:Int}(h:tj n r):rt n=r:=by
 obtain⟨h0,h1,h2⟩:=h;obtain⟨m,rfl⟩:=Int.eq_ofNat_of_zero_le h0;have hn:=Int.le_trans (Int.mul_nonneg h0 h0) h1;obtain⟨k,rfl⟩:=Int.eq_ofNat_of_zero_le hn;have g1:m*m<=k:=by exact_mod_cast h1
 have g2:k<(m+1)*(m+1):=by exact_mod_cast h2
 have g3:=Is (Nat.le_mul_self m) g1;show((rtN k k:Nat):Int)=(m:Int);rw[PX g1 g2 k g3]
def Cb(n r b:Int):Prop:=0<=r/\r*r<=n/\n<(r+b)*(r+b)
theorem TQ{n r b:Int}(h:Cb n r (2*b))(hb:0<=b)(hx:(r+b)*(r+b)<=n):Cb n (r+b) b:=by
 obtain⟨h0,h1,h2⟩:=h;refine⟨by omega,hx,?_⟩;rw[show r+b+b=r+2*b by omega];exact h2
theorem PY{n r b:Int}(h:Cb n r (2*b))(hx:¬ (r+b)*(r+b)<=n):Cb n r b:=
 ⟨h.1,h.2.1,by omega⟩
theorem PZ{n r:Int}(h:Cb n r 1):tj n r:=h
theorem TR{n r b:Int}(h:Cb n r b)(hn:n<=9223372036854775807):r<=3037000499:=by
 apply Classical.byContradiction;intro c;have:=Ge (a:=3037000500) (b:=r) (by omega) (by omega);have:=h.2.1;omega
theorem Gf{n x:Int}(hx:0<x):x<=n/x↔x*x<=n:=Int.le_ediv_iff_mul_le hx
theorem two_pow_pos(k:Nat):(0:Int)<2^k:=by
 have:(0:Nat)<2^k:=Nat.two_pow_pos k
 exact_mod_cast this
theorem two_pow_succ(k:Nat):(2:Int)^(k+1)=2*2^k:=by rw[Int.pow_succ];omega
theorem wH{a b:Nat}(h:a<=b):(2:Int)^a<=2^b:=by
 have:(2:Nat)^a<=2^b:=Nat.pow_le_pow_right (by omega) h
 exact_mod_cast this
theorem Lg(n:Int)(h₀:0<=n)(h₁:n<2^63):IntKind.i64.wrap n=n:=by rw[IntKind.wrap_i64];omega
theorem aal(k:Nat)(r:Int)(h0:0<=r)(hm:r%2^(k+1)=0)(hr:r<2^63)(hk:k<=62):bits BinOp.or IntKind.i64 r (2^k)=r+2^k:=
 bits_join O 63 (by decide) Lg (k+1) r (2^k) h0 hm hr (Int.le_of_lt (two_pow_pos k)) (by rw[two_pow_succ];have:=two_pow_pos k;omega) (Int.lt_of_le_of_lt (wH hk) (by decide))
theorem Cc{r:Int}{k:Nat}(hm:r%2^(k+1)=0):r%2^k=0:=
 Int.emod_eq_zero_of_dvd (Int.dvd_trans ⟨2,by rw[Int.pow_succ]⟩ (Int.dvd_of_emod_eq_zero hm))
theorem TS{r:Int}{k:Nat}(hm:r%2^(k+1)=0):(r+2^k)%2^k=0:=by
 rw[Int.add_emod_right];exact Cc hm
theorem aam(n:Nat)(h:n<2^64):n<2^OO n:=by
 by_cases h0:n=0
 .subst h0;decide
 .exact(Lib.bitLenAux_bounds 64 n h h0).2.2
theorem ED{n:Int}(h0:0<=n)(h1:n<=9223372036854775807)(j:Nat)(hj:OO n.toNat/2=j):Cb n 0 (2^(j+1)):=by
 refine⟨by omega,by simpa using h0,?_⟩;have h2:=aam n.toNat (by omega);have h3:(2:Nat)^OO n.toNat<=2^(2*(j+1)):=Nat.pow_le_pow_right (by omega) (by omega);have h4:(2:Nat)^(2*(j+1))=2^(j+1)*2^(j+1):=by rw[<- Nat.pow_add];congr 1;omega
 have h5:n.toNat<2^(j+1)*2^(j+1):=by omega
 have h6:((n.toNat:Nat):Int)<((2^(j+1)*2^(j+1):Nat):Int):=by exact_mod_cast h5
 rw[Int.toNat_of_nonneg h0] at h6;simpa using h6
end Go.Proofs.YtbfghimjdlpicaaGreatDoor
namespace Go.Proofs
open Go.Shelf
def Tryz.Cd:Go.Shelf.Ren:=⟨fun|125=>115|128=>165|129=>166|n=>n,fun|46=>161|3=>3|51=>200|53=>202|4=>4|5=>5|9=>9|n=>n,fun|n=>n⟩
theorem Tryz.TT:Go.Proofs.Lays.n125 AS Tryz.Cd:={
 mixed:=by kernel_rfl
 f125:=Tryz.func115.trans (congrArg AI (by kernel_rfl))
 f128:=Tryz.func165.trans (congrArg AI (by kernel_rfl))
 f129:=Tryz.func166.trans (congrArg AI (by kernel_rfl))
 t3:=IH
 a3:=OA
 z3:=Oi
 v3:=Qa
 t4:=JS
 a4:=Qp
 z4:=O6
 v4:=Qb
 t5:=OT
 a5:=Uk
 z5:=QX
 v5:=Qc
 t9:=Jd
 a9:=O2
 z9:=OL
 v9:=Qd
 t46:=OU
 a46:=Ua
 z46:=QS
 v46:=Qi
 t51:=OV
 a51:=Ub
 z51:=QT
 v51:=Qj
 t53:=Tryz.underlying202
 a53:=Tryz.isAgg202
 z53:=Tryz.sizeOf202
 v53:=Tryz.zeroValue202 }
theorem Tryz.bits_Len(x:Int)(w:World)(h0:0<=x)(h1:x<=18446744073709551615) :
 Calls AS 115 #[U .u64 x] w λe w'=>e=AT (U O (OO x.toNat))/\w'=w:=Any.bits_Len Tryz.TT x w h0 h1
def Tryz.Ce:Go.Shelf.Ren:=⟨fun|219=>288|217=>297|225=>298|224=>299|267=>300|266=>308|314=>309|n=>n,fun|9=>9|3=>3|4=>4|5=>5|46=>161|146=>337|51=>200|n=>n,fun|1=>0|n=>n⟩
theorem Tryz.TU:Go.Proofs.Lays.n219 AS Tryz.Ce:={
 mixed:=by kernel_rfl
 f217:=Tryz.func297.trans (congrArg AI (by kernel_rfl))
 f219:=Tryz.func288.trans (congrArg AI (by kernel_rfl))
 f224:=Tryz.func299.trans (congrArg AI (by kernel_rfl))
 f225:=Tryz.func298.trans (congrArg AI (by kernel_rfl))
 f266:=Tryz.func308.trans (congrArg AI (by kernel_rfl))
 f267:=Tryz.func300.trans (congrArg AI (by kernel_rfl))
 f314:=Tryz.func309.trans (congrArg AI (by kernel_rfl))
 t3:=IH
 a3:=OA
 z3:=Oi
 v3:=Qa
 t4:=JS
 a4:=Qp
 z4:=O6
 v4:=Qb
 t5:=OT
 a5:=Uk
 z5:=QX
 v5:=Qc
 t9:=Jd
 a9:=O2
 z9:=OL
 v9:=Qd
 t46:=OU
 a46:=Ua
 z46:=QS
 v46:=Qi
 t51:=OV
 a51:=Ub
 z51:=QT
 v51:=Qj
 t146:=Tryz.underlying337
 a146:=Tryz.isAgg337
 z146:=Tryz.sizeOf337
 v146:=Tryz.zeroValue337
 g1:=by kernel_rfl }
open Go.RowKit Go.Lib in
theorem Tryz.stringslite_Index_one(s:ByteArray)(c:UInt8)(w:World) :
 Calls AS 288 #[Y s,Y ⟨#[c]⟩] w λe w'=>e=AT (U O (Lib.indexByte s.data.toList c))/\w'=w:=Any.stringslite_Index_one Tryz.TU s c w
end Go.Proofs
namespace Go.Proofs.YtbfghimjdlpicaaGreatDoor
open Go.RowKit
theorem An{k:IntKind}{a b:Int}(h:a=b):Ending.returned (U k a)=AT (U k b):=by rw[h]
theorem Gg{m:Int}(h0 : -9223372036854775808<=m)(h1:m<=9223372036854775807):wrap64 m=m:=by
 rw[wrap64];omega
theorem Cf{n x:Int}(h0:0<=n)(h1:n<=9223372036854775807)(hx:0<x):wrap64 (n.tdiv x)=n/x:=by
 rw[Int.tdiv_eq_ediv_of_nonneg h0];have:=Int.ediv_nonneg h0 (Int.le_of_lt hx);have:=Int.ediv_le_self x h0;exact Gg (by omega) (by omega)
theorem P0(j:Nat)(r:Int)(h0:0<=r)(hm:r%2^(j+1)=0)(h1:r<=3037000499)(hj:j<=40):bits BinOp.or IntKind.i64 r (wrap64 (2^j))=r+2^j:=by
 have h2:=wH hj;have h3:=two_pow_pos j;have h4:(2:Int)^40=1099511627776:=by decide
 rw[Gg (by omega) (by omega)];exact aal j r h0 hm (Int.lt_of_le_of_lt h1 (by decide)) (by omega)
theorem P1(n:Int)(w:World)(h0:0<=n)(h1:n<=9223372036854775807) :
 Calls AS 283 #[U O n] w λe w'=>e=AT (U O (rt n))/\w'=w:=by
 have hlen:(OO n.toNat:Int)<=64:=by have:=Lib.bitLen_le n.toNat 64 (by omega) (by omega);omega
 have amW:(0:Int)<=(OO n.toNat:Int):=by omega
 go_enter Tryz.func283,Tryz.ntmps283;go_wp2_with (go_at_call 115;refine(Tryz.bits_Len _ _ (by omega) (by omega)).mono ?_;rintro e w' ⟨rfl,rfl⟩);go_loop [3,4] (λx b=>∃(i:Nat) (r:Int),i<=33/\x=U O r/\b=U O ((i:Int)-1)/\Hid (Cb n r (2^i))/\Hid (r%2^i=0)) (λ_ b=>(intOf b+1).toNat)
 case atStart=>
  exact⟨OO n.toNat/2+1,0,by omega,rfl,congrArg (Value.int IntKind.i64) (by omega),ED h0 h1 _ rfl,(show(0:Int)%_=0 by simp)⟩
 case round=>
  obtain⟨i,r,hi,rfl,rfl,HS,HM⟩:=hrel;have hr0:=HS.out.1;have ku:=TR HS.out h1;cases i with
  |zero=>
   go_wp2;go_ret;exact⟨An (rt_eq (PZ HS.out)).symm,rfl⟩
  |succ j=>
   have hj:((j+1:Nat):Int)-1=j:=by omega
   rw[hj];have HO:Hid _:=P0 j r hr0 HM.out ku (by omega);have hp:=two_pow_pos j;go_wp2
   .exfalso;have:=HO.out;omega
   .rename_i Sm Rb
    rw[HO.out] at Rb ⊢;rw[Cf h0 h1 (by omega)] at Rb;refine⟨⟨j,r+2^j,by omega,rfl,rfl,TQ (by rw[<- two_pow_succ];exact HS.out) (by omega) ((Gf (by omega)).1 Rb),TS HM.out⟩,by simp[intOf]⟩
   .rename_i Sm Rb
    rw[HO.out] at Rb;rw[Cf h0 h1 (by omega)] at Rb;refine⟨⟨j,r,by omega,rfl,rfl,PY (by rw[<- two_pow_succ];exact HS.out) (λh=>by have:=(Gf (x:=r+2^j) (n:=n) (by omega)).2 h;omega),Cc HM.out⟩,by simp[intOf]⟩
structure Pl where
 x:Int
 y:Int
 z:Int
 h:Int
 s:Int
def dd(n lo hi:Int):Int:=min (max n lo) hi
def Rm(p:Pl):Pl:=⟨dd p.x (-10000000) 10000000,dd p.y (-10000000) 10000000,dd p.z (-10000000) 10000000,dd p.h 0 1000000,dd p.s 0 1000⟩
structure tE(p:Pl):Prop where
 x0 : -10000000<=p.x
 x1:p.x<=10000000
 y0 : -10000000<=p.y
 y1:p.y<=10000000
 z0 : -10000000<=p.z
 z1:p.z<=10000000
 h0:0<=p.h
 h1:p.h<=1000000
 s0:0<=p.s
 s1:p.s<=1000
def sr(a b:Pl):Bool:=a.x==b.x&&(a.y==b.y&&(a.z==b.z&&(a.h==b.h&&a.s==b.s)))
def eF(p:Pl):Int:=if sr p (Rm p)=true then 0 else 3
theorem Lh(a b:Pl):sr a b=true↔a=b:=by
 obtain⟨a1,a2,a3,a4,a5⟩:=a;obtain⟨b1,b2,b3,b4,b5⟩:=b;simp[sr]
theorem mG{n lo hi:Int}(h:lo<=hi):n=dd n lo hi↔lo<=n/\n<=hi:=by unfold dd;omega
theorem fL(n lo hi:Int)(h:lo<=hi):lo<=dd n lo hi/\dd n lo hi<=hi:=by unfold dd;omega
theorem o9(p:Pl):eF p=0↔tE p:=by
 obtain⟨x,y,z,h,s⟩:=p;have e:eF ⟨x,y,z,h,s⟩=0↔sr ⟨x,y,z,h,s⟩ (Rm ⟨x,y,z,h,s⟩)=true:=by unfold eF;split<;>simp[*]
 rw[e,Lh];simp only[Rm,Pl.mk.injEq];rw[mG (by omega),mG (by omega),mG (by omega),mG (by omega),mG (by omega)];exact⟨λ⟨⟨a,b⟩,⟨c,d⟩,⟨e,f⟩,⟨g,h⟩,⟨i,j⟩⟩=>⟨a,b,c,d,e,f,g,h,i,j⟩,λ⟨a,b,c,d,e,f,g,h,i,j⟩=>⟨⟨a,b⟩,⟨c,d⟩,⟨e,f⟩,⟨g,h⟩,⟨i,j⟩⟩⟩
theorem FK(p:Pl):eF p=0\/eF p=3:=by unfold eF;split<;>simp
theorem XU(p:Pl):tE (Rm p):=
 ⟨(fL _ _ _ (by omega)).1,(fL _ _ _ (by omega)).2,(fL _ _ _ (by omega)).1,(fL _ _ _ (by omega)).2,(fL _ _ _ (by omega)).1,(fL _ _ _ (by omega)).2,(fL _ _ _ (by omega)).1,(fL _ _ _ (by omega)).2,(fL _ _ _ (by omega)).1,(fL _ _ _ (by omega)).2⟩
theorem Li(n lo hi:Int)(w:World) :
 Calls AS 191 #[U O n,U O lo,U O hi] w λe w'=>e=AT (U O (dd n lo hi))/\w'=w:=by
 go_enter Tryz.func191,Tryz.ntmps191;go_wp2;all_goals
  go_ret;exact⟨An (by unfold dd;omega),rfl⟩
theorem tG(x y z h s:Int)(w:World) :
 Calls AS 147 #[Ik #[U O x,U O y,U O z,U O h,U O s]] w λe w'=>e=AT (Ik #[U O (dd x (-10000000) 10000000),U O (dd y (-10000000) 10000000),U O (dd z (-10000000) 10000000),U O (dd h 0 1000000),U O (dd s 0 1000)])/\Below w.heap.size w w':=by
 go_enter Tryz.func147,Tryz.ntmps147;go_wp2_with fail;go_region_held3 (λw'=>w'.cell? ⟨w.heap.size,0,be⟩=AI (U O x)/\w'.cell? ⟨w.heap.size,1,be⟩=AI (U O y)/\w'.cell? ⟨w.heap.size,2,be⟩=AI (U O z)/\w'.cell? ⟨w.heap.size,3,be⟩=AI (U O h)/\w'.cell? ⟨w.heap.size,4,be⟩=AI (U O s)) (go_keep) (first|(go_at_call 191;refine(Li _ _ _ _).mono ?_;rintro e w' ⟨rfl,rfl⟩))
 go_wp2_with fail;exact bodyPost_ret (v:=Ik #[U O (dd x (-10000000) 10000000),U O (dd y (-10000000) 10000000),U O (dd z (-10000000) 10000000),U O (dd h 0 1000000),U O (dd s 0 1000)]) (by simp[results,Tryz.results147,go_sem]) rfl ⟨rfl,(((Ib _ _).alloc (Ie _) _).alloc (by simp) _).drew⟩
theorem aan(a b:Pl)(w:World):(Op.equalIn 10000 36 (Ik #[U O a.x,U O a.y,U O a.z,U O a.h,U O a.s]) (Ik #[U O b.x,U O b.y,U O b.z,U O b.h,U O b.s])).run AS w=.ok (sr a b) w:=by
 obtain⟨a1,a2,a3,a4,a5⟩:=a;obtain⟨b1,b2,b3,b4,b5⟩:=b;have u3:=QQ IH;have a3':=OA;have z3:=Oi;have hS:Tryz.prog.underlying 36=AI (.struct (Tryz.prog.fieldsOf 36)):=by kernel_rfl
 have hp:Tryz.prog.stoodInHeld 36=false:=by kernel_rfl
 rw[show(10000:Nat)=9999+1 from rfl,run_equalIn_agg w 9999 36 _ _ hS hp];simp only[Program.fieldsOf,Tryz.underlying36];go_simp;unfold sr;by_cases h1:a1=b1<;>by_cases h2:a2=b2<;>by_cases h3:a3=b3<;>by_cases h4:a4=b4<;>by_cases h5:a5=b5<;>simp[h1,h2,h3,h4,h5]
theorem aes(a b:Pl)(w:World):Sem.run AS (binOp .neq 36 (Ik #[U O a.x,U O a.y,U O a.z,U O a.h,U O a.s]) (Ik #[U O b.x,U O b.y,U O b.z,U O b.h,U O b.s])) w=.ok (Ia (!sr a b)) w:=by
 rw[run_neq_struct,aan];rfl
theorem mO(p:Pl)(w:World) :
 Calls AS 100 #[Ik #[U O p.x,U O p.y,U O p.z,U O p.h,U O p.s]] w λe w'=>e=AT (U O (eF p))/\Below w.heap.size w w':=by
 have qF:=aes p (Rm p);have HC:∀q,sr p (Rm p)=q->Hid (eF p=bif q then 0 else 3):=λq hq=>(show eF p=_ by unfold eF;cases q<;>simp[hq]);generalize xM:sr p (Rm p)=q at qF;have HD:=HC q xM;clear xM HC;generalize eF p=cp at *;obtain⟨x,y,z,h,s⟩:=p;simp only[Rm] at qF;have hgP:Tryz.prog.eqGuardType Tryz.prog.depth 36=false:=by kernel_rfl
 generalize hW:w.alloc (.cells #[U O x,U O y,U O z,U O h,U O s] 36)=W at *;have HW:Hid (Below w.heap.size w W):=by rw[<- hW];exact(Ib _ _).alloc (Ie _) _
 have E0:∀d os,(Ig (Im W d) os).cell? ⟨w.heap.size,0,be⟩=AI (U O x):=Ih (by rw[<- hW];simp);have E1:∀d os,(Ig (Im W d) os).cell? ⟨w.heap.size,1,be⟩=AI (U O y):=Ih (by rw[<- hW];simp);have E2:∀d os,(Ig (Im W d) os).cell? ⟨w.heap.size,2,be⟩=AI (U O z):=Ih (by rw[<- hW];simp);have E3:∀d os,(Ig (Im W d) os).cell? ⟨w.heap.size,3,be⟩=AI (U O h):=Ih (by rw[<- hW];simp);have E4:∀d os,(Ig (Im W d) os).cell? ⟨w.heap.size,4,be⟩=AI (U O s):=Ih (by rw[<- hW];simp);have cN:∀d os,Calls AS 147 #[Ik #[U O x,U O y,U O z,U O h,U O s]] (Ig (Im W d) os) λe fR=>e=AT (Ik #[U O (dd x (-10000000) 10000000),U O (dd y (-10000000) 10000000),U O (dd z (-10000000) 10000000),U O (dd h 0 1000000),U O (dd s 0 1000)])/\∃p:Regrown,fR=Ig (Im W p.d) p.os:=λd os=>
  Calls.regrown_of ((tG _ _ _ _ _ _).mono (by rintro e w' ⟨rfl,hb⟩;exact⟨rfl,hb⟩))
 go_enter Tryz.func100,Tryz.ntmps100;go_wp2_with fail;cases q
 all_goals
  simp only[Bool.not_true,Bool.not_false] at qF;refine wp_region_quiet_below (by kernel_rfl) (by kernel_rfl) ?_;repeat(quiet_step (exact cN _ _))
  refine bu λdq gW dF=>?_;clear cN E0 E1 E2 E3 E4;go_wp2_with fail;go_ret;exact⟨An (by rw[HD.out];simp),HW.out.trans (dF.out.mono HW.out.size)⟩
end Go.Proofs.YtbfghimjdlpicaaGreatDoor
namespace Go.Proofs.YtbfghimjdlpicaaGreatDoor
namespace Wh
open Go.RowKit
def ord(a b:bT):Int:=bW a.node b.node
theorem keyed:RL.Keyed ord:=RL.kE bT.node
def bF(_ _:bT):Bool:=true
abbrev aT(ms:List bT):Prop:=RL.aT ord ms
abbrev aN(ms:List bT)(m:bT):List bT:=RL.gN ord bF ms m
abbrev aB(a b:List bT):List bT:=RL.join ord bF a b
abbrev At(ms:List bT)(t:bT)(p:Nat)(f:Bool):Prop:=RL.At ord dm ms t p f
abbrev aR(ms:List bT):Bool:=RL.aR ord ms
theorem eu{ms:List bT}(h:aT ms)(t:bT):∀i j,i<=j->j<ms.length->ord (ms.getD j dm) t<0->ord (ms.getD i dm) t<0:=RL.eu ord dm keyed h t
theorem fW(ms:List bT)(h:∀j,j+1<ms.length->ord (ms.getD j dm) (ms.getD (j+1) dm)<0):aR ms=true:=RL.iu ord dm ms h
theorem fV(ms:List bT)(h:aR ms=true):∀j,j+1<ms.length->ord (ms.getD j dm) (ms.getD (j+1) dm)<0:=RL.jn ord dm ms h
theorem jT(ms:List bT)(hr:aT ms)(t:bT):∃p f,At ms t p f:=RL.jT ord dm keyed ms hr t
theorem eZ{ms:List bT}{t:bT}{p q:Nat}{f e:Bool}(h:At ms t p f)(k:At ms t q e):p=q/\f=e:=RL.eZ ord dm h k
theorem dy(ms:List bT)(m:bT)(p:Nat)(f:Bool)(h:At ms m p f) :
 aN ms m=if f=true then(if bF m (ms.getD p dm)=true then ms.set p m else ms) else ms.take p++m::ms.drop p:=RL.rh ord bF dm ms m p f h
theorem di(ms:List bT)(m x:bT)(h:x∈aN ms m):x=m\/x∈ms:=RL.nX ord bF ms m x h
theorem fY(ms:List bT)(m:bT)(h:aT ms):aT (aN ms m):=RL.oU ord bF keyed ms m h
theorem mo(ms:List bT)(m:bT):ms.length<=(aN ms m).length/\(aN ms m).length<=ms.length+1:=RL.ri ord bF ms m
theorem dz(b a:List bT)(h:aT a):aT (aB a b):=RL.cT ord bF keyed b a h
theorem dj(b a:List bT):(aB a b).length<=a.length+b.length:=RL.rj ord bF b a
theorem dJ(b a:List bT)(x:bT)(h:x∈aB a b):x∈a\/x∈b:=RL.nY ord bF b a x h
theorem gd(a b:List bT)(j:Nat)(hj:j<b.length):aB a (b.take (j+1))=aN (aB a (b.take j)) (b.getD j dm):=RL.sz ord bF dm a b j hj
theorem ju(b:List bT)(h:aT b):aB [] b=b:=RL.join_nil ord bF b h
theorem lJ{ms:List bT}{m:bT}(h:∀m∈ms,m.ok)(hm:m.ok):∀x∈aN ms m,x.ok:=by
 intro x hx;rcases di ms m x hx with rfl|hx
 .exact hm
 .exact h x hx
theorem iP(b a:List bT)(ha:∀m∈a,m.ok)(hb:∀m∈b,m.ok):∀x∈aB a b,x.ok:=by
 intro x hx;rcases dJ b a x hx with h|h
 .exact ha x h
 .exact hb x h
def bT.e(m:bT):Int:=if bl m.node=true then eF ⟨m.x,m.y,m.z,m.h,m.s⟩ else 1
def ba:List bT->Int
 |[]=>0
 |m::r=>if m.e=0 then ba r else m.e
theorem cS:∀(ms:List bT),(∀j,j<ms.length->(ms.getD j dm).e=0)->ba ms=0
 |[],_=>rfl
 |m::r,h=>by
  have h0:=h 0 (by simp);simp only[I8] at h0;rw[ba,if_pos h0];exact cS r λj hj=>by have:=h (j+1) (by simpa using hj);simpa using this
theorem ez:∀(ms:List bT) (k:Nat),k<ms.length->(∀j,j<k->(ms.getD j dm).e=0)->(ms.getD k dm).e≠0->ba ms=(ms.getD k dm).e
 |[],k,h,_,_=>by simp at h
 |m::r,0,_,_,aP=>by
  simp only[I8] at aP ⊢;rw[ba,if_neg aP]
 |m::r,k+1,h,hz,aP=>by
  have h0:=hz 0 (by omega);simp only[I8] at h0;rw[ba,if_pos h0,JH];rw[JH] at aP;exact ez r k (by simpa using h) (λj hj=>by have:=hz (j+1) (by omega);simpa using this) aP
theorem bn:∀(ms:List bT),ba ms=0->∀m∈ms,m.e=0
 |[],_,m,hm=>by simp at hm
 |x::r,h,m,hm=>by
  rw[ba] at h;split at h
  .rename_i hx
   rcases List.mem_cons.1 hm with rfl|hm
   .exact hx
   .exact bn r h m hm
  .rename_i hx;exact absurd h hx
theorem gq:∀(ms:List bT),(∀m∈ms,m.e=0)->ba ms=0
 |[],_=>rfl
 |x::r,h=>by rw[ba,if_pos (h x (by simp))];exact gq r λm hm=>h m (by simp[hm])
def bp(ms:List bT):Int:=if 20<ms.length then 2 else if ba ms=0 then(if aR ms=true then 0 else 4) else ba ms
theorem uH(ms:List bT)(k:Nat)(hn:ms.length<=20)(hk:k<ms.length)(hz:∀j,j<k->(ms.getD j dm).e=0)(aP:(ms.getD k dm).e≠0):bp ms=(ms.getD k dm).e:=by
 have h:=ez ms k hk hz aP;rw[bp,if_neg (by omega),h,if_neg aP]
theorem tn(ms:List bT)(hn:ms.length<=20)(hz:∀j,j<ms.length->(ms.getD j dm).e=0):bp ms=if aR ms=true then 0 else 4:=by
 rw[bp,if_neg (by omega),cS ms hz,if_pos rfl]
theorem aj{ms:List bT}(h:bp ms=0):ms.length<=20/\aT ms/\ba ms=0:=by
 unfold bp at h;split at h
 .omega
 .split at h
  .rename_i h1 h2
   split at h
   .rename_i h3
    exact⟨by omega,RL.mM ord keyed ms h3,h2⟩
   .omega
  .rename_i h1 h2;exact absurd h h2
theorem kT{ms:List bT}(h1:ms.length<=20)(h2:aT ms)(h3:∀m∈ms,m.e=0):bp ms=0:=by
 rw[bp,if_neg (by omega),gq ms h3,if_pos rfl,if_pos (RL.kL ord ms h2)]
def dV(a b:List bT)(k:Nat):List bT:=if k=0 then[] else if k=1 then a else aB a b
end Wh
end Go.Proofs.YtbfghimjdlpicaaGreatDoor
namespace Go.Proofs.YtbfghimjdlpicaaGreatDoor
open Go.RowKit Go.WideMaps Go.Maps
abbrev kS(s:ByteArray):Lit:=.string s.data.toList
theorem qf(s:ByteArray):WideAt.IsKeyLit (kS s):=by simp[WideAt.IsKeyLit]
theorem AQ{a b:ByteArray}(h:a≠b):kS a≠kS b:=λe=>h (by
 have h2:a.data.toList=b.data.toList:=by injection e
 obtain⟨⟨a⟩⟩:=a;obtain⟨⟨b⟩⟩:=b;simp at h2;rw[h2])
def Dm(ns:List ByteArray):Nat->DataW Unit
 |0=>.map []
 |k+1=>(Dm ns k).put (kS (ns.getD k Ix)) (.lit (.int O k))
theorem rn(ns:List ByteArray):∀k,Tidy (Dm ns k)
 |0=>tidy_empty
 |k+1=>(rn ns k).put (qf _) _
theorem sC(ns:List ByteArray)(s:ByteArray):∀k,QU (Dm ns k) (kS s)=true↔∃j,j<k/\ns.getD j Ix=s
 |0=>by simp[Dm,QU]
 |k+1=>by
  by_cases h:ns.getD k Ix=s
  .subst h
   rw[Dm,has_put_same (rn ns k).isMap (qf _)];exact⟨λ_=>⟨k,by omega,rfl⟩,λ_=>rfl⟩
  .rw[Dm,has_put_other (AQ (Ne.symm h)),sC ns s k]
   constructor
   .rintro⟨j,hj,e⟩;exact⟨j,by omega,e⟩
   .rintro⟨j,hj,e⟩
    by_cases Ro:j=k
    .subst Ro;exact absurd e h
    .exact⟨j,by omega,e⟩
theorem uf(ns:List ByteArray)(k:Nat):JK (Dm ns (k+1))=if QU (Dm ns k) (kS (ns.getD k Ix))=true then JK (Dm ns k) else JK (Dm ns k)+1:=by
 rw[Dm,size_put (rn ns k)]
theorem qT(ns:List ByteArray):∀k,JK (Dm ns k)<=k
 |0=>by simp[Dm,JK]
 |k+1=>by
  have:=qT ns k;rw[uf];split<;>omega
theorem mR(ns:List ByteArray):∀k,(∀i j,i<j->j<k->ns.getD i Ix≠ns.getD j Ix)->JK (Dm ns k)=k
 |0,_=>by simp[Dm,JK]
 |k+1,h=>by
  have h1:=mR ns k (λi j hi hj=>h i j hi (by omega));have h2:¬ QU (Dm ns k) (kS (ns.getD k Ix))=true:=by
   rw[sC];rintro⟨j,hj,e⟩;exact h j k hj (by omega) e
  rw[uf,if_neg h2,h1]
theorem mQ(ns:List ByteArray):∀k,(∃i j,i<j/\j<k/\ns.getD i Ix=ns.getD j Ix)->JK (Dm ns k)<k
 |0,⟨i,j,_,hj,_⟩=>by omega
 |k+1,⟨i,j,jS,hj,e⟩=>by
  rw[uf];by_cases Ro:j=k
  .subst Ro
   rw[if_pos ((sC ns _ j).2 ⟨i,jS,e⟩)];have:=qT ns j;omega
  .have:=mQ ns k ⟨i,j,jS,by omega,e⟩
   split<;>omega
theorem Mp(ns:List ByteArray)(s:ByteArray)(z:DataW Unit):∀k j,j<k->ns.getD j Ix=s->(∀i,j<i->i<k->ns.getD i Ix≠s)->(Dm ns k).atKey (kS s) z=.lit (.int O j)
 |0,j,hj,_,_=>by omega
 |k+1,j,hj,e,h=>by
  by_cases Ro:j=k
  .subst Ro
   subst e;rw[Dm,atKey_put_same (rn ns j).isMap (qf _)]
  .rw[Dm,atKey_put_other (AQ (λx=>h k (by omega) (by omega) x.symm))]
   exact Mp ns s z k j (by omega) e (λi hi hk=>h i hi (by omega))
structure bU where
 m:Mem
 told:Int
def dr:bU:=⟨dm,0⟩
def om(w:World)(b off:Nat)(rs:List bU):Prop:=∀j,j<rs.length ->
 w.cell? ⟨b,off+j*6,be⟩=AI (Y (rs.getD j dr).m.name)/\w.cell? ⟨b,off+j*6+1,be⟩=AI (U O (rs.getD j dr).m.state) /\
 w.cell? ⟨b,off+j*6+2,be⟩=AI (U O (rs.getD j dr).m.aI)/\w.cell? ⟨b,off+j*6+3,be⟩=AI (U O (rs.getD j dr).m.addr) /\
 w.cell? ⟨b,off+j*6+4,be⟩=AI (Ia (rs.getD j dr).m.server)/\w.cell? ⟨b,off+j*6+5,be⟩=AI (U O (rs.getD j dr).told)
theorem om.below{w w':World}{b off B:Nat}{rs:List bU}(h:om w b off rs)(hb:Below B w w')(hB:b<B):om w' b off rs:=λk hk=>by
 obtain⟨h0,h1,h2,h3,h4,h5⟩:=h k hk;exact⟨by rw[hb.cell hB];exact h0,by rw[hb.cell hB];exact h1,by rw[hb.cell hB];exact h2,by rw[hb.cell hB];exact h3,by rw[hb.cell hB];exact h4,by rw[hb.cell hB];exact h5⟩
def oj(w:World)(v:Value)(rs:List bU):Prop:=
 ∃(a:Option Addr) (cap:Nat),v=J a rs.length cap/\(∀j,(rs.getD j dr).m.name.size<=Io) /\
  (rs=[]\/∃b off,a=AI ⟨b,off,be⟩/\b<w.heap.size/\om w b off rs)
theorem oj.below{w w':World}{v:Value}{rs:List bU}(h:oj w v rs)(hb:Below w.heap.size w w'):oj w' v rs:=by
 obtain⟨a,c,hv,hn,h⟩:=h;refine⟨a,c,hv,hn,?_⟩;rcases h with h|⟨b,off,ha,aX,hr⟩
 .exact .inl h
 .exact .inr ⟨b,off,ha,Nat.lt_of_lt_of_le aX hb.size,hr.below hb aX⟩
def fM(rs:List bU):List ByteArray:=rs.map (·.m.name)
theorem dU(rs:List bU)(k:Nat):(fM rs).getD k Ix=(rs.getD k dr).m.name:=by
 by_cases h:k<rs.length
 .simp[fM,Ir,Ic h]
 .simp[fM,Ir,I3 (by omega:rs.length<=k),dr,dm]
theorem Gr:Keyed AS 9:=string_keyed Jd
theorem CD(w:World):(zeroValue 3).run AS w=.ok (U O 0) w:=by kernel_rfl
theorem jU(n:Int)(w:World):(Instr.makeMap 166 (AI (U O n))).run AS w=.ok (.map (AI w.heap.size)) (w.alloc (.map #[] 0)):=by
 have h:=QQ JG;simp[Instr.makeMap,h,asInt,newObj];rfl
theorem rv(rs:List bU)(v:Value)(w:World)(hv:oj w v rs)(hn:rs.length<=1000) :
 Calls AS 140 #[v] w λe w'=>e=AT (.map (AI w.heap.size))/\w'.ownsMap AS 9 (Qg (H:=Unit) AS 3) w.heap.size rs.length (Dm (fM rs) rs.length)/\Below w.heap.size w w':=by
 obtain⟨pa,ca,rfl,cB,ha⟩:=hv;have HA:Hid _:=ha;have HS:Hid _:=cB;clear ha cB;generalize hN:rs.length=n at *;have HN:Hid _:=hN;clear hN;have CC:=jU;go_enter Tryz.func140,Tryz.ntmps140;go_wp2;go_loopw [11] (λi wr=>∃k:Nat,k<=n/\i=U O k/\Hid (wr.ownsMap AS 9 (Qg (H:=Unit) AS 3) w.heap.size k (Dm (fM rs) k))/\Hid (Below w.heap.size w wr))
  (λi _=>n-(intOf i).toNat)
 case atStart=>exact⟨0,IF _,rfl,World.ownsMap_made _ _ _ _,(Ib _ _).alloc (Ie _) _⟩
 case round=>
  obtain⟨k,hk,rfl,HO,HB⟩:=hrel;by_cases aX:k<n
  .obtain⟨b,off,hp,hl,hr⟩:∃b off,pa=AI ⟨b,off,be⟩/\b<w.heap.size/\om w b off rs:=by
    rcases HA.out with h|h
    .have:=HN.out;rw[h] at this;simp at this;omega
    .exact h
   subst hp;obtain⟨c0,c1,c2,c3,c4,c5⟩:=hr.below HB.out hl k (by rw[HN.out];exact aX);have AR:=keyOf_string_mk Jd (HS.out k);have qB:Hid (∀w1:World,w1.ownsMap AS 9 (Qg (H:=Unit) AS 3) w.heap.size (k+1) ((Dm (fM rs) k).put (kS (rs.getD k dr).m.name) (.lit (.int O k)))->w1.ownsMap AS 9 (Qg (H:=Unit) AS 3) w.heap.size (k+1) (Dm (fM rs) (k+1))):=λw1 h=>by
    rw[Dm,dU];exact h
   generalize(rs.getD k dr)=rk at *;obtain⟨⟨nm,st,lf,ad,sv⟩,td⟩:=rk;simp only at c0 c1 c2 c3 c4 c5 AR qB;clear hr;go_wp2_with (first
    |(at_mapUpdate;refine wpList_mapUpdate_own _ rfl _ _ _ 166 rfl 9 3 Gr JG _ w.heap.size k _ rfl (HO.out.alloc _) (by unfold Io;omega) _ _ _ rfl rfl AR _ [] (plainElem_int IH (WalkArith.wf_i64 (by omega))) ?_)
    |fail)
   intro w1 Bx P2;have R1:Hid (w1.ownsMap _ _ _ _ _ _):=qB.out w1 Bx;have R2:Hid _:=(HB.out.alloc HB.out.size _).grown P2 (by have:=HB.out.size;simp;omega) (λj hj=>by cases hj;exact Ie _);clear Bx P2 HO HB c0 c1 c2 c3 c4 c5 qB;go_wp2_with fail;go_roundw
   case rel=>exact⟨k+1,by omega,by go_num,R1,R2⟩
   case measure=>simp[intOf];omega
  .have eJ:k=n:=by omega
   subst eJ;go_wp2_with fail;go_ret;exact⟨rfl,HO.out,HB.out⟩
theorem kN(m:Mem):bp [m]=m.e:=by
 unfold bp;by_cases h:m.e=0
 .simp[ba,h,aR]
 .simp[ba,h]
theorem dh{W:World}{cs:Array Value}{t:TypeId}{g k:Nat}(hg:g=W.heap.size):(W.alloc (.cells cs t)).cell? ⟨g,k,be⟩=cs[k]?:=by subst hg;simp
theorem fE(m:Mem)(w:World)(hs:m.name.size<=Io) :
 Calls AS 139 #[Ik #[Y m.name,U O m.state,U O m.aI,U O m.addr,Ia m.server]] w λe w'=>e=AT (U O m.e)/\Below w.heap.size w w':=by
 go_enter Tryz.func139,Tryz.ntmps139;go_wp2_with fail;refine(bD [m] _ _ ⟨_,_,rfl,cD (by simpa using hs),.inr ⟨w.heap.size+1,0,rfl,by simp,?_⟩⟩).mono ?_
 .intro j hj
  have:j=0:=by simpa using hj
  subst this;exact⟨dh (by simp),dh (by simp),dh (by simp),dh (by simp),dh (by simp)⟩
 rintro e w1 ⟨rfl,aC⟩;have HB:Hid _:=(((Ib _ _).alloc (Ie _) _).alloc (by simp) _).trans (aC.mono (by simp;omega));clear aC;rw[kN];go_wp2_with fail;go_ret;exact⟨rfl,HB.out⟩
def dY(rs:List bU):Prop:=∀i j,i<j->j<rs.length->(rs.getD i dr).m.name≠(rs.getD j dr).m.name
def iv(rs:List bU):List Mem:=rs.map (·.m)
theorem mf(rs:List bU)(k:Nat):(iv rs).getD k dm=(rs.getD k dr).m:=by
 by_cases h:k<rs.length
 .simp[iv,Ir,Ic h]
 .simp[iv,Ir,I3 (by omega:rs.length<=k),dr]
theorem kB(rs:List bU):(iv rs).length=rs.length:=by simp[iv]
def iM(rs:List bU):Prop:=∀j,j<rs.length->within (rs.getD j dr).told 0 100=true
theorem Cg(rs:List bU):((JC rs.length).all λj=>within (rs.getD j dr).told 0 100)=true↔iM rs:=by
 unfold iM;simp only[OQ,List.mem_range]
theorem Ao(rs:List bU):((JC rs.length).all λj=>(JC j).all λi=>decide ((rs.getD i dr).m.name≠(rs.getD j dr).m.name))=true↔dY rs:=by
 unfold dY;simp only[OQ,List.mem_range,decide_eq_true_eq];exact⟨λh i j hi hj=>h j hj i hi,λh j hj i hi=>h i j hi hj⟩
def eB(rs:List bU):Int:=
 if 20<rs.length then 2 else if ba (iv rs)=0 then(@ite _ (iM rs) (decidable_of_iff _ (Cg rs)) (@ite _ (dY rs) (decidable_of_iff _ (Ao rs)) 0 6) 3) else ba (iv rs)
theorem yx{rs:List bU}(h:20<rs.length):eB rs=2:=by unfold eB;rw[if_pos h]
theorem P3{rs:List bU}{k:Nat}(hn:rs.length<=20)(hk:k<rs.length)(hz:∀j,j<k->(rs.getD j dr).m.e=0)(aP:(rs.getD k dr).m.e≠0):eB rs=(rs.getD k dr).m.e:=by
 have h:=ez (iv rs) k (by rw[kB];exact hk) (λj hj=>by rw[mf];exact hz j hj) (by rw[mf];exact aP);rw[mf] at h;unfold eB;rw[if_neg (by omega),if_neg (by rw[h];exact aP),h]
theorem oR{rs:List bU}(hz:∀j,j<rs.length->(rs.getD j dr).m.e=0):ba (iv rs)=0:=
 cS _ (λj hj=>by rw[mf];exact hz j (by rw[kB] at hj;exact hj))
theorem Lj{rs:List bU}{k:Nat}(hn:rs.length<=20)(hz:∀j,j<rs.length->(rs.getD j dr).m.e=0)(hk:k<rs.length)(aP:within (rs.getD k dr).told 0 100=false):eB rs=3:=by
 unfold eB;rw[if_neg (by omega),if_pos (oR hz),if_neg];intro h;rw[h k hk] at aP;cases aP
theorem EE{rs:List bU}(hn:rs.length<=20)(hz:∀j,j<rs.length->(rs.getD j dr).m.e=0)(ht:iM rs)(hd:¬ dY rs):eB rs=6:=by
 unfold eB;rw[if_neg (by omega),if_pos (oR hz),if_pos ht,if_neg hd]
theorem yZ{rs:List bU}(hn:rs.length<=20)(hz:∀j,j<rs.length->(rs.getD j dr).m.e=0)(ht:iM rs)(hd:dY rs):eB rs=0:=by
 unfold eB;rw[if_neg (by omega),if_pos (oR hz),if_pos ht,if_pos hd]
theorem aet{rs:List bU}(hd:¬ dY rs):JK (Dm (fM rs) rs.length)<rs.length:=by
 apply mQ;apply Classical.byContradiction;intro h;apply hd;intro i j jS hj e;exact h ⟨i,j,jS,hj,by rw[dU,dU];exact e⟩
theorem aeu{rs:List bU}(hd:dY rs):JK (Dm (fM rs) rs.length)=rs.length:=
 mR _ _ (λi j jS hj=>by rw[dU,dU];exact hd i j jS hj)
theorem hU(rs:List bU)(v:Value)(w:World)(hv:oj w v rs) :
 Calls AS 97 #[v] w λe w'=>e=AT (U O (eB rs))/\Below w.heap.size w w':=by
 have HV:Hid (oj w v rs):=hv;obtain⟨pa,ca,rfl,cB,ha⟩:=hv;by_cases hmany:20<rs.length
 .have HE:Hid _:=yx hmany
  go_enter Tryz.func97,Tryz.ntmps97;go_wp2_with fail;go_ret;exact⟨an HE.out.symm,Ib _ _⟩
 have HA:Hid _:=ha;have HS:Hid _:=cB;clear ha cB;generalize hN:rs.length=n at *;have HN:Hid _:=hN;clear hN;have CJ:n<=20:=by omega
 go_enter Tryz.func97,Tryz.ntmps97;go_wp2;go_loopw [13] (λi wr=>∃k:Nat,k<=n/\i=U O k/\Hid (∀j,j<k->(rs.getD j dr).m.e=0)/\Hid (Below w.heap.size w wr))
  (λi _=>n-(intOf i).toNat)
 case atStart=>exact⟨0,IF _,rfl,λj hj=>by omega,Ib _ _⟩
 case round=>
  obtain⟨k,hk,rfl,HZ,HB⟩:=hrel;by_cases aX:k<n
  .obtain⟨b,off,hp,hl,hr⟩:∃b off,pa=AI ⟨b,off,be⟩/\b<w.heap.size/\om w b off rs:=by
    rcases HA.out with h|h
    .have:=HN.out;rw[h] at this;simp at this;omega
    .exact h
   subst hp;obtain⟨c0,c1,c2,c3,c4,c5⟩:=hr.below HB.out hl k (by rw[HN.out];exact aX);have cY:=HS.out k;have HX:Hid ((rs.getD k dr).m.e≠0->eB rs=(rs.getD k dr).m.e):=λh=>P3 (by rw[HN.out];exact CJ) (by rw[HN.out];exact aX) HZ.out h;have ma:Hid ((rs.getD k dr).m.e=0->∀j,j<k+1->(rs.getD j dr).m.e=0):=λh j hj=>by
    by_cases e:j=k
    .subst e;exact h
    .exact HZ.out j (by omega)
   generalize(rs.getD k dr)=rk at *;obtain⟨⟨nm,st,lf,ad,sv⟩,td⟩:=rk;simp only at c0 c1 c2 c3 c4 c5 cY HX ma;clear hr HZ;go_wp2_with fail;refine(fE ⟨nm,st,lf,ad,sv⟩ _ cY).mono ?_;rintro e w1 ⟨rfl,aC⟩;have aZ:Hid _:=(HB.out.alloc HB.out.size _).trans (aC.mono (by have:=HB.out.size;simp;omega));clear aC c0 c1 c2 c3 c4 c5 HB;by_cases he:(Mem.mk nm st lf ad sv).e=0
   .have lE:((Mem.mk nm st lf ad sv).e !=0)=false:=by simpa using he
    have qV:Hid _:=ma.out he;clear HX ma he;go_wp2_with fail;go_roundw
    case rel=>exact⟨k+1,by omega,by go_num,qV,aZ⟩
    case measure=>simp[intOf];omega
   .have lE:((Mem.mk nm st lf ad sv).e !=0)=true:=by simpa using he
    have HE:Hid _:=HX.out he;clear HX ma he;go_wp2_with fail;go_ret;exact⟨an HE.out.symm,aZ.out⟩
  .have HZA:Hid (∀j,j<rs.length->(rs.getD j dr).m.e=0):=λj hj=>HZ.out j (by rw[HN.out] at hj;omega)
   clear HZ;go_wp2_with fail;go_loopw [26] (λi wr=>∃k:Nat,k<=n/\i=U O k/\Hid (∀j,j<k->within (rs.getD j dr).told 0 100=true)/\Hid (Below w.heap.size w wr))
    (λi _=>n-(intOf i).toNat)
   case atStart=>exact⟨0,IF _,rfl,λj hj=>by omega,HB⟩
   case round=>
    clear HB aX hk;obtain⟨k2,hk,rfl,HZ,HB⟩:=hrel;by_cases aX:k2<n
    .obtain⟨b,off,hp,hl,hr⟩:∃b off,pa=AI ⟨b,off,be⟩/\b<w.heap.size/\om w b off rs:=by
      rcases HA.out with h|h
      .have:=HN.out;rw[h] at this;simp at this;omega
      .exact h
     subst hp;obtain⟨c0,c1,c2,c3,c4,c5⟩:=hr.below HB.out hl k2 (by rw[HN.out];exact aX);have HX:Hid (within (rs.getD k2 dr).told 0 100=false->eB rs=3):=λh=>Lj (by rw[HN.out];exact CJ) HZA.out (by rw[HN.out];exact aX) h;have ma:Hid (within (rs.getD k2 dr).told 0 100=true->∀j,j<k2+1->within (rs.getD j dr).told 0 100=true):=λh j hj=>by
      by_cases e:j=k2
      .subst e;exact h
      .exact HZ.out j (by omega)
     generalize(rs.getD k2 dr)=rk at *;obtain⟨⟨nm,st,lf,ad,sv⟩,td⟩:=rk;simp only at c0 c1 c2 c3 c4 c5 HX ma;clear hr HZ;rcases ht:within td 0 100 with _|_
     .have HE:Hid _:=HX.out ht
      clear HX ma;go_wp2_with (go_at_call 51;refine(cM _ _ _ _).mono ?_;rintro e w' ⟨rfl,rfl⟩;rw[ht]);go_ret;exact⟨an HE.out.symm,HB.out.alloc HB.out.size _⟩
     .have qV:Hid _:=ma.out ht
      clear HX ma;go_wp2_with (go_at_call 51;refine(cM _ _ _ _).mono ?_;rintro e w' ⟨rfl,rfl⟩;rw[ht]);go_roundw
      case rel=>exact⟨k2+1,by omega,by go_num,qV,HB.out.alloc HB.out.size _⟩
      case measure=>simp[intOf];omega
    .have HTA:Hid (iM rs):=λj hj=>HZ.out j (by rw[HN.out] at hj;omega)
     clear HZ;go_wp2_with fail;refine(rv rs _ _ (HV.out.below HB.out) (by rw[HN.out];omega)).mono ?_;rintro e w1 ⟨rfl,hown,aC⟩;have HO:Hid (w1.ownsMap _ _ _ _ _ _):=hown;have aZ:Hid _:=HB.out.trans (aC.mono HB.out.size);clear hown aC;have Gm:(JK (Dm (fM rs) rs.length):Nat)<=n:=by rw[<- HN.out];exact qT _ _
     by_cases hd:dY rs
     .have HE:Hid _:=yZ (by rw[HN.out];exact CJ) HZA.out HTA.out hd
      have HSZ:¬ ((JK (Dm (fM rs) rs.length):Nat):Int)<n:=by rw[aeu hd,HN.out];omega
      go_wp2_with (at_len;refine wpList_len_own _ rfl _ 166 rfl 9 3 JG _ _ _ _ rfl HO.out ?_);go_ret;exact⟨an HE.out.symm,aZ.out⟩
     .have HE:Hid _:=EE (by rw[HN.out];exact CJ) HZA.out HTA.out hd
      have HSZ:((JK (Dm (fM rs) rs.length):Nat):Int)<n:=by have:=aet hd;have:=HN.out;omega
      go_wp2_with (at_len;refine wpList_len_own _ rfl _ 166 rfl 9 3 JG _ _ _ _ rfl HO.out ?_);go_ret;exact⟨an HE.out.symm,aZ.out⟩
end Go.Proofs.YtbfghimjdlpicaaGreatDoor
namespace Go.Proofs.YtbfghimjdlpicaaGreatDoor
open Go.RowKit
def bX(ms:List Mem)(t:ByteArray):Option Mem:=ms.find? λm=>decide (m.name=t)
def eR(ms:List Mem)(t:ByteArray):Mem:=(bX ms t).getD dm
theorem sG{ms:List Mem}{t:ByteArray}(h:∀j,j<ms.length->(ms.getD j dm).name≠t):bX ms t=be:=by
 unfold bX;rw[List.find?_eq_none];intro x hx;obtain⟨j,hj,rfl⟩:=IT hx;have:=h j hj;rw[show ms.getD j dm=ms[j] by simp[Ir,Ic hj]] at this;simpa using this
theorem oX{ms:List Mem}{t:ByteArray}{k:Nat}(hk:k<ms.length)(h1:∀j,j<k->(ms.getD j dm).name≠t)(h2:(ms.getD k dm).name=t):bX ms t=AI (ms.getD k dm):=by
 unfold bX;rw[show ms.getD k dm=ms[k] by simp[Ir,Ic hk]] at h2 ⊢;rw[List.find?_eq_some_iff_getElem];refine⟨by simpa using h2,k,hk,rfl,λj hj=>?_⟩;have:=h1 j hj;rw[show ms.getD j dm=ms[j]'(by omega) by simp[Ir,Ic (show j<ms.length by omega)]] at this;simpa using this
theorem dH{ms:List Mem}{t:ByteArray}{m:Mem}(h:bX ms t=AI m):m∈ms/\m.name=t:=by
 unfold bX at h;exact⟨List.mem_of_find?_eq_some h,by simpa using List.find?_some h⟩
def n9(ms:List Mem):Prop:=∀i j,i<j->j<ms.length->(ms.getD i dm).name≠(ms.getD j dm).name
def apB(ms:List Mem):Bool:=(JC ms.length).all λj=>(JC j).all λi=>decide ((ms.getD i dm).name≠(ms.getD j dm).name)
theorem Ap(ms:List Mem):apB ms=true↔n9 ms:=by
 simp only[apB,OQ,List.mem_range,decide_eq_true_eq];exact⟨λh i j jS hj=>h j hj i jS,λh j hj i jS=>h i j jS hj⟩
def mS(ms:List Mem):Int:=if 5<ms.length then 2 else if ba ms=0 then(if apB ms=true then 0 else 6) else ba ms
theorem Gq{ms:List Mem}(h:5<ms.length):mS ms=2:=if_pos h
theorem V5{ms:List Mem}{k:Nat}(hn:ms.length<=5)(hk:k<ms.length)(hz:∀j,j<k->(ms.getD j dm).e=0)(aP:(ms.getD k dm).e≠0):mS ms=(ms.getD k dm).e:=by
 have h:=ez ms k hk hz aP;rw[mS,if_neg (by omega),h,if_neg aP]
theorem CE{ms:List Mem}(hn:ms.length<=5)(hz:∀j,j<ms.length->(ms.getD j dm).e=0)(hd:¬ n9 ms):mS ms=6:=by
 rw[mS,if_neg (by omega),if_pos (cS ms hz),if_neg (λh=>hd ((Ap ms).1 h))]
theorem EN{ms:List Mem}(hn:ms.length<=5)(hz:∀j,j<ms.length->(ms.getD j dm).e=0)(hd:n9 ms):mS ms=0:=by
 rw[mS,if_neg (by omega),if_pos (cS ms hz),if_pos ((Ap ms).2 hd)]
theorem yc{ms:List Mem}(h:mS ms=0):ms.length<=5/\ba ms=0/\n9 ms:=by
 unfold mS at h;split at h
 .cases h
 .split at h
  .rename_i h1 h2
   split at h
   .rename_i h3;exact⟨by omega,h2,(Ap ms).1 h3⟩
   .cases h
  .rename_i h1 h2;exact absurd h h2
structure Pk where
 du:ByteArray
 whole:Bool
 ms:List Mem
 sv:List Sv.aV
 gw:List Gw.bN
 wh:List Wh.bT
def Pk.alone(p:Pk):Bool:=p.sv.isEmpty&&(p.gw.isEmpty&&p.wh.isEmpty)
def Pk.mE(p:Pk):Int:=if p.whole=true then bp p.ms else mS p.ms
def Pk.e(p:Pk):Int:=
 if(bl p.du&&(p.whole||p.alone))=true then
  (if p.mE=0 then(if Sv.bp p.sv=0 then(if Gw.bp p.gw=0 then Wh.bp p.wh else Gw.bp p.gw) else Sv.bp p.sv) else p.mE)
 else 1
structure Nd where
 name:ByteArray
 av:ByteArray
 ms:List Mem
 rs:List bU
 sv:List Sv.aV
 gw:List Gw.bN
 p:Pl
 wh:List Wh.bT
def fu(ms:List Mem)(r:bU):Bool:=match bX ms r.m.name with
 |none=>true
 |some k=>dn r.m k
def Nd.wE(n:Nd):Int:=match bX n.ms n.name with
 |none=>5
 |some m=>if m.state=2\/m.state=3 then 4 else if n.rs.any (fu n.ms)=true then 4 else 0
def Nd.pE(n:Nd):Int:=
 if(bl n.name&&bl n.av)=true then
  (if bp n.ms=0 then(if eB n.rs=0 then(if Sv.bp n.sv=0 then(if Gw.bp n.gw=0 then(if eF n.p=0 then Wh.bp n.wh else eF n.p) else Gw.bp n.gw) else Sv.bp n.sv) else eB n.rs) else bp n.ms)
 else 1
def Nd.e(n:Nd):Int:=if n.pE=0 then n.wE else n.pE
structure Nd.pN(n:Nd):Prop where
 name:bl n.name=true
 av:bl n.av=true
 ms:bp n.ms=0
 rs:eB n.rs=0
 sv:Sv.bp n.sv=0
 gw:Gw.bp n.gw=0
 p:eF n.p=0
 wh:Wh.bp n.wh=0
theorem Nd.parts{n:Nd}(h:n.pE=0):n.pN:=by
 unfold Nd.pE at h;split at h
 .rename_i h0
  rw[Bool.and_eq_true] at h0;split at h
  .rename_i h1
   split at h
   .rename_i h2
    split at h
    .rename_i h3
     split at h
     .rename_i h4
      split at h
      .rename_i h5;exact⟨h0.1,h0.2,h1,h2,h3,h4,h5,h⟩
      .rename_i h5;exact absurd h h5
     .rename_i h4;exact absurd h h4
    .rename_i h3;exact absurd h h3
   .rename_i h2;exact absurd h h2
  .rename_i h1;exact absurd h h1
 .cases h
theorem Nd.aD{n:Nd}(h:n.e=0):n.pE=0/\n.wE=0:=by
 unfold Nd.e at h;split at h
 .rename_i h1;exact⟨h1,h⟩
 .rename_i h1;exact absurd h h1
theorem Nd.gH{n:Nd}(h:n.wE=0):∃m,bX n.ms n.name=AI m/\m.state≠2/\m.state≠3/\∀r∈n.rs,fu n.ms r=false:=by
 unfold Nd.wE at h;split at h
 .cases h
 .rename_i m hm
  split at h
  .cases h
  .rename_i h1
   split at h
   .cases h
   .rename_i h2
    refine⟨m,hm,λe=>h1 (.inl e),λe=>h1 (.inr e),λr hr=>?_⟩;rcases h3:fu n.ms r with _|_
    .rfl
    .exact absurd (Qq.2 ⟨r,hr,h3⟩) h2
theorem Nd.FM{n:Nd}{m:Mem}(h1:bX n.ms n.name=AI m)(h2:m.state≠2)(h3:m.state≠3)(h4:∀r∈n.rs,fu n.ms r=false):n.wE=0:=by
 unfold Nd.wE;rw[h1];simp only;rw[if_neg (by rintro(h|h)<;>contradiction),if_neg];rw[Qq];rintro⟨r,hr,h⟩;rw[h4 r hr] at h;cases h
theorem Nd.XQ{n:Nd}(h1:n.pE=0)(h2:n.wE=0):n.e=0:=by unfold Nd.e;rw[if_pos h1,h2]
end Go.Proofs.YtbfghimjdlpicaaGreatDoor
namespace Go.Proofs.YtbfghimjdlpicaaGreatDoor
namespace Wh
open Go.RowKit
theorem dK(a b:bT)(w:World) :
 aK 111 #[Ik #[Y a.node,U O a.x,U O a.y,U O a.z,U O a.h,U O a.s],Ik #[Y b.node,U O b.x,U O b.y,U O b.z,U O b.h,U O b.s]] w λe w'=>e=AT (U O (ord a b))/\Below w.heap.size w w':=by
 go_enter Tryz.func111,Tryz.ntmps111;go_wp2_with (go_at_call 70;refine(iq _ _ _).mono ?_;rintro e w' ⟨rfl,rfl⟩);go_ret;exact⟨rfl,((Ib _ _).alloc (Ie _) _).alloc (by simp) _⟩
theorem ic(a b:bT)(w:World) :
 aK 229 #[Ik #[Y a.node,U O a.x,U O a.y,U O a.z,U O a.h,U O a.s],Ik #[Y b.node,U O b.x,U O b.y,U O b.z,U O b.h,U O b.s]] w λe w'=>e=AT (Ia (bF a b))/\Below w.heap.size w w':=by
 go_enter Tryz.func229,Tryz.ntmps229;go_wp2;go_ret;exact⟨rfl,by first|exact Ib _ _|exact((Ib _ _).alloc (Ie _) _).alloc (by simp) _⟩
end Wh
end Go.Proofs.YtbfghimjdlpicaaGreatDoor
namespace Go.Proofs.YtbfghimjdlpicaaGreatDoor
open Go.RowKit
def bU.cs(r:bU):List Value:=[Y r.m.name,U O r.m.state,U O r.m.aI,U O r.m.addr,Ia r.m.server,U O r.told]
def fD(rs:List bU):List Value:=rs.flatMap bU.cs
theorem kp(r:bU):r.cs.length=6:=rfl
theorem mH(m:bU)(r:List bU):fD (m::r)=m.cs++fD r:=by simp[fD]
theorem uL(a b:List bU):fD (a++b)=fD a++fD b:=by simp[fD]
theorem eD:∀ms:List bU,(fD ms).length=ms.length*6
 |[]=>rfl
 |m::r=>by rw[mH,Ii,eD r,kp,List.length_cons];omega
theorem uM:∀(ms:List bU) (i:Nat),(fD ms).take (i*6)=fD (ms.take i)
 |[],i=>by simp[fD]
 |m::r,0=>by simp[fD]
 |m::r,i+1=>by
  rw[mH,List.take_succ_cons,mH,show(i+1)*6=m.cs.length+i*6 by rw[kp];omega,List.take_length_add_append,uM r i]
theorem A3:∀(ms:List bU) (i:Nat),(fD ms).drop (i*6)=fD (ms.drop i)
 |[],i=>by simp[fD]
 |m::r,0=>by simp
 |m::r,i+1=>by
  rw[mH,List.drop_succ_cons,show(i+1)*6=m.cs.length+i*6 by rw[kp];omega,List.drop_length_add_append,A3 r i]
theorem yU(m:bU):∀v∈m.cs,v.oneCell'=true:=by
 intro v hv;simp[bU.cs] at hv;rcases hv with rfl|rfl|rfl|rfl|rfl|rfl<;>rfl
theorem EO(ms:List bU):∀v∈fD ms,v.oneCell'=true:=by
 intro v hv;obtain⟨m,_,h⟩:=List.mem_flatMap.1 hv;exact yU m v h
theorem mV(ms:List bU)(j:Nat)(hj:j<ms.length)(t:Nat)(ht:t<6):(fD ms)[j*6+t]?=(ms.getD j dr).cs[t]?:=by
 induction ms generalizing j with
 |nil=>simp at hj
 |cons m r ih=>
  rw[mH];cases j with
  |zero=>rw[List.getElem?_append_left (by rw[kp];omega)];simp
  |succ j=>
   rw[List.getElem?_append_right (by rw[kp];omega),kp,show(j+1)*6+t-6=j*6+t by omega,ih j (by simpa using hj)];simp
abbrev cV(base:Nat)(w:World)(v:Value)(ms:List bU):Prop:=w.ownsRow base 111 6 v ms.length (fD ms)
theorem BC(base:Nat)(w:World):cV base w (J be 0 0) []:=World.ownsRow_nil w base 111 6
theorem xP{base:Nat}{w:World}{v:Value}{L:List bU}{m:bU}(h:w.ownsRow base 111 6 v (L.length+1) (fD L++m.cs)):cV base w v (L++[m]):=by
 have e:fD (L++[m])=fD L++m.cs:=by rw[uL,mH];simp[fD]
 show w.ownsRow base 111 6 v (L++[m]).length (fD (L++[m]));rw[e,Ii];exact h
theorem RV{rs:List bU}(h:∀r∈rs,r.m.name.size<=Io):∀j,(rs.getD j dr).m.name.size<=Io:=λj=>by
 by_cases hj:j<rs.length
 .rw[show rs.getD j dr=rs[j] by simp[Ir,Ic hj]]
  exact h _ (List.getElem_mem hj)
 .rw[show rs.getD j dr=dr by simp[Ir,I3 (by omega:rs.length<=j)]]
  exact IF _
theorem RU{rs:List bU}(h:∀j,(rs.getD j dr).m.name.size<=Io):∀m∈rs,m.m.name.size<=Io:=by
 intro m hm;obtain⟨j,hj,rfl⟩:=IT hm;have:=h j
 rwa [show rs.getD j dr=rs[j] by simp[Ir,Ic hj]] at this
theorem cV.sl{base:Nat}{w:World}{v:Value}{ms:List bU}(h:cV base w v ms)(hs:∀j,(ms.getD j dr).m.name.size<=Io):oj w v ms:=by
 rcases h.2 with⟨rfl,h0⟩|⟨g,c,cur,rfl,eX,hg,gK,et,cE,bo⟩
 .exact⟨be,0,by rw[h0],hs,.inl (List.eq_nil_of_length_eq_zero h0)⟩
 .refine⟨_,c,rfl,hs,.inr ⟨g,0,rfl,(BY.1 hg).1,λj hj=>?_⟩⟩
  have hc:∀t,t<6->w.cell? ⟨g,0+j*6+t,be⟩=(ms.getD j dr).cs[t]?:=λt ht=>by
   rw[ae hg,<- mV ms j hj t ht,<- bo,IP (by omega)];simp
  exact⟨hc 0 (by omega),hc 1 (by omega),hc 2 (by omega),hc 3 (by omega),hc 4 (by omega),hc 5 (by omega)⟩
theorem cV.below{base:Nat}{w w':World}{v:Value}{ms:List bU}(h:cV base w v ms)(hb:Below w.heap.size w w'):cV base w' v ms:=by
 obtain⟨h1,h2⟩:=h;refine⟨h1,?_⟩;rcases h2 with h2|⟨g,c,cur,hv,eX,hg,hr⟩
 .exact .inl h2
 .exact .inr ⟨g,c,cur,hv,eX,by rw[hb.block g (BY.1 hg).1];exact hg,hr⟩
theorem cV.base{b b':Nat}{w:World}{v:Value}{ms:List bU}(h:cV b w v ms)(hb:b'<=b):cV b' w v ms:=by
 obtain⟨h1,h2⟩:=h;refine⟨h1,?_⟩;rcases h2 with h2|⟨g,c,cur,hv,eX,hr⟩
 .exact .inl h2
 .exact .inr ⟨g,c,cur,hv,Is hb eX,hr⟩
theorem cV.lt{base:Nat}{w:World}{v:Value}{ms:List bU}(h:cV base w v ms)(k:Nat)(hk:v.ownBlock=AI k):base<=k/\k<w.heap.size:=World.ownsRow.lt h k hk
theorem cV.slice{base:Nat}{w:World}{v:Value}{ms:List bU}(h:cV base w v ms):∃a c,v=J a ms.length c:=by
 rcases h.2 with⟨rfl,h0⟩|⟨g,c,cur,rfl,_⟩
 .exact⟨be,0,by rw[h0]⟩
 .exact⟨_,c,rfl⟩
theorem Tryz.xN:(Tryz.prog.info? 111).map (λi=>(i.zero,i.size,i.bytes))=AI (AI (Ik #[Y ⟨#[]⟩,U O 0,U O 0,U O 0,Ia false,U O 0]),6,56):=by kernel_rfl
theorem Lk{rs:List bU}{w:World}{b off:Nat}(hr:om w b off rs){j:Nat}{u:Value}(hj:(fD rs)[j]?=AI u):w.cell? ⟨b,off+j,be⟩=AI u:=by
 have VX:j<rs.length*6:=by rw[<- eD];exact(List.getElem?_eq_some_iff.1 hj).1
 have h1:=mV rs (j/6) (by omega) (j%6) (by omega);rw[show j/6*6+j%6=j by omega,hj] at h1;obtain⟨c0,c1,c2,c3,c4,c5⟩:=hr (j/6) (by omega);have cE:j%6=0\/j%6=1\/j%6=2\/j%6=3\/j%6=4\/j%6=5:=by omega
 rcases cE with e|e|e|e|e|e
 .rw[show off+j=off+j/6*6 by omega,c0];rw[e] at h1;simpa[bU.cs] using h1.symm
 .rw[show off+j=off+j/6*6+1 by omega,c1];rw[e] at h1;simpa[bU.cs] using h1.symm
 .rw[show off+j=off+j/6*6+2 by omega,c2];rw[e] at h1;simpa[bU.cs] using h1.symm
 .rw[show off+j=off+j/6*6+3 by omega,c3];rw[e] at h1;simpa[bU.cs] using h1.symm
 .rw[show off+j=off+j/6*6+4 by omega,c4];rw[e] at h1;simpa[bU.cs] using h1.symm
 .rw[show off+j=off+j/6*6+5 by omega,c5];rw[e] at h1;simpa[bU.cs] using h1.symm
theorem hY(rs:List bU)(v:Value)(w:World)(h:oj w v rs)(hn:rs.length<=1000) :
 Calls AS 55 #[v] w λe w'=>∃v',e=AT v'/\cV w.heap.size w' v' rs/\Below w.heap.size w w':=by
 obtain⟨a,cap,rfl,hs,h⟩:=h;obtain⟨i0,fH,dt,gJ,gB⟩:=info_parts Tryz.xN;cases a with
 |none=>
  have he:rs=[]:=by
   rcases h with h|⟨b,off,h,_⟩
   .exact h
   .cases h
  subst he;clear h hs;have gV:=λ(w:World)=>Jy (P:=AS) w 46 111 be 0 cap 0 0 Oj;simp only[List.length_nil,Option.isNone_none] at gV ⊢;go_enter Tryz.func55,Tryz.ntmps55;go_wp2_with fail;go_ret;exact⟨_,rfl,BC _ _,Ib _ _⟩
 |some a=>
  have gV:=λ(w:World)=>Jy (P:=AS) w 46 111 (AI a) rs.length cap 0 0 Oj;simp only[Option.isNone_some] at gV;have hnews:Hid (∀j u,(fD rs)[j]?=AI u->(w.alloc (.cells #[] 111)).cell? (a.add j)=AI u):=by
   intro j u hj;rcases h with h|⟨b,off,h,hb,hr⟩
   .subst h;simp[fD] at hj
   .cases h
    rw[Addr.add_lit,World.cell?_alloc_past (w:=w) _ b _ hb];exact Lk hr hj
  have HO:Hid ((w.alloc (.cells #[] 111)).ownsRow w.heap.size 111 6 (J (AI ⟨w.heap.size,0,be⟩) 0 0) 0 []):=World.ownsRow_made w #[] 0 (Ie _) (by unfold Io;omega) rfl;clear h hs;go_enter Tryz.func55,Tryz.ntmps55;go_wp2_with (at_builtin;refine IZ _ rfl _ _ 46 rfl w.heap.size 111 i0 _ 6 56 Oj fH dt gJ gB rfl (by omega) _ 0 [] rfl HO.out a rs.length cap (fD rs) rfl (eD rs) hnews.out (EO rs) (by unfold Io;omega) (by omega) (by simp) ?_);intro v' w' r1 r2 r3;go_wp2_with fail;go_ret;refine⟨v',rfl,?_,?_⟩
  .simpa using r1
  .exact((Ib _ _).alloc (Ie _) _).grown r2 (by simp) (λk hk=>by simp[Value.ownBlock] at hk;omega)
end Go.Proofs.YtbfghimjdlpicaaGreatDoor
namespace Go.Proofs.YtbfghimjdlpicaaGreatDoor
open Go.RowKit Go.WideMaps Go.Maps
theorem ry{w:World}{b n:Nat}{D:DataW Unit}(h:w.ownsMap AS 9 (Qg (H:=Unit) AS 3) b n D){s:ByteArray}(hs:s.size<=Io) :
 ∃c:Int,(Instr.lookup 166 (.map (AI b)) (Y s) true).run AS w=.ok (Ip #[U O c,Ia (QU D (kS s))]) w/\D.atKey (kS s) (.lit (.int O 0))=.lit (.int O c):=by
 obtain⟨v,ps,kO,hv⟩:=h.look_ok Gr JG (CD _) (plainElem_int IH (by decide)) (keyOf_string_mk Jd hs);obtain⟨c,rfl,hc,_⟩:=plainElem_int_inv IH hv;exact⟨c,kO,congrArg Prod.fst hc⟩
def ER(rs:List bU)(nm:ByteArray):Prop:=∀j,j<rs.length->(rs.getD j dr).m.name≠nm
theorem ET{rs:List bU}{nm:ByteArray}(h:ER rs nm):QU (Dm (fM rs) rs.length) (kS nm)=false:=by
 cases hh:QU (Dm (fM rs) rs.length) (kS nm)
 .rfl
 .obtain⟨j,hj,e⟩:=(sC _ _ _).1 hh
  rw[dU] at e;exact absurd e (h j hj)
theorem R0(rs:List bU)(v:Value)(m:Mem)(w:World)(hv:oj w v rs)(hm:m.name.size<=Io)(h0:eB rs=0)(he:m.e=0)(EP:ER rs m.name)(hl:rs.length<20) :
 Calls AS 154 #[v,Ik #[Y m.name,U O m.state,U O m.aI,U O m.addr,Ia m.server]] w λe w'=>∃v',e=AT (Ip #[v',U O 0])/\cV w.heap.size w' v' (rs++[⟨m,0⟩])/\Below w.heap.size w w':=by
 obtain⟨i0,fH,dt,gJ,gB⟩:=info_parts Tryz.xN;have HV:Hid (oj w v rs):=hv;have kQ:=λ(w:World) (h:oj w v rs)=>hU rs v w h;rw[h0] at kQ;have et:=λw=>fE m w hm;rw[he] at et;have HH:Hid _:=ET EP;clear h0 he hv;obtain⟨nm,st,lf,ad,sv⟩:=m;simp only at *;have tK:Below w.heap.size w (w.alloc (.cells #[Y nm,U O st,U O lf,U O ad,Ia sv] 52)):=(Ib _ _).alloc (Ie _) _;go_enter Tryz.func154,Tryz.ntmps154;go_wp2_with fail;refine(kQ _ (HV.out.below tK)).mono ?_;rintro e w1 ⟨rfl,aC⟩;have c1:∀o,w1.cell? ⟨w.heap.size,o,be⟩=#[Y nm,U O st,U O lf,U O ad,Ia sv][o]?:=λo=>by
  rw[aC.cell (p:=⟨w.heap.size,o,be⟩) (by simp)];exact dh rfl
 have aZ:Hid _:=tK.trans (aC.mono (by simp));have dD:w.heap.size<w1.heap.size:=by have:=aC.size;simp at this;omega
 clear aC tK kQ;go_wp2_with fail;refine(et _).mono ?_;rintro e w2 ⟨rfl,aL⟩;have c2:∀o,w2.cell? ⟨w.heap.size,o,be⟩=#[Y nm,U O st,U O lf,U O ad,Ia sv][o]?:=λo=>by
  rw[aL.cell (p:=⟨w.heap.size,o,be⟩) (by simp only;omega)];exact c1 o
 have bA:Hid _:=aZ.out.trans (aL.mono aZ.out.size);have pA:w.heap.size<w2.heap.size:=by have:=aL.size;omega
 clear aL c1 dD aZ et;go_wp2_with fail;refine(hY rs v _ (HV.out.below bA.out) (by omega)).mono ?_;rintro e w3 ⟨v3,rfl,lA,bY⟩;have eG:Hid (cV _ _ _ _):=lA;have c3:w3.cell? ⟨w.heap.size,0,be⟩=AI (Y nm):=by
  rw[bY.cell (p:=⟨w.heap.size,0,be⟩) (by simp only;omega)];exact c2 0
 have C3:Hid (∀o,w3.cell? ⟨w.heap.size,o,be⟩=#[Y nm,U O st,U O lf,U O ad,Ia sv][o]?):=λo=>by
  rw[bY.cell (p:=⟨w.heap.size,o,be⟩) (by simp only;omega)];exact c2 o
 have cF:Hid _:=bA.out.trans (bY.mono bA.out.size);have su:w.heap.size<w3.heap.size:=by have:=bY.size;omega
 have V7:=bY.size;clear bY lA c2;go_wp2_with fail;go_region_held3 (λw'=>w'.cell? ⟨w.heap.size,0,be⟩=AI (Y nm)) (first|assumption|go_keep) (first|(go_at_call 140;refine(rv rs v _ ((HV.out.below cF.out).below (Ib _ _).drew) (by omega)).mono ?_;rintro e w4 ⟨rfl,hown,eV⟩;obtain⟨cq,kO,cA⟩:=ry hown hm;rw[HH.out] at kO;have mI:(Instr.lookup 166 (.map (AI w3.heap.size)) (Y nm) true).run AS w4=.ok (Ip #[U O cq,Ia false]) w4:=kO;clear kO cA hown;have gC:Hid (Below w3.heap.size w3 w4):=(Ib w3.heap.size w3).drew.trans eV;have hS:w4.cell? ⟨w.heap.size,0,be⟩=AI (Y nm):=((eV.cell (p:=⟨w.heap.size,0,be⟩) su).trans c3);clear eV))
 obtain⟨a3,Gt,A4⟩:=eG.out.slice;subst A4;have C4:∀o,w4.cell? ⟨w.heap.size,o,be⟩=#[Y nm,U O st,U O lf,U O ad,Ia sv][o]?:=λo=>by
  rw[gC.out.cell (p:=⟨w.heap.size,o,be⟩) su];exact C3.out o
 have pB:Hid (cV _ _ _ _):=eG.out.below gC.out;have jd:Hid _:=cF.out.trans (gC.out.mono cF.out.size);have jV:w2.heap.size<=w4.heap.size:=by have:=gC.out.size;omega
 have xq:Hid (∀ob,(w4.alloc ob).ownsRow w2.heap.size 111 6 (J a3 rs.length Gt) rs.length (fD rs)):=λob=>pB.out.below ((Ib _ _).alloc (Ie _) _);have Gy:Hid (∀k,(Value.slice a3 rs.length Gt).ownBlock=AI k->w.heap.size<=k):=λk hk=>by have:=(pB.out.lt k hk).1;omega
 have HSN:Hid (∀(w':World) (v':Value),w'.ownsRow w2.heap.size 111 6 v' (rs.length+1) (fD rs++(bU.mk ⟨nm,st,lf,ad,sv⟩ 0).cs)->cV w.heap.size w' v' (rs++[⟨⟨nm,st,lf,ad,sv⟩,0⟩])):=λw' v' h=>(xP h).base (by omega);clear eG C3 gC cF c3 mI pB;generalize hN:rs.length=n at *;have HN:Hid _:=hN;clear hN;go_wp2_with (at_builtin;refine IZ _ rfl _ _ 46 rfl w2.heap.size 111 i0 _ 6 56 Oj fH dt gJ gB rfl (by omega) _ n (fD rs) rfl ?hown ⟨w4.heap.size,0,be⟩ 1 1 (bU.mk ⟨nm,st,lf,ad,sv⟩ 0).cs rfl rfl ?hnews (yU _) ?h63 ?hbytes ?hbase ?_)
 case hown=>exact xq.out _
 case hnews=>(intro j u hj;rw[Addr.add_lit];exact(ae (heap_alloc_new w4 (.cells #[Y nm,U O st,U O lf,U O ad,Ia sv,U O 0] 111)) (0+j)).trans (by simpa[bU.cs] using hj))
 case h63=>(unfold Io;omega)
 case hbytes=>omega
 case hbase=>(simp;omega)
 intro v' w5 r1 r2 r3;have R1:Hid (cV _ _ _ _):=HSN.out w5 v' r1;have R2:Hid _:=(jd.out.alloc jd.out.size _).grown r2 (by have:=jd.out.size;simp;omega) (λk hk=>Gy.out k hk);clear r1 r2 r3;go_wp2_with fail;go_ret2;exact⟨v',rfl,R1.out,R2.out⟩
end Go.Proofs.YtbfghimjdlpicaaGreatDoor
namespace Go.Proofs.YtbfghimjdlpicaaGreatDoor
open Go.RowKit
theorem Tryz.abq:(Tryz.prog.info? 3).map (λi=>(i.zero,i.size,i.bytes))=AI (AI (U O 0),1,8):=by kernel_rfl
theorem rz{base g c n:Nat}{w:World}{rs:List bU}(h:w.ownsRow base 111 6 (J (AI ⟨g,0,be⟩) n c) rs.length (fD rs)):om w g 0 rs:=by
 rcases h.2 with⟨hv,_⟩|⟨g',c',cur,hv,eX,hg,gK,et,cE,bo⟩
 .cases hv
 .simp only[Value.slice.injEq,Option.some.injEq,Addr.mk.injEq,and_true] at hv
  obtain⟨rfl,_,_⟩:=hv;intro j hj;have hc:∀t,t<6->w.cell? ⟨g,0+j*6+t,be⟩=(rs.getD j dr).cs[t]?:=λt ht=>by
   rw[ae hg,<- mV rs j hj t ht,<- bo,IP (by omega)];simp
  exact⟨hc 0 (by omega),hc 1 (by omega),hc 2 (by omega),hc 3 (by omega),hc 4 (by omega),hc 5 (by omega)⟩
def AtF(ms:List Mem)(t:ByteArray)(r:Int):Prop:=(∃k:Nat,k<ms.length/\r=k/\bX ms t=AI (ms.getD k dm))\/(r = -1/\bX ms t=be)
theorem La(ms:List Mem)(v:Value)(t:ByteArray)(w:World)(hv:Sl w v ms)(hn:ms.length<=1000) :
 aK 11 #[v,Y t] w λe w'=>∃r:Int,e=AT (U O r)/\Hid (AtF ms t r)/\w'=w:=by
 obtain⟨pa,ca,rfl,_,ha⟩:=hv;have HA:Hid _:=ha;clear ha;generalize tu:ms.length=n at *;have HN:Hid _:=tu;clear tu;go_enter Tryz.func11,Tryz.ntmps11;go_wp2_with fail;go_loop [5] (λi=>∃k:Nat,k<=n/\i=U O k/\Hid (∀j,j<k->(ms.getD j dm).name≠t)) (λi=>n-(intOf i).toNat)
 case atStart=>exact⟨0,IF _,rfl,λj h=>absurd h (Nat.not_lt_zero _)⟩
 case round=>
  obtain⟨k,hk,rfl,hz⟩:=hrel;by_cases aX:k<n
  .obtain⟨b1,o1,ru,kb,ku⟩:∃b off,pa=AI ⟨b,off,be⟩/\b<w.heap.size/\Row w b off ms:=by
    rcases HA.out with h|h
    .have:=HN.out;rw[h] at this;simp at this;omega
    .exact h
   subst ru;obtain⟨c0,_,_,_,_⟩:=ku k (by rw[HN.out];exact aX);clear ku;have HF:Hid ((ms.getD k dm).name=t->AtF ms t (k:Int)):=λh=>.inl ⟨k,by rw[HN.out];exact aX,rfl,oX (by rw[HN.out];exact aX) hz.out h⟩;have HZ:Hid ((ms.getD k dm).name≠t->∀j,j<k+1->(ms.getD j dm).name≠t):=λh j hj=>by
    rcases Nat.lt_succ_iff_lt_or_eq.1 hj with h2|rfl
    .exact hz.out j h2
    .exact h
   generalize(ms.getD k dm).name=nm at *;by_cases he:nm=t
   .subst he
    have wJ:Hid (AtF _ _ _):=HF.out rfl;clear HF HZ;go_wp2_with fail;go_ret;exact⟨k,rfl,wJ,rfl⟩
   .obtain⟨h1,h2⟩:=fb he
    have HE:Hid _:=he;clear he;go_wp2_with fail;go_round
    case rel=>exact⟨k+1,by omega,by go_num,HZ.out HE.out⟩
    case measure=>simp[intOf];omega
  .go_wp2_with fail
   go_ret;exact⟨-1,rfl,.inr ⟨rfl,sG λj hj=>hz.out j (by have:=HN.out;omega)⟩,rfl⟩
end Go.Proofs.YtbfghimjdlpicaaGreatDoor
