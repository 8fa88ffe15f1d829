import Derived.Test.YtfidhgjmifendaaGreatDoorng4
set_option maxHeartbeats 3200000
set_option maxRecDepth 100000
open Nat renaming le_trans→Ir,le_refl→Ic,zero_le→IH
open Go.IntKind renaming i64→O
open Go.Lib renaming bitLen→OG,run_eql_slice_nil→Ju
open Go.Proofs.Tryz renaming prog→AS,underlying3→IF,isAgg3→OS,sizeOf3→OD,zeroValue3→OY,underlying4→JT,isAgg4→Qz,sizeOf4→Qi,zeroValue4→OZ,underlying5→OJ,isAgg5→Ua,sizeOf5→QM,zeroValue5→O0,underlying9→Jb,isAgg9→QA,sizeOf9→Qj,zeroValue9→O1,underlying129→OK,isAgg129→QW,sizeOf129→QH,zeroValue129→O4,underlying165→OL,isAgg165→QX,sizeOf165→QI,zeroValue165→O5,underlying125→Jy,underlying35→Oc
open Option renaming some→AI,none→be
open Go.Value renaming int→U,string→Y,bool→Ia,slice→J,tuple→Im
open Go.Ending renaming returned→AT
open Go renaming maxLen→Io,wpList_append_own→Ja
open Go.RowKit.Below renaming refl→Ib
open List renaming getD→Iq,getElem?_eq_getElem→Ie,getElem?_eq_none→I0,range→JC,all_eq_true→OH,length_append→Ih,getElem?_take_of_lt→IM
open Go.Maps renaming size→JA,has→QK
open Array renaming getElem?_eq_some_iff→BY
namespace Go.Proofs.YtfidhgjmifendaaGreatDoor
open Go.RowKit
def qS(n r:Int):Prop:=0<=r/\r*r<=n/\n<(r+1)*(r+1)
theorem DA{a b:Int}(h0:0<=a)(h:a<=b):a*a<=b*b:=Int.mul_le_mul h h h0 (by omega)
def rtN(n:Nat):Nat->Nat
 |0=>0
 |k+1=>if(k+1)*(k+1)<=n then k+1 else rtN n k
def rt(n:Int):Int:=(rtN n.toNat n.toNat:Nat)
theorem Lk{n r:Nat}(h1:r*r<=n)(h2:n<(r+1)*(r+1)):∀k,r<=k->rtN n k=r
 |0,hk=>by
  have e:r=0:=by omega
  rw[e];rfl
 |k+1,hk=>by
  simp only[rtN];by_cases hc:(k+1)*(k+1)<=n
  .rw[if_pos hc]
   rcases Nat.lt_or_ge r (k+1) with h|h
   .have:=Nat.mul_le_mul (show r+1<=k+1 by omega) (show r+1<=k+1 by omega)
    omega
   .omega
  .rw[if_neg hc]
   have aT:r≠k+1:=λe=>hc (e▸h1);exact Lk h1 h2 k (by omega)
theorem rt_eq{n r:Int}(h:qS n r):rt n=r:=by
 obtain⟨h0,h1,h2⟩:=h;obtain⟨m,rfl⟩:=Int.eq_ofNat_of_zero_le h0;have hn:=Int.le_trans (Int.mul_nonneg h0 h0) h1;obtain⟨k,rfl⟩:=Int.eq_ofNat_of_zero_le hn;have g1:m*m<=k:=by exact_mod_cast h1
 have g2:k<(m+1)*(m+1):=by exact_mod_cast h2
 have g3:=Ir (Nat.le_mul_self m) g1;show((rtN k k:Nat):Int)=(m:Int);rw[Lk g1 g2 k g3]
def zV(n r b:Int):Prop:=0<=r/\r*r<=n/\n<(r+b)*(r+b)
theorem N5{n r b:Int}(h:zV n r (2*b))(hb:0<=b)(hx:(r+b)*(r+b)<=n):zV n (r+b) b:=by
 obtain⟨h0,h1,h2⟩:=h;refine⟨by omega,hx,?_⟩;rw[show r+b+b=r+2*b by omega];exact h2
theorem Ll{n r b:Int}(h:zV n r (2*b))(hx:¬ (r+b)*(r+b)<=n):zV n r b:=
 ⟨h.1,h.2.1,by omega⟩
theorem Lm{n r:Int}(h:zV n r 1):qS n r:=h
theorem N6{n r b:Int}(h:zV n r b)(hn:n<=9223372036854775807):r<=3037000499:=by
 apply Classical.byContradiction;intro c;have:=DA (a:=3037000500) (b:=r) (by omega) (by omega);have:=h.2.1;omega
theorem DB{n x:Int}(hx:0<x):x<=n/x↔x*x<=n:=Int.le_ediv_iff_mul_le hx
theorem two_pow_pos(k:Nat):(0:Int)<2^k:=by
 have:(0:Nat)<2^k:=Nat.two_pow_pos k
 exact_mod_cast this
theorem two_pow_succ(k:Nat):(2:Int)^(k+1)=2*2^k:=by rw[Int.pow_succ];omega
theorem uc{a b:Nat}(h:a<=b):(2:Int)^a<=2^b:=by
 have:(2:Nat)^a<=2^b:=Nat.pow_le_pow_right (by omega) h
 exact_mod_cast this
theorem FH(n:Int)(h₀:0<=n)(h₁:n<2^63):IntKind.i64.wrap n=n:=by rw[IntKind.wrap_i64];omega
theorem Ty(k:Nat)(r:Int)(h0:0<=r)(hm:r%2^(k+1)=0)(hr:r<2^63)(hk:k<=62):bits BinOp.or IntKind.i64 r (2^k)=r+2^k:=
 bits_join O 63 (by decide) FH (k+1) r (2^k) h0 hm hr (Int.le_of_lt (two_pow_pos k)) (by rw[two_pow_succ];have:=two_pow_pos k;omega) (Int.lt_of_le_of_lt (uc hk) (by decide))
theorem zW{r:Int}{k:Nat}(hm:r%2^(k+1)=0):r%2^k=0:=
 Int.emod_eq_zero_of_dvd (Int.dvd_trans ⟨2,by rw[Int.pow_succ]⟩ (Int.dvd_of_emod_eq_zero hm))
theorem N7{r:Int}{k:Nat}(hm:r%2^(k+1)=0):(r+2^k)%2^k=0:=by
 rw[Int.add_emod_right];exact zW hm
theorem Tz(n:Nat)(h:n<2^64):n<2^OG n:=by
 by_cases h0:n=0
 .subst h0;decide
 .exact(Lib.bitLenAux_bounds 64 n h h0).2.2
theorem Cl{n:Int}(h0:0<=n)(h1:n<=9223372036854775807)(j:Nat)(hj:OG n.toNat/2=j):zV n 0 (2^(j+1)):=by
 refine⟨by omega,by simpa using h0,?_⟩;have h2:=Tz n.toNat (by omega);have h3:(2:Nat)^OG n.toNat<=2^(2*(j+1)):=Nat.pow_le_pow_right (by omega) (by omega);have h4:(2:Nat)^(2*(j+1))=2^(j+1)*2^(j+1):=by rw[<- Nat.pow_add];congr 1;omega
 have h5:n.toNat<2^(j+1)*2^(j+1):=by omega
 have h6:((n.toNat:Nat):Int)<((2^(j+1)*2^(j+1):Nat):Int):=by exact_mod_cast h5
 rw[Int.toNat_of_nonneg h0] at h6;simpa using h6
end Go.Proofs.YtfidhgjmifendaaGreatDoor
namespace Go.Proofs
open Go.Shelf
def Tryz.zX:Go.Shelf.Ren:=⟨fun|125=>71|128=>123|129=>124|n=>n,fun|46=>129|3=>3|51=>165|53=>167|4=>4|5=>5|9=>9|n=>n,fun|n=>n⟩
theorem Tryz.N8:Go.Proofs.Lays.n125 AS Tryz.zX:={
 mixed:=by kernel_rfl
 f125:=Tryz.func71.trans (congrArg AI (by kernel_rfl))
 f128:=Tryz.func123.trans (congrArg AI (by kernel_rfl))
 f129:=Tryz.func124.trans (congrArg AI (by kernel_rfl))
 t3:=IF
 a3:=OS
 z3:=OD
 v3:=OY
 t4:=JT
 a4:=Qz
 z4:=Qi
 v4:=OZ
 t5:=OJ
 a5:=Ua
 z5:=QM
 v5:=O0
 t9:=Jb
 a9:=QA
 z9:=Qj
 v9:=O1
 t46:=OK
 a46:=QW
 z46:=QH
 v46:=O4
 t51:=OL
 a51:=QX
 z51:=QI
 v51:=O5
 t53:=Tryz.underlying167
 a53:=Tryz.isAgg167
 z53:=Tryz.sizeOf167
 v53:=Tryz.zeroValue167 }
theorem Tryz.bits_Len(x:Int)(w:World)(h0:0<=x)(h1:x<=18446744073709551615) :
 Calls AS 71 #[U .u64 x] w λe w'=>e=AT (U O (OG x.toNat))/\w'=w:=Any.bits_Len Tryz.N8 x w h0 h1
def Tryz.zY:Go.Shelf.Ren:=⟨fun|219=>276|217=>290|225=>291|224=>292|267=>293|266=>302|314=>303|n=>n,fun|9=>9|3=>3|4=>4|5=>5|46=>129|146=>329|51=>165|n=>n,fun|1=>0|n=>n⟩
theorem Tryz.N9:Go.Proofs.Lays.n219 AS Tryz.zY:={
 mixed:=by kernel_rfl
 f217:=Tryz.func290.trans (congrArg AI (by kernel_rfl))
 f219:=Tryz.func276.trans (congrArg AI (by kernel_rfl))
 f224:=Tryz.func292.trans (congrArg AI (by kernel_rfl))
 f225:=Tryz.func291.trans (congrArg AI (by kernel_rfl))
 f266:=Tryz.func302.trans (congrArg AI (by kernel_rfl))
 f267:=Tryz.func293.trans (congrArg AI (by kernel_rfl))
 f314:=Tryz.func303.trans (congrArg AI (by kernel_rfl))
 t3:=IF
 a3:=OS
 z3:=OD
 v3:=OY
 t4:=JT
 a4:=Qz
 z4:=Qi
 v4:=OZ
 t5:=OJ
 a5:=Ua
 z5:=QM
 v5:=O0
 t9:=Jb
 a9:=QA
 z9:=Qj
 v9:=O1
 t46:=OK
 a46:=QW
 z46:=QH
 v46:=O4
 t51:=OL
 a51:=QX
 z51:=QI
 v51:=O5
 t146:=Tryz.underlying329
 a146:=Tryz.isAgg329
 z146:=Tryz.sizeOf329
 v146:=Tryz.zeroValue329
 g1:=by kernel_rfl }
open Go.RowKit Go.Lib in
theorem Tryz.stringslite_Index_one(s:ByteArray)(c:UInt8)(w:World) :
 Calls AS 276 #[Y s,Y ⟨#[c]⟩] w λe w'=>e=AT (U O (Lib.indexByte s.data.toList c))/\w'=w:=Any.stringslite_Index_one Tryz.N9 s c w
end Go.Proofs
namespace Go.Proofs.YtfidhgjmifendaaGreatDoor
open Go.RowKit
theorem xE{k:IntKind}{a b:Int}(h:a=b):Ending.returned (U k a)=AT (U k b):=by rw[h]
theorem DC{m:Int}(h0 : -9223372036854775808<=m)(h1:m<=9223372036854775807):wrap64 m=m:=by
 rw[wrap64];omega
theorem zZ{n x:Int}(h0:0<=n)(h1:n<=9223372036854775807)(hx:0<x):wrap64 (n.tdiv x)=n/x:=by
 rw[Int.tdiv_eq_ediv_of_nonneg h0];have:=Int.ediv_nonneg h0 (Int.le_of_lt hx);have:=Int.ediv_le_self x h0;exact DC (by omega) (by omega)
theorem Ln(j:Nat)(r:Int)(h0:0<=r)(hm:r%2^(j+1)=0)(h1:r<=3037000499)(hj:j<=40):bits BinOp.or IntKind.i64 r (wrap64 (2^j))=r+2^j:=by
 have h2:=uc hj;have h3:=two_pow_pos j;have h4:(2:Int)^40=1099511627776:=by decide
 rw[DC (by omega) (by omega)];exact Ty j r h0 hm (Int.lt_of_le_of_lt h1 (by decide)) (by omega)
theorem Lo(n:Int)(w:World)(h0:0<=n)(h1:n<=9223372036854775807) :
 Calls AS 286 #[U O n] w λe w'=>e=AT (U O (rt n))/\w'=w:=by
 have hlen:(OG n.toNat:Int)<=64:=by have:=Lib.bitLen_le n.toNat 64 (by omega) (by omega);omega
 have ai0:(0:Int)<=(OG n.toNat:Int):=by omega
 go_enter Tryz.func286,Tryz.ntmps286;go_wp2_with (go_at_call 71;refine(Tryz.bits_Len _ _ (by omega) (by omega)).mono ?_;rintro e w' ⟨rfl,rfl⟩);go_loop [3,4] (λx b=>∃(i:Nat) (r:Int),i<=33/\x=U O r/\b=U O ((i:Int)-1)/\Hid (zV n r (2^i))/\Hid (r%2^i=0)) (λ_ b=>(intOf b+1).toNat)
 case atStart=>
  exact⟨OG n.toNat/2+1,0,by omega,rfl,congrArg (Value.int IntKind.i64) (by omega),Cl h0 h1 _ rfl,(show(0:Int)%_=0 by simp)⟩
 case round=>
  obtain⟨i,r,hi,rfl,rfl,HS,HM⟩:=hrel;have hr0:=HS.out.1;have lg:=N6 HS.out h1;cases i with
  |zero=>
   go_wp2;go_ret;exact⟨xE (rt_eq (Lm HS.out)).symm,rfl⟩
  |succ j=>
   have hj:((j+1:Nat):Int)-1=j:=by omega
   rw[hj];have HO:Hid _:=Ln j r hr0 HM.out lg (by omega);have hp:=two_pow_pos j;go_wp2
   .exfalso;have:=HO.out;omega
   .rename_i L2 Hx
    rw[HO.out] at Hx ⊢;rw[zZ h0 h1 (by omega)] at Hx;refine⟨⟨j,r+2^j,by omega,rfl,rfl,N5 (by rw[<- two_pow_succ];exact HS.out) (by omega) ((DB (by omega)).1 Hx),N7 HM.out⟩,by simp[intOf]⟩
   .rename_i L2 Hx
    rw[HO.out] at Hx;rw[zZ h0 h1 (by omega)] at Hx;refine⟨⟨j,r,by omega,rfl,rfl,Ll (by rw[<- two_pow_succ];exact HS.out) (λh=>by have:=(DB (x:=r+2^j) (n:=n) (by omega)).2 h;omega),zW HM.out⟩,by simp[intOf]⟩
end Go.Proofs.YtfidhgjmifendaaGreatDoor
namespace Go.Proofs.YtfidhgjmifendaaGreatDoor
open Go.RowKit Go.WideMaps Go.Maps
theorem jJ(m:Mem):bj [m]=m.e:=by
 unfold bj;by_cases h:m.e=0
 .simp[aU,h,aK]
 .simp[aU,h]
theorem cR{W:World}{cs:Array Value}{t:TypeId}{g k:Nat}(hg:g=W.heap.size):(W.alloc (.cells cs t)).cell? ⟨g,k,be⟩=cs[k]?:=by subst hg;simp
theorem eS(m:Mem)(w:World)(hs:m.name.size<=Io) :
 Calls AS 125 #[.agg #[Y m.name,U O m.state,U O m.aM,U O m.addr,Ia m.server]] w λe w'=>e=AT (U O m.e)/\Below w.heap.size w w':=by
 go_enter Tryz.func125,Tryz.ntmps125;go_wp2_with fail;refine(bo [m] _ _ ⟨_,_,rfl,cy (by simpa using hs),.inr ⟨w.heap.size+1,0,rfl,by simp,?_⟩⟩).mono ?_
 .intro j hj
  have:j=0:=by simpa using hj
  subst this;exact⟨cR (by simp),cR (by simp),cR (by simp),cR (by simp),cR (by simp)⟩
 rintro e w1 ⟨rfl,aB⟩;have HB:Hid _:=(((Ib _ _).alloc (Ic _) _).alloc (by simp) _).trans (aB.mono (by simp;omega));clear aB;rw[jJ];go_wp2_with fail;go_ret;exact⟨rfl,HB.out⟩
def dI(rs:List bK):Prop:=∀i j,i<j->j<rs.length->(rs.getD i dr).m.name≠(rs.getD j dr).m.name
def gS(rs:List bK):List Mem:=rs.map (·.m)
theorem kM(rs:List bK)(k:Nat):(gS rs).getD k dm=(rs.getD k dr).m:=by
 by_cases h:k<rs.length
 .simp[gS,Iq,Ie h]
 .simp[gS,Iq,I0 (by omega:rs.length<=k),dr]
theorem kL(rs:List bK):(gS rs).length=rs.length:=by simp[gS]
def gR(rs:List bK):Prop:=∀j,j<rs.length->within (rs.getD j dr).told 0 100=true
theorem Aa(rs:List bK):((JC rs.length).all λj=>within (rs.getD j dr).told 0 100)=true↔gR rs:=by
 unfold gR;simp only[OH,List.mem_range]
theorem xT(rs:List bK):((JC rs.length).all λj=>(JC j).all λi=>decide ((rs.getD i dr).m.name≠(rs.getD j dr).m.name))=true↔dI rs:=by
 unfold dI;simp only[OH,List.mem_range,decide_eq_true_eq];exact⟨λh i j hi hj=>h j hj i hi,λh j hj i hi=>h i j hi hj⟩
def dV(rs:List bK):Int:=
 if 20<rs.length then 2 else if aU (gS rs)=0 then(@ite _ (gR rs) (decidable_of_iff _ (Aa rs)) (@ite _ (dI rs) (decidable_of_iff _ (xT rs)) 0 6) 3) else aU (gS rs)
theorem wi{rs:List bK}(h:20<rs.length):dV rs=2:=by unfold dV;rw[if_pos h]
theorem Lp{rs:List bK}{k:Nat}(hn:rs.length<=20)(hk:k<rs.length)(hz:∀j,j<k->(rs.getD j dr).m.e=0)(aT:(rs.getD k dr).m.e≠0):dV rs=(rs.getD k dr).m.e:=by
 have h:=dQ (gS rs) k (by rw[kL];exact hk) (λj hj=>by rw[kM];exact hz j hj) (by rw[kM];exact aT);rw[kM] at h;unfold dV;rw[if_neg (by omega),if_neg (by rw[h];exact aT),h]
theorem mV{rs:List bK}(hz:∀j,j<rs.length->(rs.getD j dr).m.e=0):aU (gS rs)=0:=
 cB _ (λj hj=>by rw[kM];exact hz j (by rw[kL] at hj;exact hj))
theorem FI{rs:List bK}{k:Nat}(hn:rs.length<=20)(hz:∀j,j<rs.length->(rs.getD j dr).m.e=0)(hk:k<rs.length)(aT:within (rs.getD k dr).told 0 100=false):dV rs=3:=by
 unfold dV;rw[if_neg (by omega),if_pos (mV hz),if_neg];intro h;rw[h k hk] at aT;cases aT
theorem Cm{rs:List bK}(hn:rs.length<=20)(hz:∀j,j<rs.length->(rs.getD j dr).m.e=0)(ht:gR rs)(hd:¬ dI rs):dV rs=6:=by
 unfold dV;rw[if_neg (by omega),if_pos (mV hz),if_pos ht,if_neg hd]
theorem xf{rs:List bK}(hn:rs.length<=20)(hz:∀j,j<rs.length->(rs.getD j dr).m.e=0)(ht:gR rs)(hd:dI rs):dV rs=0:=by
 unfold dV;rw[if_neg (by omega),if_pos (mV hz),if_pos ht,if_pos hd]
theorem aak{rs:List bK}(hd:¬ dI rs):JA (Dm (eX rs) rs.length)<rs.length:=by
 apply lu;apply Classical.byContradiction;intro h;apply hd;intro i j jG hj e;exact h ⟨i,j,jG,hj,by rw[dC,dC];exact e⟩
theorem aal{rs:List bK}(hd:dI rs):JA (Dm (eX rs) rs.length)=rs.length:=
 lv _ _ (λi j jG hj=>by rw[dC,dC];exact hd i j jG hj)
theorem gf(rs:List bK)(v:Value)(w:World)(hv:mG w v rs) :
 Calls AS 72 #[v] w λe w'=>e=AT (U O (dV rs))/\Below w.heap.size w w':=by
 have HV:Hid (mG w v rs):=hv;obtain⟨pa,ca,rfl,cC,ha⟩:=hv;by_cases hmany:20<rs.length
 .have HE:Hid _:=wi hmany
  go_enter Tryz.func72,Tryz.ntmps72;go_wp2_with fail;go_ret;exact⟨ai HE.out.symm,Ib _ _⟩
 have HA:Hid _:=ha;have HS:Hid _:=cC;clear ha cC;generalize hN:rs.length=n at *;have HN:Hid _:=hN;clear hN;have Bf:n<=20:=by omega
 go_enter Tryz.func72,Tryz.ntmps72;go_wp2;go_loopw [13] (λi wr=>∃k:Nat,k<=n/\i=U O k/\Hid (∀j,j<k->(rs.getD j dr).m.e=0)/\Hid (Below w.heap.size w wr))
  (λi _=>n-(intOf i).toNat)
 case atStart=>exact⟨0,IH _,rfl,λj hj=>by omega,Ib _ _⟩
 case round=>
  obtain⟨k,hk,rfl,HZ,HB⟩:=hrel;by_cases aR:k<n
  .obtain⟨b,off,hp,hl,hr⟩:∃b off,pa=AI ⟨b,off,be⟩/\b<w.heap.size/\mH w b off rs:=by
    rcases HA.out with h|h
    .have:=HN.out;rw[h] at this;simp at this;omega
    .exact h
   subst hp;obtain⟨c0,c1,c2,c3,c4,c5⟩:=hr.below HB.out hl k (by rw[HN.out];exact aR);have dy:=HS.out k;have HX:Hid ((rs.getD k dr).m.e≠0->dV rs=(rs.getD k dr).m.e):=λh=>Lp (by rw[HN.out];exact Bf) (by rw[HN.out];exact aR) HZ.out h;have ly:Hid ((rs.getD k dr).m.e=0->∀j,j<k+1->(rs.getD j dr).m.e=0):=λh j hj=>by
    by_cases e:j=k
    .subst e;exact h
    .exact HZ.out j (by omega)
   generalize(rs.getD k dr)=rk at *;obtain⟨⟨nm,st,lf,ad,sv⟩,td⟩:=rk;simp only at c0 c1 c2 c3 c4 c5 dy HX ly;clear hr HZ;go_wp2_with fail;refine(eS ⟨nm,st,lf,ad,sv⟩ _ dy).mono ?_;rintro e w1 ⟨rfl,aB⟩;have aY:Hid _:=(HB.out.alloc HB.out.size _).trans (aB.mono (by have:=HB.out.size;simp;omega));clear aB c0 c1 c2 c3 c4 c5 HB;by_cases he:(Mem.mk nm st lf ad sv).e=0
   .have kG:((Mem.mk nm st lf ad sv).e !=0)=false:=by simpa using he
    have pZ:Hid _:=ly.out he;clear HX ly he;go_wp2_with fail;go_roundw
    case rel=>exact⟨k+1,by omega,by go_num,pZ,aY⟩
    case measure=>simp[intOf];omega
   .have kG:((Mem.mk nm st lf ad sv).e !=0)=true:=by simpa using he
    have HE:Hid _:=HX.out he;clear HX ly he;go_wp2_with fail;go_ret;exact⟨ai HE.out.symm,aY.out⟩
  .have HZA:Hid (∀j,j<rs.length->(rs.getD j dr).m.e=0):=λj hj=>HZ.out j (by rw[HN.out] at hj;omega)
   clear HZ;go_wp2_with fail;go_loopw [26] (λi wr=>∃k:Nat,k<=n/\i=U O k/\Hid (∀j,j<k->within (rs.getD j dr).told 0 100=true)/\Hid (Below w.heap.size w wr))
    (λi _=>n-(intOf i).toNat)
   case atStart=>exact⟨0,IH _,rfl,λj hj=>by omega,HB⟩
   case round=>
    clear HB aR hk;obtain⟨k2,hk,rfl,HZ,HB⟩:=hrel;by_cases aR:k2<n
    .obtain⟨b,off,hp,hl,hr⟩:∃b off,pa=AI ⟨b,off,be⟩/\b<w.heap.size/\mH w b off rs:=by
      rcases HA.out with h|h
      .have:=HN.out;rw[h] at this;simp at this;omega
      .exact h
     subst hp;obtain⟨c0,c1,c2,c3,c4,c5⟩:=hr.below HB.out hl k2 (by rw[HN.out];exact aR);have HX:Hid (within (rs.getD k2 dr).told 0 100=false->dV rs=3):=λh=>FI (by rw[HN.out];exact Bf) HZA.out (by rw[HN.out];exact aR) h;have ly:Hid (within (rs.getD k2 dr).told 0 100=true->∀j,j<k2+1->within (rs.getD j dr).told 0 100=true):=λh j hj=>by
      by_cases e:j=k2
      .subst e;exact h
      .exact HZ.out j (by omega)
     generalize(rs.getD k2 dr)=rk at *;obtain⟨⟨nm,st,lf,ad,sv⟩,td⟩:=rk;simp only at c0 c1 c2 c3 c4 c5 HX ly;clear hr HZ;rcases ht:within td 0 100 with _|_
     .have HE:Hid _:=HX.out ht
      clear HX ly;go_wp2_with (go_at_call 54;refine(cf _ _ _ _).mono ?_;rintro e w' ⟨rfl,rfl⟩;rw[ht]);go_ret;exact⟨ai HE.out.symm,HB.out.alloc HB.out.size _⟩
     .have pZ:Hid _:=ly.out ht
      clear HX ly;go_wp2_with (go_at_call 54;refine(cf _ _ _ _).mono ?_;rintro e w' ⟨rfl,rfl⟩;rw[ht]);go_roundw
      case rel=>exact⟨k2+1,by omega,by go_num,pZ,HB.out.alloc HB.out.size _⟩
      case measure=>simp[intOf];omega
    .have HTA:Hid (gR rs):=λj hj=>HZ.out j (by rw[HN.out] at hj;omega)
     clear HZ;go_wp2_with fail;refine(o7 rs _ _ (HV.out.below HB.out) (by rw[HN.out];omega)).mono ?_;rintro e w1 ⟨rfl,hown,aB⟩;have HO:Hid (w1.ownsMap _ _ _ _ _ _):=hown;have aY:Hid _:=HB.out.trans (aB.mono HB.out.size);clear hown aB;have DK:(JA (Dm (eX rs) rs.length):Nat)<=n:=by rw[<- HN.out];exact oA _ _
     by_cases hd:dI rs
     .have HE:Hid _:=xf (by rw[HN.out];exact Bf) HZA.out HTA.out hd
      have HSZ:¬ ((JA (Dm (eX rs) rs.length):Nat):Int)<n:=by rw[aal hd,HN.out];omega
      go_wp2_with (at_len;refine wpList_len_own _ rfl _ 125 rfl 9 3 Jy _ _ _ _ rfl HO.out ?_);go_ret;exact⟨ai HE.out.symm,aY.out⟩
     .have HE:Hid _:=Cm (by rw[HN.out];exact Bf) HZA.out HTA.out hd
      have HSZ:((JA (Dm (eX rs) rs.length):Nat):Int)<n:=by have:=aak hd;have:=HN.out;omega
      go_wp2_with (at_len;refine wpList_len_own _ rfl _ 125 rfl 9 3 Jy _ _ _ _ rfl HO.out ?_);go_ret;exact⟨ai HE.out.symm,aY.out⟩
end Go.Proofs.YtfidhgjmifendaaGreatDoor
namespace Go.Proofs.YtfidhgjmifendaaGreatDoor
open Go.RowKit
def bK.cs(r:bK):List Value:=[Y r.m.name,U O r.m.state,U O r.m.aM,U O r.m.addr,Ia r.m.server,U O r.told]
def eR(rs:List bK):List Value:=rs.flatMap bK.cs
theorem jo(r:bK):r.cs.length=6:=rfl
theorem kV(m:bK)(r:List bK):eR (m::r)=m.cs++eR r:=by simp[eR]
theorem sV(a b:List bK):eR (a++b)=eR a++eR b:=by simp[eR]
theorem dX:∀ms:List bK,(eR ms).length=ms.length*6
 |[]=>rfl
 |m::r=>by rw[kV,Ih,dX r,jo,List.length_cons];omega
theorem sW:∀(ms:List bK) (i:Nat),(eR ms).take (i*6)=eR (ms.take i)
 |[],i=>by simp[eR]
 |m::r,0=>by simp[eR]
 |m::r,i+1=>by
  rw[kV,List.take_succ_cons,kV,show(i+1)*6=m.cs.length+i*6 by rw[jo];omega,List.take_length_add_append,sW r i]
theorem yR:∀(ms:List bK) (i:Nat),(eR ms).drop (i*6)=eR (ms.drop i)
 |[],i=>by simp[eR]
 |m::r,0=>by simp
 |m::r,i+1=>by
  rw[kV,List.drop_succ_cons,show(i+1)*6=m.cs.length+i*6 by rw[jo];omega,List.drop_length_add_append,yR r i]
theorem wU(m:bK):∀v∈m.cs,v.oneCell'=true:=by
 intro v hv;simp[bK.cs] at hv;rcases hv with rfl|rfl|rfl|rfl|rfl|rfl<;>rfl
theorem CO(ms:List bK):∀v∈eR ms,v.oneCell'=true:=by
 intro v hv;obtain⟨m,_,h⟩:=List.mem_flatMap.1 hv;exact wU m v h
theorem lI(ms:List bK)(j:Nat)(hj:j<ms.length)(t:Nat)(ht:t<6):(eR ms)[j*6+t]?=(ms.getD j dr).cs[t]?:=by
 induction ms generalizing j with
 |nil=>simp at hj
 |cons m r ih=>
  rw[kV];cases j with
  |zero=>rw[List.getElem?_append_left (by rw[jo];omega)];simp
  |succ j=>
   rw[List.getElem?_append_right (by rw[jo];omega),jo,show(j+1)*6+t-6=j*6+t by omega,ih j (by simpa using hj)];simp
abbrev cE(base:Nat)(w:World)(v:Value)(ms:List bK):Prop:=w.ownsRow base 111 6 v ms.length (eR ms)
theorem zu(base:Nat)(w:World):cE base w (J be 0 0) []:=World.ownsRow_nil w base 111 6
theorem vE{base:Nat}{w:World}{v:Value}{L:List bK}{m:bK}(h:w.ownsRow base 111 6 v (L.length+1) (eR L++m.cs)):cE base w v (L++[m]):=by
 have e:eR (L++[m])=eR L++m.cs:=by rw[sV,kV];simp[eR]
 show w.ownsRow base 111 6 v (L++[m]).length (eR (L++[m]));rw[e,Ih];exact h
theorem MK{rs:List bK}(h:∀r∈rs,r.m.name.size<=Io):∀j,(rs.getD j dr).m.name.size<=Io:=λj=>by
 by_cases hj:j<rs.length
 .rw[show rs.getD j dr=rs[j] by simp[Iq,Ie hj]]
  exact h _ (List.getElem_mem hj)
 .rw[show rs.getD j dr=dr by simp[Iq,I0 (by omega:rs.length<=j)]]
  exact IH _
theorem MJ{rs:List bK}(h:∀j,(rs.getD j dr).m.name.size<=Io):∀m∈rs,m.m.name.size<=Io:=by
 intro m hm;obtain⟨j,hj,rfl⟩:=List.getElem_of_mem hm;have:=h j
 rwa [show rs.getD j dr=rs[j] by simp[Iq,Ie hj]] at this
theorem cE.sl{base:Nat}{w:World}{v:Value}{ms:List bK}(h:cE base w v ms)(hs:∀j,(ms.getD j dr).m.name.size<=Io):mG w v ms:=by
 rcases h.2 with⟨rfl,h0⟩|⟨g,c,cur,rfl,ey,hg,fK,dN,bZ,bf⟩
 .exact⟨be,0,by rw[h0],hs,.inl (List.eq_nil_of_length_eq_zero h0)⟩
 .refine⟨_,c,rfl,hs,.inr ⟨g,0,rfl,(BY.1 hg).1,λj hj=>?_⟩⟩
  have hc:∀t,t<6->w.cell? ⟨g,0+j*6+t,be⟩=(ms.getD j dr).cs[t]?:=λt ht=>by
   rw[ae hg,<- lI ms j hj t ht,<- bf,IM (by omega)];simp
  exact⟨hc 0 (by omega),hc 1 (by omega),hc 2 (by omega),hc 3 (by omega),hc 4 (by omega),hc 5 (by omega)⟩
theorem cE.below{base:Nat}{w w':World}{v:Value}{ms:List bK}(h:cE base w v ms)(hb:Below w.heap.size w w'):cE base w' v ms:=by
 obtain⟨h1,h2⟩:=h;refine⟨h1,?_⟩;rcases h2 with h2|⟨g,c,cur,hv,ey,hg,hr⟩
 .exact .inl h2
 .exact .inr ⟨g,c,cur,hv,ey,by rw[hb.block g (BY.1 hg).1];exact hg,hr⟩
theorem cE.base{b b':Nat}{w:World}{v:Value}{ms:List bK}(h:cE b w v ms)(hb:b'<=b):cE b' w v ms:=by
 obtain⟨h1,h2⟩:=h;refine⟨h1,?_⟩;rcases h2 with h2|⟨g,c,cur,hv,ey,hr⟩
 .exact .inl h2
 .exact .inr ⟨g,c,cur,hv,Ir hb ey,hr⟩
theorem cE.lt{base:Nat}{w:World}{v:Value}{ms:List bK}(h:cE base w v ms)(k:Nat)(hk:v.ownBlock=AI k):base<=k/\k<w.heap.size:=World.ownsRow.lt h k hk
theorem cE.slice{base:Nat}{w:World}{v:Value}{ms:List bK}(h:cE base w v ms):∃a c,v=J a ms.length c:=by
 rcases h.2 with⟨rfl,h0⟩|⟨g,c,cur,rfl,_⟩
 .exact⟨be,0,by rw[h0]⟩
 .exact⟨_,c,rfl⟩
theorem Tryz.vB:(Tryz.prog.info? 111).map (λi=>(i.zero,i.size,i.bytes))=AI (AI (.agg #[Y ⟨#[]⟩,U O 0,U O 0,U O 0,Ia false,U O 0]),6,56):=by kernel_rfl
theorem FJ{rs:List bK}{w:World}{b off:Nat}(hr:mH w b off rs){j:Nat}{u:Value}(hj:(eR rs)[j]?=AI u):w.cell? ⟨b,off+j,be⟩=AI u:=by
 have RG:j<rs.length*6:=by rw[<- dX];exact(List.getElem?_eq_some_iff.1 hj).1
 have h1:=lI rs (j/6) (by omega) (j%6) (by omega);rw[show j/6*6+j%6=j by omega,hj] at h1;obtain⟨c0,c1,c2,c3,c4,c5⟩:=hr (j/6) (by omega);have bZ:j%6=0\/j%6=1\/j%6=2\/j%6=3\/j%6=4\/j%6=5:=by omega
 rcases bZ with e|e|e|e|e|e
 .rw[show off+j=off+j/6*6 by omega,c0];rw[e] at h1;simpa[bK.cs] using h1.symm
 .rw[show off+j=off+j/6*6+1 by omega,c1];rw[e] at h1;simpa[bK.cs] using h1.symm
 .rw[show off+j=off+j/6*6+2 by omega,c2];rw[e] at h1;simpa[bK.cs] using h1.symm
 .rw[show off+j=off+j/6*6+3 by omega,c3];rw[e] at h1;simpa[bK.cs] using h1.symm
 .rw[show off+j=off+j/6*6+4 by omega,c4];rw[e] at h1;simpa[bK.cs] using h1.symm
 .rw[show off+j=off+j/6*6+5 by omega,c5];rw[e] at h1;simpa[bK.cs] using h1.symm
theorem gh(rs:List bK)(v:Value)(w:World)(h:mG w v rs)(hn:rs.length<=1000) :
 Calls AS 58 #[v] w λe w'=>∃v',e=AT v'/\cE w.heap.size w' v' rs/\Below w.heap.size w w':=by
 obtain⟨a,cap,rfl,hs,h⟩:=h;obtain⟨i0,fW,dd,gY,gG⟩:=info_parts Tryz.vB;cases a with
 |none=>
  have he:rs=[]:=by
   rcases h with h|⟨b,off,h,_⟩
   .exact h
   .cases h
  subst he;clear h hs;have gM:=λ(w:World)=>Ju (P:=AS) w 35 111 be 0 cap 0 0 Oc;simp only[List.length_nil,Option.isNone_none] at gM ⊢;go_enter Tryz.func58,Tryz.ntmps58;go_wp2_with fail;go_ret;exact⟨_,rfl,zu _ _,Ib _ _⟩
 |some a=>
  have gM:=λ(w:World)=>Ju (P:=AS) w 35 111 (AI a) rs.length cap 0 0 Oc;simp only[Option.isNone_some] at gM;have hnews:Hid (∀j u,(eR rs)[j]?=AI u->(w.alloc (.cells #[] 111)).cell? (a.add j)=AI u):=by
   intro j u hj;rcases h with h|⟨b,off,h,hb,hr⟩
   .subst h;simp[eR] at hj
   .cases h
    rw[Addr.add_lit,World.cell?_alloc_past (w:=w) _ b _ hb];exact FJ hr hj
  have HO:Hid ((w.alloc (.cells #[] 111)).ownsRow w.heap.size 111 6 (J (AI ⟨w.heap.size,0,be⟩) 0 0) 0 []):=World.ownsRow_made w #[] 0 (Ic _) (by unfold Io;omega) rfl;clear h hs;go_enter Tryz.func58,Tryz.ntmps58;go_wp2_with (at_builtin;refine Ja _ rfl _ _ 35 rfl w.heap.size 111 i0 _ 6 56 Oc fW dd gY gG rfl (by omega) _ 0 [] rfl HO.out a rs.length cap (eR rs) rfl (dX rs) hnews.out (CO rs) (by unfold Io;omega) (by omega) (by simp) ?_);intro v' w' r1 r2 r3;go_wp2_with fail;go_ret;refine⟨v',rfl,?_,?_⟩
  .simpa using r1
  .exact((Ib _ _).alloc (Ic _) _).grown r2 (by simp) (λk hk=>by simp[Value.ownBlock] at hk;omega)
end Go.Proofs.YtfidhgjmifendaaGreatDoor
namespace Go.Proofs.YtfidhgjmifendaaGreatDoor
open Go.RowKit Go.WideMaps Go.Maps
theorem o8{w:World}{b n:Nat}{D:DataW Unit}(h:w.ownsMap AS 9 (plainElem (H:=Unit) AS 3) b n D){s:ByteArray}(hs:s.size<=Io) :
 ∃c:Int,(Instr.lookup 125 (.map (AI b)) (Y s) true).run AS w=.ok (Im #[U O c,Ia (QK D (kS s))]) w/\D.atKey (kS s) (.lit (.int O 0))=.lit (.int O c):=by
 obtain⟨v,ps,jK,hv⟩:=h.look_ok DM Jy (AK _) (plainElem_int IF (by decide)) (keyOf_string_mk Jb hs);obtain⟨c,rfl,hc,_⟩:=plainElem_int_inv IF hv;exact⟨c,jK,congrArg Prod.fst hc⟩
def CP(rs:List bK)(nm:ByteArray):Prop:=∀j,j<rs.length->(rs.getD j dr).m.name≠nm
theorem CQ{rs:List bK}{nm:ByteArray}(h:CP rs nm):QK (Dm (eX rs) rs.length) (kS nm)=false:=by
 cases hh:QK (Dm (eX rs) rs.length) (kS nm)
 .rfl
 .obtain⟨j,hj,e⟩:=(qp _ _ _).1 hh
  rw[dC] at e;exact absurd e (h j hj)
theorem MP(rs:List bK)(v:Value)(m:Mem)(w:World)(hv:mG w v rs)(hm:m.name.size<=Io)(h0:dV rs=0)(he:m.e=0)(LV:CP rs m.name)(hl:rs.length<20) :
 Calls AS 168 #[v,.agg #[Y m.name,U O m.state,U O m.aM,U O m.addr,Ia m.server]] w λe w'=>∃v',e=AT (Im #[v',U O 0])/\cE w.heap.size w' v' (rs++[⟨m,0⟩])/\Below w.heap.size w w':=by
 obtain⟨i0,fW,dd,gY,gG⟩:=info_parts Tryz.vB;have HV:Hid (mG w v rs):=hv;have jN:=λ(w:World) (h:mG w v rs)=>gf rs v w h;rw[h0] at jN;have dN:=λw=>eS m w hm;rw[he] at dN;have HH:Hid _:=CQ LV;clear h0 he hv;obtain⟨nm,st,lf,ad,sv⟩:=m;simp only at *;have rH:Below w.heap.size w (w.alloc (.cells #[Y nm,U O st,U O lf,U O ad,Ia sv] 50)):=(Ib _ _).alloc (Ic _) _;go_enter Tryz.func168,Tryz.ntmps168;go_wp2_with fail;refine(jN _ (HV.out.below rH)).mono ?_;rintro e w1 ⟨rfl,aB⟩;have c1:∀o,w1.cell? ⟨w.heap.size,o,be⟩=#[Y nm,U O st,U O lf,U O ad,Ia sv][o]?:=λo=>by
  rw[aB.cell (p:=⟨w.heap.size,o,be⟩) (by simp)];exact cR rfl
 have aY:Hid _:=rH.trans (aB.mono (by simp));have cX:w.heap.size<w1.heap.size:=by have:=aB.size;simp at this;omega
 clear aB rH jN;go_wp2_with fail;refine(dN _).mono ?_;rintro e w2 ⟨rfl,aI⟩;have c2:∀o,w2.cell? ⟨w.heap.size,o,be⟩=#[Y nm,U O st,U O lf,U O ad,Ia sv][o]?:=λo=>by
  rw[aI.cell (p:=⟨w.heap.size,o,be⟩) (by simp only;omega)];exact c1 o
 have bp:Hid _:=aY.out.trans (aI.mono aY.out.size);have ny:w.heap.size<w2.heap.size:=by have:=aI.size;omega
 clear aI c1 cX aY dN;go_wp2_with fail;refine(gh rs v _ (HV.out.below bp.out) (by omega)).mono ?_;rintro e w3 ⟨v3,rfl,kZ,bU⟩;have dY:Hid (cE _ _ _ _):=kZ;have c3:w3.cell? ⟨w.heap.size,0,be⟩=AI (Y nm):=by
  rw[bU.cell (p:=⟨w.heap.size,0,be⟩) (by simp only;omega)];exact c2 0
 have C3:Hid (∀o,w3.cell? ⟨w.heap.size,o,be⟩=#[Y nm,U O st,U O lf,U O ad,Ia sv][o]?):=λo=>by
  rw[bU.cell (p:=⟨w.heap.size,o,be⟩) (by simp only;omega)];exact c2 o
 have cF:Hid _:=bp.out.trans (bU.mono bp.out.size);have qb:w.heap.size<w3.heap.size:=by have:=bU.size;omega
 have R6:=bU.size;clear bU kZ c2;go_wp2_with fail;go_region_held3 (λw'=>w'.cell? ⟨w.heap.size,0,be⟩=AI (Y nm)) (first|assumption|go_keep) (first|(go_at_call 126;refine(o7 rs v _ ((HV.out.below cF.out).below (Ib _ _).drew) (by omega)).mono ?_;rintro e w4 ⟨rfl,hown,eP⟩;obtain⟨cq,jK,cH⟩:=o8 hown hm;rw[HH.out] at jK;have qU:(Instr.lookup 125 (.map (AI w3.heap.size)) (Y nm) true).run AS w4=.ok (Im #[U O cq,Ia false]) w4:=jK;clear jK cH hown;have fE:Hid (Below w3.heap.size w3 w4):=(Ib w3.heap.size w3).drew.trans eP;have hS:w4.cell? ⟨w.heap.size,0,be⟩=AI (Y nm):=((eP.cell (p:=⟨w.heap.size,0,be⟩) qb).trans c3);clear eP))
 obtain⟨a3,DX,yS⟩:=dY.out.slice;subst yS;have C4:∀o,w4.cell? ⟨w.heap.size,o,be⟩=#[Y nm,U O st,U O lf,U O ad,Ia sv][o]?:=λo=>by
  rw[fE.out.cell (p:=⟨w.heap.size,o,be⟩) qb];exact C3.out o
 have nD:Hid (cE _ _ _ _):=dY.out.below fE.out;have gX:Hid _:=cF.out.trans (fE.out.mono cF.out.size);have iY:w2.heap.size<=w4.heap.size:=by have:=fE.out.size;omega
 have uL:Hid (∀ob,(w4.alloc ob).ownsRow w2.heap.size 111 6 (J a3 rs.length DX) rs.length (eR rs)):=λob=>nD.out.below ((Ib _ _).alloc (Ic _) _);have LX:Hid (∀k,(Value.slice a3 rs.length DX).ownBlock=AI k->w.heap.size<=k):=λk hk=>by have:=(nD.out.lt k hk).1;omega
 have HSN:Hid (∀(w':World) (v':Value),w'.ownsRow w2.heap.size 111 6 v' (rs.length+1) (eR rs++(bK.mk ⟨nm,st,lf,ad,sv⟩ 0).cs)->cE w.heap.size w' v' (rs++[⟨⟨nm,st,lf,ad,sv⟩,0⟩])):=λw' v' h=>(vE h).base (by omega);clear dY C3 fE cF c3 qU nD;generalize hN:rs.length=n at *;have HN:Hid _:=hN;clear hN;go_wp2_with (at_builtin;refine Ja _ rfl _ _ 35 rfl w2.heap.size 111 i0 _ 6 56 Oc fW dd gY gG rfl (by omega) _ n (eR rs) rfl ?hown ⟨w4.heap.size,0,be⟩ 1 1 (bK.mk ⟨nm,st,lf,ad,sv⟩ 0).cs rfl rfl ?hnews (wU _) ?h63 ?hbytes ?hbase ?_)
 case hown=>exact uL.out _
 case hnews=>(intro j u hj;rw[Addr.add_lit];exact(ae (heap_alloc_new w4 (.cells #[Y nm,U O st,U O lf,U O ad,Ia sv,U O 0] 111)) (0+j)).trans (by simpa[bK.cs] using hj))
 case h63=>(unfold Io;omega)
 case hbytes=>omega
 case hbase=>(simp;omega)
 intro v' w5 r1 r2 r3;have R1:Hid (cE _ _ _ _):=HSN.out w5 v' r1;have R2:Hid _:=(gX.out.alloc gX.out.size _).grown r2 (by have:=gX.out.size;simp;omega) (λk hk=>LX.out k hk);clear r1 r2 r3;go_wp2_with fail;go_ret2;exact⟨v',rfl,R1.out,R2.out⟩
end Go.Proofs.YtfidhgjmifendaaGreatDoor
namespace Go.Proofs.YtfidhgjmifendaaGreatDoor
open Go.RowKit
theorem Tryz.Wl:(Tryz.prog.info? 3).map (λi=>(i.zero,i.size,i.bytes))=AI (AI (U O 0),1,8):=by kernel_rfl
theorem o9{base g c n:Nat}{w:World}{rs:List bK}(h:w.ownsRow base 111 6 (J (AI ⟨g,0,be⟩) n c) rs.length (eR rs)):mH w g 0 rs:=by
 rcases h.2 with⟨hv,_⟩|⟨g',c',cur,hv,ey,hg,fK,dN,bZ,bf⟩
 .cases hv
 .simp only[Value.slice.injEq,Option.some.injEq,Addr.mk.injEq,and_true] at hv
  obtain⟨rfl,_,_⟩:=hv;intro j hj;have hc:∀t,t<6->w.cell? ⟨g,0+j*6+t,be⟩=(rs.getD j dr).cs[t]?:=λt ht=>by
   rw[ae hg,<- lI rs j hj t ht,<- bf,IM (by omega)];simp
  exact⟨hc 0 (by omega),hc 1 (by omega),hc 2 (by omega),hc 3 (by omega),hc 4 (by omega),hc 5 (by omega)⟩
end Go.Proofs.YtfidhgjmifendaaGreatDoor
