import Derived.Test.YtfidhgjmifendaaGreatDoornt4
set_option maxHeartbeats 3200000
set_option maxRecDepth 100000
open Nat renaming le_trans→Iq,le_refl→Ic
open Go.IntKind renaming i64→O
open Go.Lib renaming bitLen→OI,run_eql_slice_nil→Ju
open Go.Proofs.Tryz renaming prog→AS,underlying3→ID,isAgg3→OG,sizeOf3→Oj,zeroValue3→O1,underlying4→JK,isAgg4→Qh,sizeOf4→OW,zeroValue4→O2,underlying5→OM,isAgg5→Q8,sizeOf5→QL,zeroValue5→O3,underlying9→Ja,isAgg9→Qi,sizeOf9→OX,zeroValue9→O4,underlying129→ON,isAgg129→QW,sizeOf129→QG,zeroValue129→O8,underlying165→OO,isAgg165→QX,sizeOf165→QH,zeroValue165→O9,underlying35→Ob
open Option renaming some→AI,none→be
open Go.Value renaming int→U,string→Y,bool→Ia,slice→J,tuple→Ik
open Go.Ending renaming returned→By
open List renaming length_append→Ig,getD→Ip,getElem?_eq_getElem→If,getElem?_take_of_lt→IL
open Go renaming maxLen→Il,wpList_append_own→Jd
open Array renaming getElem?_eq_some_iff→BY
open Go.RowKit.Below renaming refl→Ib
namespace Go.Proofs.YtfidhgjmifendaaGreatDoor
open Go.RowKit
def qZ(n r:Int):Prop:=0<=r/\r*r<=n/\n<(r+1)*(r+1)
theorem DA{a b:Int}(h0:0<=a)(h:a<=b):a*a<=b*b:=Int.mul_le_mul h h h0 (by omega)
def rtN(n:Nat):Nat->Nat
 |0=>0
 |k+1=>if(k+1)*(k+1)<=n then k+1 else rtN n k
def rt(n:Int):Int:=(rtN n.toNat n.toNat:Nat)
theorem Ln{n r:Nat}(h1:r*r<=n)(h2:n<(r+1)*(r+1)):∀k,r<=k->rtN n k=r
 |0,hk=>by
  have e:r=0:=by omega
  rw[e];rfl
 |k+1,hk=>by
  simp only[rtN];by_cases hc:(k+1)*(k+1)<=n
  .rw[if_pos hc]
   rcases Nat.lt_or_ge r (k+1) with h|h
   .have:=Nat.mul_le_mul (show r+1<=k+1 by omega) (show r+1<=k+1 by omega)
    omega
   .omega
  .rw[if_neg hc]
   have aM:r≠k+1:=λe=>hc (e▸h1);exact Ln h1 h2 k (by omega)
theorem rt_eq{n r:Int}(h:qZ n r):rt n=r:=by
 obtain⟨h0,h1,h2⟩:=h;obtain⟨m,rfl⟩:=Int.eq_ofNat_of_zero_le h0;have hn:=Int.le_trans (Int.mul_nonneg h0 h0) h1;obtain⟨k,rfl⟩:=Int.eq_ofNat_of_zero_le hn;have g1:m*m<=k:=by exact_mod_cast h1
 have g2:k<(m+1)*(m+1):=by exact_mod_cast h2
 have g3:=Iq (Nat.le_mul_self m) g1;show((rtN k k:Nat):Int)=(m:Int);rw[Ln g1 g2 k g3]
def Af(n r b:Int):Prop:=0<=r/\r*r<=n/\n<(r+b)*(r+b)
theorem NZ{n r b:Int}(h:Af n r (2*b))(hb:0<=b)(hx:(r+b)*(r+b)<=n):Af n (r+b) b:=by
 obtain⟨h0,h1,h2⟩:=h;refine⟨by omega,hx,?_⟩;rw[show r+b+b=r+2*b by omega];exact h2
theorem Lo{n r b:Int}(h:Af n r (2*b))(hx:¬ (r+b)*(r+b)<=n):Af n r b:=
 ⟨h.1,h.2.1,by omega⟩
theorem Lp{n r:Int}(h:Af n r 1):qZ n r:=h
theorem N0{n r b:Int}(h:Af n r b)(hn:n<=9223372036854775807):r<=3037000499:=by
 apply Classical.byContradiction;intro c;have:=DA (a:=3037000500) (b:=r) (by omega) (by omega);have:=h.2.1;omega
theorem DB{n x:Int}(hx:0<x):x<=n/x↔x*x<=n:=Int.le_ediv_iff_mul_le hx
theorem two_pow_pos(k:Nat):(0:Int)<2^k:=by
 have:(0:Nat)<2^k:=Nat.two_pow_pos k
 exact_mod_cast this
theorem two_pow_succ(k:Nat):(2:Int)^(k+1)=2*2^k:=by rw[Int.pow_succ];omega
theorem ue{a b:Nat}(h:a<=b):(2:Int)^a<=2^b:=by
 have:(2:Nat)^a<=2^b:=Nat.pow_le_pow_right (by omega) h
 exact_mod_cast this
theorem FP(n:Int)(h₀:0<=n)(h₁:n<2^63):IntKind.i64.wrap n=n:=by rw[IntKind.wrap_i64];omega
theorem Tw(k:Nat)(r:Int)(h0:0<=r)(hm:r%2^(k+1)=0)(hr:r<2^63)(hk:k<=62):bits BinOp.or IntKind.i64 r (2^k)=r+2^k:=
 bits_join O 63 (by decide) FP (k+1) r (2^k) h0 hm hr (Int.le_of_lt (two_pow_pos k)) (by rw[two_pow_succ];have:=two_pow_pos k;omega) (Int.lt_of_le_of_lt (ue hk) (by decide))
theorem Ag{r:Int}{k:Nat}(hm:r%2^(k+1)=0):r%2^k=0:=
 Int.emod_eq_zero_of_dvd (Int.dvd_trans ⟨2,by rw[Int.pow_succ]⟩ (Int.dvd_of_emod_eq_zero hm))
theorem N1{r:Int}{k:Nat}(hm:r%2^(k+1)=0):(r+2^k)%2^k=0:=by
 rw[Int.add_emod_right];exact Ag hm
theorem Tx(n:Nat)(h:n<2^64):n<2^OI n:=by
 by_cases h0:n=0
 .subst h0;decide
 .exact(Lib.bitLenAux_bounds 64 n h h0).2.2
theorem Cs{n:Int}(h0:0<=n)(h1:n<=9223372036854775807)(j:Nat)(hj:OI n.toNat/2=j):Af n 0 (2^(j+1)):=by
 refine⟨by omega,by simpa using h0,?_⟩;have h2:=Tx n.toNat (by omega);have h3:(2:Nat)^OI n.toNat<=2^(2*(j+1)):=Nat.pow_le_pow_right (by omega) (by omega);have h4:(2:Nat)^(2*(j+1))=2^(j+1)*2^(j+1):=by rw[<- Nat.pow_add];congr 1;omega
 have h5:n.toNat<2^(j+1)*2^(j+1):=by omega
 have h6:((n.toNat:Nat):Int)<((2^(j+1)*2^(j+1):Nat):Int):=by exact_mod_cast h5
 rw[Int.toNat_of_nonneg h0] at h6;simpa using h6
end Go.Proofs.YtfidhgjmifendaaGreatDoor
namespace Go.Proofs
open Go.Shelf
def Tryz.Ah:Go.Shelf.Ren:=⟨fun|125=>71|128=>123|129=>124|n=>n,fun|46=>129|3=>3|51=>165|53=>167|4=>4|5=>5|9=>9|n=>n,fun|n=>n⟩
theorem Tryz.N2:Go.Proofs.Lays.n125 AS Tryz.Ah:={
 mixed:=by kernel_rfl
 f125:=Tryz.func71.trans (congrArg AI (by kernel_rfl))
 f128:=Tryz.func123.trans (congrArg AI (by kernel_rfl))
 f129:=Tryz.func124.trans (congrArg AI (by kernel_rfl))
 t3:=ID
 a3:=OG
 z3:=Oj
 v3:=O1
 t4:=JK
 a4:=Qh
 z4:=OW
 v4:=O2
 t5:=OM
 a5:=Q8
 z5:=QL
 v5:=O3
 t9:=Ja
 a9:=Qi
 z9:=OX
 v9:=O4
 t46:=ON
 a46:=QW
 z46:=QG
 v46:=O8
 t51:=OO
 a51:=QX
 z51:=QH
 v51:=O9
 t53:=Tryz.underlying167
 a53:=Tryz.isAgg167
 z53:=Tryz.sizeOf167
 v53:=Tryz.zeroValue167 }
theorem Tryz.bits_Len(x:Int)(w:World)(h0:0<=x)(h1:x<=18446744073709551615) :
 Calls AS 71 #[U .u64 x] w λe w'=>e=By (U O (OI x.toNat))/\w'=w:=Any.bits_Len Tryz.N2 x w h0 h1
def Tryz.Ai:Go.Shelf.Ren:=⟨fun|219=>276|217=>290|225=>291|224=>292|267=>293|266=>302|314=>303|n=>n,fun|9=>9|3=>3|4=>4|5=>5|46=>129|146=>329|51=>165|n=>n,fun|1=>0|n=>n⟩
theorem Tryz.N3:Go.Proofs.Lays.n219 AS Tryz.Ai:={
 mixed:=by kernel_rfl
 f217:=Tryz.func290.trans (congrArg AI (by kernel_rfl))
 f219:=Tryz.func276.trans (congrArg AI (by kernel_rfl))
 f224:=Tryz.func292.trans (congrArg AI (by kernel_rfl))
 f225:=Tryz.func291.trans (congrArg AI (by kernel_rfl))
 f266:=Tryz.func302.trans (congrArg AI (by kernel_rfl))
 f267:=Tryz.func293.trans (congrArg AI (by kernel_rfl))
 f314:=Tryz.func303.trans (congrArg AI (by kernel_rfl))
 t3:=ID
 a3:=OG
 z3:=Oj
 v3:=O1
 t4:=JK
 a4:=Qh
 z4:=OW
 v4:=O2
 t5:=OM
 a5:=Q8
 z5:=QL
 v5:=O3
 t9:=Ja
 a9:=Qi
 z9:=OX
 v9:=O4
 t46:=ON
 a46:=QW
 z46:=QG
 v46:=O8
 t51:=OO
 a51:=QX
 z51:=QH
 v51:=O9
 t146:=Tryz.underlying329
 a146:=Tryz.isAgg329
 z146:=Tryz.sizeOf329
 v146:=Tryz.zeroValue329
 g1:=by kernel_rfl }
open Go.RowKit Go.Lib in
theorem Tryz.stringslite_Index_one(s:ByteArray)(c:UInt8)(w:World) :
 Calls AS 276 #[Y s,Y ⟨#[c]⟩] w λe w'=>e=By (U O (Lib.indexByte s.data.toList c))/\w'=w:=Any.stringslite_Index_one Tryz.N3 s c w
end Go.Proofs
namespace Go.Proofs.YtfidhgjmifendaaGreatDoor
open Go.RowKit
theorem xP{k:IntKind}{a b:Int}(h:a=b):Ending.returned (U k a)=By (U k b):=by rw[h]
theorem DC{m:Int}(h0 : -9223372036854775808<=m)(h1:m<=9223372036854775807):wrap64 m=m:=by
 rw[wrap64];omega
theorem Aj{n x:Int}(h0:0<=n)(h1:n<=9223372036854775807)(hx:0<x):wrap64 (n.tdiv x)=n/x:=by
 rw[Int.tdiv_eq_ediv_of_nonneg h0];have:=Int.ediv_nonneg h0 (Int.le_of_lt hx);have:=Int.ediv_le_self x h0;exact DC (by omega) (by omega)
theorem Lq(j:Nat)(r:Int)(h0:0<=r)(hm:r%2^(j+1)=0)(h1:r<=3037000499)(hj:j<=40):bits BinOp.or IntKind.i64 r (wrap64 (2^j))=r+2^j:=by
 have h2:=ue hj;have h3:=two_pow_pos j;have h4:(2:Int)^40=1099511627776:=by decide
 rw[DC (by omega) (by omega)];exact Tw j r h0 hm (Int.lt_of_le_of_lt h1 (by decide)) (by omega)
theorem Lr(n:Int)(w:World)(h0:0<=n)(h1:n<=9223372036854775807) :
 Calls AS 286 #[U O n] w λe w'=>e=By (U O (rt n))/\w'=w:=by
 have hlen:(OI n.toNat:Int)<=64:=by have:=Lib.bitLen_le n.toNat 64 (by omega) (by omega);omega
 have aiA:(0:Int)<=(OI n.toNat:Int):=by omega
 go_enter Tryz.func286,Tryz.ntmps286;go_wp2_with (go_at_call 71;refine(Tryz.bits_Len _ _ (by omega) (by omega)).mono ?_;rintro e w' ⟨rfl,rfl⟩);go_loop [3,4] (λx b=>∃(i:Nat) (r:Int),i<=33/\x=U O r/\b=U O ((i:Int)-1)/\Hid (Af n r (2^i))/\Hid (r%2^i=0)) (λ_ b=>(intOf b+1).toNat)
 case atStart=>
  exact⟨OI n.toNat/2+1,0,by omega,rfl,congrArg (Value.int IntKind.i64) (by omega),Cs h0 h1 _ rfl,(show(0:Int)%_=0 by simp)⟩
 case round=>
  obtain⟨i,r,hi,rfl,rfl,HS,HM⟩:=hrel;have T8:=HS.out.1;have mj:=N0 HS.out h1;cases i with
  |zero=>
   go_wp2;go_ret;exact⟨xP (rt_eq (Lp HS.out)).symm,rfl⟩
  |succ j=>
   have hj:((j+1:Nat):Int)-1=j:=by omega
   rw[hj];have HO:Hid _:=Lq j r T8 HM.out mj (by omega);have hp:=two_pow_pos j;go_wp2
   .exfalso;have:=HO.out;omega
   .rename_i PF LJ
    rw[HO.out] at LJ ⊢;rw[Aj h0 h1 (by omega)] at LJ;refine⟨⟨j,r+2^j,by omega,rfl,rfl,NZ (by rw[<- two_pow_succ];exact HS.out) (by omega) ((DB (by omega)).1 LJ),N1 HM.out⟩,by simp[intOf]⟩
   .rename_i PF LJ
    rw[HO.out] at LJ;rw[Aj h0 h1 (by omega)] at LJ;refine⟨⟨j,r,by omega,rfl,rfl,Lo (by rw[<- two_pow_succ];exact HS.out) (λh=>by have:=(DB (x:=r+2^j) (n:=n) (by omega)).2 h;omega),Ag HM.out⟩,by simp[intOf]⟩
def bL.cs(r:bL):List Value:=[Y r.m.name,U O r.m.state,U O r.m.aI,U O r.m.addr,Ia r.m.server,U O r.told]
def eQ(rs:List bL):List Value:=rs.flatMap bL.cs
theorem jv(r:bL):r.cs.length=6:=rfl
theorem kY(m:bL)(r:List bL):eQ (m::r)=m.cs++eQ r:=by simp[eQ]
theorem sU(a b:List bL):eQ (a++b)=eQ a++eQ b:=by simp[eQ]
theorem dX:∀ms:List bL,(eQ ms).length=ms.length*6
 |[]=>rfl
 |m::r=>by rw[kY,Ig,dX r,jv,List.length_cons];omega
theorem sV:∀(ms:List bL) (i:Nat),(eQ ms).take (i*6)=eQ (ms.take i)
 |[],i=>by simp[eQ]
 |m::r,0=>by simp[eQ]
 |m::r,i+1=>by
  rw[kY,List.take_succ_cons,kY,show(i+1)*6=m.cs.length+i*6 by rw[jv];omega,List.take_length_add_append,sV r i]
theorem zc:∀(ms:List bL) (i:Nat),(eQ ms).drop (i*6)=eQ (ms.drop i)
 |[],i=>by simp[eQ]
 |m::r,0=>by simp
 |m::r,i+1=>by
  rw[kY,List.drop_succ_cons,show(i+1)*6=m.cs.length+i*6 by rw[jv];omega,List.drop_length_add_append,zc r i]
theorem wW(m:bL):∀v∈m.cs,v.oneCell'=true:=by
 intro v hv;simp[bL.cs] at hv;rcases hv with rfl|rfl|rfl|rfl|rfl|rfl<;>rfl
theorem CQ(ms:List bL):∀v∈eQ ms,v.oneCell'=true:=by
 intro v hv;obtain⟨m,_,h⟩:=List.mem_flatMap.1 hv;exact wW m v h
theorem lN(ms:List bL)(j:Nat)(hj:j<ms.length)(t:Nat)(ht:t<6):(eQ ms)[j*6+t]?=(ms.getD j dr).cs[t]?:=by
 induction ms generalizing j with
 |nil=>simp at hj
 |cons m r ih=>
  rw[kY];cases j with
  |zero=>rw[List.getElem?_append_left (by rw[jv];omega)];simp
  |succ j=>
   rw[List.getElem?_append_right (by rw[jv];omega),jv,show(j+1)*6+t-6=j*6+t by omega,ih j (by simpa using hj)];simp
abbrev cH(base:Nat)(w:World)(v:Value)(ms:List bL):Prop:=w.ownsRow base 111 6 v ms.length (eQ ms)
theorem zD(base:Nat)(w:World):cH base w (J be 0 0) []:=World.ownsRow_nil w base 111 6
theorem vI{base:Nat}{w:World}{v:Value}{L:List bL}{m:bL}(h:w.ownsRow base 111 6 v (L.length+1) (eQ L++m.cs)):cH base w v (L++[m]):=by
 have e:eQ (L++[m])=eQ L++m.cs:=by rw[sU,kY];simp[eQ]
 show w.ownsRow base 111 6 v (L++[m]).length (eQ (L++[m]));rw[e,Ig];exact h
theorem Mq{rs:List bL}(h:∀r∈rs,r.m.name.size<=Il):∀j,(rs.getD j dr).m.name.size<=Il:=λj=>by
 by_cases hj:j<rs.length
 .rw[show rs.getD j dr=rs[j] by simp[Ip,If hj]]
  exact h _ (List.getElem_mem hj)
 .rw[show rs.getD j dr=dr by simp[Ip,List.getElem?_eq_none (by omega:rs.length<=j)]]
  exact Nat.zero_le _
theorem Mp{rs:List bL}(h:∀j,(rs.getD j dr).m.name.size<=Il):∀m∈rs,m.m.name.size<=Il:=by
 intro m hm;obtain⟨j,hj,rfl⟩:=List.getElem_of_mem hm;have:=h j
 rwa [show rs.getD j dr=rs[j] by simp[Ip,If hj]] at this
theorem cH.sl{base:Nat}{w:World}{v:Value}{ms:List bL}(h:cH base w v ms)(hs:∀j,(ms.getD j dr).m.name.size<=Il):mJ w v ms:=by
 rcases h.2 with⟨rfl,h0⟩|⟨g,c,cur,rfl,ev,hg,fG,dO,b9,bf⟩
 .exact⟨be,0,by rw[h0],hs,.inl (List.eq_nil_of_length_eq_zero h0)⟩
 .refine⟨_,c,rfl,hs,.inr ⟨g,0,rfl,(BY.1 hg).1,λj hj=>?_⟩⟩
  have hc:∀t,t<6->w.cell? ⟨g,0+j*6+t,be⟩=(ms.getD j dr).cs[t]?:=λt ht=>by
   rw[ae hg,<- lN ms j hj t ht,<- bf,IL (by omega)];simp
  exact⟨hc 0 (by omega),hc 1 (by omega),hc 2 (by omega),hc 3 (by omega),hc 4 (by omega),hc 5 (by omega)⟩
theorem cH.below{base:Nat}{w w':World}{v:Value}{ms:List bL}(h:cH base w v ms)(hb:Below w.heap.size w w'):cH base w' v ms:=by
 obtain⟨h1,h2⟩:=h;refine⟨h1,?_⟩;rcases h2 with h2|⟨g,c,cur,hv,ev,hg,hr⟩
 .exact .inl h2
 .exact .inr ⟨g,c,cur,hv,ev,by rw[hb.block g (BY.1 hg).1];exact hg,hr⟩
theorem cH.base{b b':Nat}{w:World}{v:Value}{ms:List bL}(h:cH b w v ms)(hb:b'<=b):cH b' w v ms:=by
 obtain⟨h1,h2⟩:=h;refine⟨h1,?_⟩;rcases h2 with h2|⟨g,c,cur,hv,ev,hr⟩
 .exact .inl h2
 .exact .inr ⟨g,c,cur,hv,Iq hb ev,hr⟩
theorem cH.lt{base:Nat}{w:World}{v:Value}{ms:List bL}(h:cH base w v ms)(k:Nat)(hk:v.ownBlock=AI k):base<=k/\k<w.heap.size:=World.ownsRow.lt h k hk
theorem cH.slice{base:Nat}{w:World}{v:Value}{ms:List bL}(h:cH base w v ms):∃a c,v=J a ms.length c:=by
 rcases h.2 with⟨rfl,h0⟩|⟨g,c,cur,rfl,_⟩
 .exact⟨be,0,by rw[h0]⟩
 .exact⟨_,c,rfl⟩
theorem Tryz.vF:(Tryz.prog.info? 111).map (λi=>(i.zero,i.size,i.bytes))=AI (AI (.agg #[Y ⟨#[]⟩,U O 0,U O 0,U O 0,Ia false,U O 0]),6,56):=by kernel_rfl
theorem FQ{rs:List bL}{w:World}{b off:Nat}(hr:mK w b off rs){j:Nat}{u:Value}(hj:(eQ rs)[j]?=AI u):w.cell? ⟨b,off+j,be⟩=AI u:=by
 have Rh:j<rs.length*6:=by rw[<- dX];exact(List.getElem?_eq_some_iff.1 hj).1
 have h1:=lN rs (j/6) (by omega) (j%6) (by omega);rw[show j/6*6+j%6=j by omega,hj] at h1;obtain⟨c0,c1,c2,c3,c4,c5⟩:=hr (j/6) (by omega);have b9:j%6=0\/j%6=1\/j%6=2\/j%6=3\/j%6=4\/j%6=5:=by omega
 rcases b9 with e|e|e|e|e|e
 .rw[show off+j=off+j/6*6 by omega,c0];rw[e] at h1;simpa[bL.cs] using h1.symm
 .rw[show off+j=off+j/6*6+1 by omega,c1];rw[e] at h1;simpa[bL.cs] using h1.symm
 .rw[show off+j=off+j/6*6+2 by omega,c2];rw[e] at h1;simpa[bL.cs] using h1.symm
 .rw[show off+j=off+j/6*6+3 by omega,c3];rw[e] at h1;simpa[bL.cs] using h1.symm
 .rw[show off+j=off+j/6*6+4 by omega,c4];rw[e] at h1;simpa[bL.cs] using h1.symm
 .rw[show off+j=off+j/6*6+5 by omega,c5];rw[e] at h1;simpa[bL.cs] using h1.symm
theorem fX(rs:List bL)(v:Value)(w:World)(h:mJ w v rs)(hn:rs.length<=1000) :
 Calls AS 58 #[v] w λe w'=>∃v',e=By v'/\cH w.heap.size w' v' rs/\Below w.heap.size w w':=by
 obtain⟨a,cap,rfl,hs,h⟩:=h;obtain⟨i0,fL,dh,gW,gG⟩:=info_parts Tryz.vF;cases a with
 |none=>
  have he:rs=[]:=by
   rcases h with h|⟨b,off,h,_⟩
   .exact h
   .cases h
  subst he;clear h hs;have gL:=λ(w:World)=>Ju (P:=AS) w 35 111 be 0 cap 0 0 Ob;simp only[List.length_nil,Option.isNone_none] at gL ⊢;go_enter Tryz.func58,Tryz.ntmps58;go_wp2_with fail;go_ret;exact⟨_,rfl,zD _ _,Ib _ _⟩
 |some a=>
  have gL:=λ(w:World)=>Ju (P:=AS) w 35 111 (AI a) rs.length cap 0 0 Ob;simp only[Option.isNone_some] at gL;have hnews:Hid (∀j u,(eQ rs)[j]?=AI u->(w.alloc (.cells #[] 111)).cell? (a.add j)=AI u):=by
   intro j u hj;rcases h with h|⟨b,off,h,hb,hr⟩
   .subst h;simp[eQ] at hj
   .cases h
    rw[Addr.add_lit,World.cell?_alloc_past (w:=w) _ b _ hb];exact FQ hr hj
  have HO:Hid ((w.alloc (.cells #[] 111)).ownsRow w.heap.size 111 6 (J (AI ⟨w.heap.size,0,be⟩) 0 0) 0 []):=World.ownsRow_made w #[] 0 (Ic _) (by unfold Il;omega) rfl;clear h hs;go_enter Tryz.func58,Tryz.ntmps58;go_wp2_with (at_builtin;refine Jd _ rfl _ _ 35 rfl w.heap.size 111 i0 _ 6 56 Ob fL dh gW gG rfl (by omega) _ 0 [] rfl HO.out a rs.length cap (eQ rs) rfl (dX rs) hnews.out (CQ rs) (by unfold Il;omega) (by omega) (by simp) ?_);intro v' w' r1 r2 r3;go_wp2_with fail;go_ret;refine⟨v',rfl,?_,?_⟩
  .simpa using r1
  .exact((Ib _ _).alloc (Ic _) _).grown r2 (by simp) (λk hk=>by simp[Value.ownBlock] at hk;omega)
end Go.Proofs.YtfidhgjmifendaaGreatDoor
namespace Go.Proofs.YtfidhgjmifendaaGreatDoor
open Go.RowKit Go.WideMaps Go.Maps
theorem pj{w:World}{b n:Nat}{D:DataW Unit}(h:w.ownsMap AS 9 (plainElem (H:=Unit) AS 3) b n D){s:ByteArray}(hs:s.size<=Il) :
 ∃c:Int,(Instr.lookup 125 (.map (AI b)) (Y s) true).run AS w=.ok (Ik #[U O c,Ia (Maps.has D (kS s))]) w/\D.atKey (kS s) (.lit (.int O 0))=.lit (.int O c):=by
 obtain⟨v,ps,jM,hv⟩:=h.look_ok DM Tryz.underlying125 (AK _) (plainElem_int ID (by decide)) (keyOf_string_mk Ja hs);obtain⟨c,rfl,hc,_⟩:=plainElem_int_inv ID hv;exact⟨c,jM,congrArg Prod.fst hc⟩
def CR(rs:List bL)(nm:ByteArray):Prop:=∀j,j<rs.length->(rs.getD j dr).m.name≠nm
theorem CS{rs:List bL}{nm:ByteArray}(h:CR rs nm):Maps.has (Dm (eX rs) rs.length) (kS nm)=false:=by
 cases hh:Maps.has (Dm (eX rs) rs.length) (kS nm)
 .rfl
 .obtain⟨j,hj,e⟩:=(qA _ _ _).1 hh
  rw[dD] at e;exact absurd e (h j hj)
theorem My(rs:List bL)(v:Value)(m:Mem)(w:World)(hv:mJ w v rs)(hm:m.name.size<=Il)(h0:dW rs=0)(he:m.e=0)(RB:CR rs m.name)(hl:rs.length<20) :
 Calls AS 168 #[v,.agg #[Y m.name,U O m.state,U O m.aI,U O m.addr,Ia m.server]] w λe w'=>∃v',e=By (Ik #[v',U O 0])/\cH w.heap.size w' v' (rs++[⟨m,0⟩])/\Below w.heap.size w w':=by
 obtain⟨i0,fL,dh,gW,gG⟩:=info_parts Tryz.vF;have HV:Hid (mJ w v rs):=hv;have jQ:=λ(w:World) (h:mJ w v rs)=>fW rs v w h;rw[h0] at jQ;have dO:=λw=>eR m w hm;rw[he] at dO;have HH:Hid _:=CS RB;clear h0 he hv;obtain⟨nm,st,lf,ad,sv⟩:=m;simp only at *;have rO:Below w.heap.size w (w.alloc (.cells #[Y nm,U O st,U O lf,U O ad,Ia sv] 50)):=(Ib _ _).alloc (Ic _) _;go_enter Tryz.func168,Tryz.ntmps168;go_wp2_with fail;refine(jQ _ (HV.out.below rO)).mono ?_;rintro e w1 ⟨rfl,aB⟩;have c1:∀o,w1.cell? ⟨w.heap.size,o,be⟩=#[Y nm,U O st,U O lf,U O ad,Ia sv][o]?:=λo=>by
  rw[aB.cell (p:=⟨w.heap.size,o,be⟩) (by simp)];exact cT rfl
 have aV:Hid _:=rO.trans (aB.mono (by simp));have cZ:w.heap.size<w1.heap.size:=by have:=aB.size;simp at this;omega
 clear aB rO jQ;go_wp2_with fail;refine(dO _).mono ?_;rintro e w2 ⟨rfl,aJ⟩;have c2:∀o,w2.cell? ⟨w.heap.size,o,be⟩=#[Y nm,U O st,U O lf,U O ad,Ia sv][o]?:=λo=>by
  rw[aJ.cell (p:=⟨w.heap.size,o,be⟩) (by simp only;omega)];exact c1 o
 have bp:Hid _:=aV.out.trans (aJ.mono aV.out.size);have nF:w.heap.size<w2.heap.size:=by have:=aJ.size;omega
 clear aJ c1 cZ aV dO;go_wp2_with fail;refine(fX rs v _ (HV.out.below bp.out) (by omega)).mono ?_;rintro e w3 ⟨v3,rfl,lh,bV⟩;have dY:Hid (cH _ _ _ _):=lh;have c3:w3.cell? ⟨w.heap.size,0,be⟩=AI (Y nm):=by
  rw[bV.cell (p:=⟨w.heap.size,0,be⟩) (by simp only;omega)];exact c2 0
 have C3:Hid (∀o,w3.cell? ⟨w.heap.size,o,be⟩=#[Y nm,U O st,U O lf,U O ad,Ia sv][o]?):=λo=>by
  rw[bV.cell (p:=⟨w.heap.size,o,be⟩) (by simp only;omega)];exact c2 o
 have cj:Hid _:=bp.out.trans (bV.mono bp.out.size);have qi:w.heap.size<w3.heap.size:=by have:=bV.size;omega
 have RC:=bV.size;clear bV lh c2;go_wp2_with fail;go_region_held3 (λw'=>w'.cell? ⟨w.heap.size,0,be⟩=AI (Y nm)) (first|assumption|go_keep) (first|(go_at_call 126;refine(pd rs v _ ((HV.out.below cj.out).below (Ib _ _).drew) (by omega)).mono ?_;rintro e w4 ⟨rfl,hown,eO⟩;obtain⟨cq,jM,cv⟩:=pj hown hm;rw[HH.out] at jM;have rh:(Instr.lookup 125 (.map (AI w3.heap.size)) (Y nm) true).run AS w4=.ok (Ik #[U O cq,Ia false]) w4:=jM;clear jM cv hown;have eP:Hid (Below w3.heap.size w3 w4):=(Ib w3.heap.size w3).drew.trans eO;have hS:w4.cell? ⟨w.heap.size,0,be⟩=AI (Y nm):=((eO.cell (p:=⟨w.heap.size,0,be⟩) qi).trans c3);clear eO))
 obtain⟨a3,DU,zd⟩:=dY.out.slice;subst zd;have C4:∀o,w4.cell? ⟨w.heap.size,o,be⟩=#[Y nm,U O st,U O lf,U O ad,Ia sv][o]?:=λo=>by
  rw[eP.out.cell (p:=⟨w.heap.size,o,be⟩) qi];exact C3.out o
 have nH:Hid (cH _ _ _ _):=dY.out.below eP.out;have gE:Hid _:=cj.out.trans (eP.out.mono cj.out.size);have jc:w2.heap.size<=w4.heap.size:=by have:=eP.out.size;omega
 have uL:Hid (∀ob,(w4.alloc ob).ownsRow w2.heap.size 111 6 (J a3 rs.length DU) rs.length (eQ rs)):=λob=>nH.out.below ((Ib _ _).alloc (Ic _) _);have LG:Hid (∀k,(Value.slice a3 rs.length DU).ownBlock=AI k->w.heap.size<=k):=λk hk=>by have:=(nH.out.lt k hk).1;omega
 have HSN:Hid (∀(w':World) (v':Value),w'.ownsRow w2.heap.size 111 6 v' (rs.length+1) (eQ rs++(bL.mk ⟨nm,st,lf,ad,sv⟩ 0).cs)->cH w.heap.size w' v' (rs++[⟨⟨nm,st,lf,ad,sv⟩,0⟩])):=λw' v' h=>(vI h).base (by omega);clear dY C3 eP cj c3 rh nH;generalize hN:rs.length=n at *;have HN:Hid _:=hN;clear hN;go_wp2_with (at_builtin;refine Jd _ rfl _ _ 35 rfl w2.heap.size 111 i0 _ 6 56 Ob fL dh gW gG rfl (by omega) _ n (eQ rs) rfl ?hown ⟨w4.heap.size,0,be⟩ 1 1 (bL.mk ⟨nm,st,lf,ad,sv⟩ 0).cs rfl rfl ?hnews (wW _) ?h63 ?hbytes ?hbase ?_)
 case hown=>exact uL.out _
 case hnews=>(intro j u hj;rw[Addr.add_lit];exact(ae (heap_alloc_new w4 (.cells #[Y nm,U O st,U O lf,U O ad,Ia sv,U O 0] 111)) (0+j)).trans (by simpa[bL.cs] using hj))
 case h63=>(unfold Il;omega)
 case hbytes=>omega
 case hbase=>(simp;omega)
 intro v' w5 r1 r2 r3;have R1:Hid (cH _ _ _ _):=HSN.out w5 v' r1;have R2:Hid _:=(gE.out.alloc gE.out.size _).grown r2 (by have:=gE.out.size;simp;omega) (λk hk=>LG.out k hk);clear r1 r2 r3;go_wp2_with fail;go_ret2;exact⟨v',rfl,R1.out,R2.out⟩
end Go.Proofs.YtfidhgjmifendaaGreatDoor
namespace Go.Proofs.YtfidhgjmifendaaGreatDoor
open Go.RowKit
theorem Tryz.Wv:(Tryz.prog.info? 3).map (λi=>(i.zero,i.size,i.bytes))=AI (AI (U O 0),1,8):=by kernel_rfl
theorem pI{base g c n:Nat}{w:World}{rs:List bL}(h:w.ownsRow base 111 6 (J (AI ⟨g,0,be⟩) n c) rs.length (eQ rs)):mK w g 0 rs:=by
 rcases h.2 with⟨hv,_⟩|⟨g',c',cur,hv,ev,hg,fG,dO,b9,bf⟩
 .cases hv
 .simp only[Value.slice.injEq,Option.some.injEq,Addr.mk.injEq,and_true] at hv
  obtain⟨rfl,_,_⟩:=hv;intro j hj;have hc:∀t,t<6->w.cell? ⟨g,0+j*6+t,be⟩=(rs.getD j dr).cs[t]?:=λt ht=>by
   rw[ae hg,<- lN rs j hj t ht,<- bf,IL (by omega)];simp
  exact⟨hc 0 (by omega),hc 1 (by omega),hc 2 (by omega),hc 3 (by omega),hc 4 (by omega),hc 5 (by omega)⟩
end Go.Proofs.YtfidhgjmifendaaGreatDoor
