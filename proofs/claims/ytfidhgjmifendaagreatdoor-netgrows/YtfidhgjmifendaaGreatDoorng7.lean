import Derived.Test.YtfidhgjmifendaaGreatDoorng6
set_option maxHeartbeats 800000
set_option maxRecDepth 100000
open Go.Value renaming string→Y,int→U,slice→J
open Go.IntKind renaming i64→O
open Option renaming some→AI,none→be
open Nat renaming not_lt_zero→Jl,lt_succ_iff_lt_or_eq→I8
open Go.Sort renaming grow→Ij
open Go renaming redrawn→Iv,cell_regrown→Ig,wp_region_quiet_below→IA
namespace Go.Proofs.YtfidhgjmifendaaGreatDoor
namespace Wh
open Go.RowKit
theorem Cw(a b:bJ)(w:World) :
 kt 163 #[.agg #[Y a.node,U O a.x,U O a.y,U O a.z,U O a.h,U O a.s],.agg #[Y b.node,U O b.x,U O b.y,U O b.z,U O b.h,U O b.s]] w (U O (ord a b)):=by
 go_enter Tryz.func163,Tryz.ntmps163;go_wp2_with (go_at_call 49;refine(gr _ _ _).mono ?_;rintro e w' ⟨rfl,rfl⟩);go_ret;exact⟨rfl,((Below.refl _ _).alloc (Nat.le_refl _) _).alloc (by simp) _⟩
theorem Cx(ms:List bJ)(b off cap:Nat)(w:World)(hr:Row w b off ms)(hb:b<w.heap.size)(hn:ms.length<=20) :
 aF 164 #[J (AI ⟨b,off,be⟩) ms.length cap,.func (.func 163) #[] #[]] w λe w'=>e=.returned (.bool (aK ms))/\Below w.heap.size w w':=by
 have HR:Hid (Row w b off ms):=hr;clear hr;have H4:Hid (∀k,k+1<ms.length->0<=ord (ms.getD k dm) (ms.getD (k+1) dm)->aK ms=false):=λk hk hl=>by
  rcases h:aK ms with _|_
  .rfl
  .have:=fq ms h k hk;omega
 have H0:Hid _:=fp ms;generalize hN:ms.length=n at *;have HN:Hid _:=hN;clear hN;generalize hC:aK ms=res at *;have HC:Hid _:=hC;clear hC;go_enter Tryz.func164,Tryz.ntmps164;go_wp2_with fail;go_loopw [5] (λi w'=>∃k:Nat,(k+1<=n\/k=0)/\i=U O (k+1)/\Below w.heap.size w w'/\Hid (∀j,j<k->ord (ms.getD j dm) (ms.getD (j+1) dm)<0)) (λi _=>n-(intOf i).toNat)
 case atStart=>exact⟨0,.inr rfl,rfl,Below.refl _ _,λj h=>absurd h (Jl _)⟩
 case round=>
  obtain⟨q,hq,rfl,aN,hz⟩:=hrel;obtain⟨eG,nt⟩:=cj aN;have cC:=aN.size;by_cases aR:q+1<n
  .obtain⟨c0,c1,c2,c3,c4,c5⟩:=HR.out q (by rw[HN.out];omega)
   obtain⟨d0,d1,d2,d3,d4,d5⟩:=HR.out (q+1) (by rw[HN.out];exact aR);have HK:Hid (0<=ord (ms.getD q dm) (ms.getD (q+1) dm)->res=false):=λh=>H4.out q aR h;have HZ:Hid (ord (ms.getD q dm) (ms.getD (q+1) dm)<0->∀j,j<q+1->ord (ms.getD j dm) (ms.getD (j+1) dm)<0):=λh j hj=>by
    rcases I8.1 hj with h2|rfl
    .exact hz.out j h2
    .exact h
   generalize ms.getD q dm=m1 at *;generalize ms.getD (q+1) dm=m2 at *;have hN:∀d os,aF 163 #[.agg #[Y m1.node,U O m1.x,U O m1.y,U O m1.z,U O m1.h,U O m1.s],.agg #[Y m2.node,U O m2.x,U O m2.y,U O m2.z,U O m2.h,U O m2.s]] (Ij (Iv wr d) os) λe fD=>e=.returned (U O (ord m1 m2))/\∃p:Regrown,fD=Ij (Iv wr p.d) p.os:=λd os=>Calls.regrown_of (Cw m1 m2 _);have F0:∀d os,(Ij (Iv wr d) os).cell? ⟨b,off+q*6,be⟩=AI (Y m1.node):=Ig ((eG _ _ hb).trans c0);have F1:∀d os,(Ij (Iv wr d) os).cell? ⟨b,off+q*6+1,be⟩=AI (U O m1.x):=Ig ((eG _ _ hb).trans c1);have F2:∀d os,(Ij (Iv wr d) os).cell? ⟨b,off+q*6+2,be⟩=AI (U O m1.y):=Ig ((eG _ _ hb).trans c2);have F3:∀d os,(Ij (Iv wr d) os).cell? ⟨b,off+q*6+3,be⟩=AI (U O m1.z):=Ig ((eG _ _ hb).trans c3);have F4:∀d os,(Ij (Iv wr d) os).cell? ⟨b,off+q*6+4,be⟩=AI (U O m1.h):=Ig ((eG _ _ hb).trans c4);have F5:∀d os,(Ij (Iv wr d) os).cell? ⟨b,off+q*6+5,be⟩=AI (U O m1.s):=Ig ((eG _ _ hb).trans c5);have G0:∀d os,(Ij (Iv wr d) os).cell? ⟨b,off+(q+1)*6,be⟩=AI (Y m2.node):=Ig ((eG _ _ hb).trans d0);have G1:∀d os,(Ij (Iv wr d) os).cell? ⟨b,off+(q+1)*6+1,be⟩=AI (U O m2.x):=Ig ((eG _ _ hb).trans d1);have G2:∀d os,(Ij (Iv wr d) os).cell? ⟨b,off+(q+1)*6+2,be⟩=AI (U O m2.y):=Ig ((eG _ _ hb).trans d2);have G3:∀d os,(Ij (Iv wr d) os).cell? ⟨b,off+(q+1)*6+3,be⟩=AI (U O m2.z):=Ig ((eG _ _ hb).trans d3);have G4:∀d os,(Ij (Iv wr d) os).cell? ⟨b,off+(q+1)*6+4,be⟩=AI (U O m2.h):=Ig ((eG _ _ hb).trans d4);have G5:∀d os,(Ij (Iv wr d) os).cell? ⟨b,off+(q+1)*6+5,be⟩=AI (U O m2.s):=Ig ((eG _ _ hb).trans d5);clear c0 c1 c2 c3 c4 c5 d0 d1 d2 d3 d4 d5 eG nt;generalize ord m1 m2=r at *;have Gt:IntKind.i64.wrap (q:Int)=(q:Int):=by rw[IntKind.wrap_i64];omega
   have Ea:q<n:=by omega
   have hq1:(q:Int)+1<(n:Int):=by omega
   have hq0:(0:Int)<=(q:Int)+1:=by omega
   have DW:((q:Int)+1).toNat=q+1:=by omega
   by_cases hl:r<0
   .have mo:¬ (0<=r):=by omega
    go_wp2_with fail;refine IA (by kernel_rfl) (by kernel_rfl) ?_;repeat(quiet_step (exact hN _ _))
    refine bE λdq gT dR=>?_;clear hN F0 F1 F2 F3 F4 F5 G0 G1 G2 G3 G4 G5;go_wp2_with fail;go_roundw
    case rel=>exact⟨q+1,.inl (by omega),by go_num,aN.trans (dR.out.mono cC),HZ.out hl⟩
    case measure=>simp[intOf];omega
   .have mo:0<=r:=by omega
    have h4:Hid _:=HK.out mo;go_wp2_with fail;refine IA (by kernel_rfl) (by kernel_rfl) ?_;repeat(quiet_step (exact hN _ _))
    refine bE λdq gT dR=>?_;clear hN F0 F1 F2 F3 F4 F5 G0 G1 G2 G3 G4 G5;go_wp2_with fail;go_ret;exact⟨aL h4.out.symm,aN.trans (dR.out.mono cC)⟩
  .have h0:Hid _:=H0.out λj hj=>hz.out j (by omega)
   go_wp2_with fail;go_ret;exact⟨aL h0.out.symm,aN⟩
theorem iG(ms:List bJ)(b off cap:Nat)(w:World)(hr:Row w b off ms)(hb:b<w.heap.size)(hn:ms.length<=20)(hs:∀j,(ms.getD j dm).ok) :
 kt 105 #[J (AI ⟨b,off,be⟩) ms.length cap] w (U O (bj ms)):=by
 have HR:Hid (Row w b off ms):=hr;have HE:Hid (∀k,k<ms.length->(∀j,j<k->(ms.getD j dm).e=0)->(ms.getD k dm).e≠0->bj ms=(ms.getD k dm).e):=λk h1 h2 h3=>tC ms k hn h1 h2 h3;have H4:Hid ((∀j,j<ms.length->(ms.getD j dm).e=0)->bj ms=if aK ms=true then 0 else 4):=λh1=>qZ ms hn h1;have KL:Hid (∀w',Below w.heap.size w w'->aF _ _ _ _):=λw' Ay=>Cx ms b off cap w' (hr.later Ay hb) (Nat.lt_of_lt_of_le hb Ay.size) hn;clear hr;generalize hN:ms.length=n at *;have HN:Hid _:=hN;clear hN;have HS:Hid _:=hs;clear hs;generalize hC:bj ms=res at *;have HC:Hid _:=hC;clear hC;generalize KM:aK ms=rb at *;have L8:Hid _:=KM;clear KM;go_enter Tryz.func105,Tryz.ntmps105;go_wp2_with fail;go_loopw [12] (λi w'=>∃k:Nat,k<=n/\i=U O k/\Below w.heap.size w w'/\Hid (∀j,j<k->(ms.getD j dm).e=0)) (λi _=>n-(intOf i).toNat)
 case atStart=>exact⟨0,Nat.zero_le _,rfl,Below.refl _ _,λj h=>absurd h (Jl _)⟩
 case round=>
  obtain⟨k,hk,rfl,aN,hz⟩:=hrel;obtain⟨eG,nt⟩:=cj aN;have cC:=aN.size;by_cases aR:k<n
  .obtain⟨c0,c1,c2,c3,c4,c5⟩:=HR.out k (by rw[HN.out];exact aR)
   have Dl:Hid _:=HS.out k;have HK:Hid ((ms.getD k dm).e≠0->res=(ms.getD k dm).e):=λh=>HE.out k aR hz.out h;have HZ:Hid ((ms.getD k dm).e=0->∀j,j<k+1->(ms.getD j dm).e=0):=λh j hj=>by
    rcases I8.1 hj with h2|rfl
    .exact hz.out j h2
    .exact h
   generalize ms.getD k dm=m at *;have Pf:=Dl.out;have HD:Hid (m.e=if ba m.node=true then dZ ⟨m.x,m.y,m.z,m.h,m.s⟩ else 1):=rfl;generalize m.e=me at *;have TC:Hid (Below w.heap.size w (wr.alloc (.cells #[Y m.node,U O m.x,U O m.y,U O m.z,U O m.h,U O m.s] 116))):=aN.alloc cC _;rcases h1:ba m.node with _|_
   .have oB:Hid (res=1):=(HK.out (by rw[HD.out];simp[h1])).trans (by rw[HD.out];simp[h1])
    go_wp2_with (go_at_call 53;refine(bQ _ _ Pf).mono ?_;rintro e w' ⟨rfl,rfl⟩;rw[h1]);go_ret;exact⟨ai oB.out.symm,TC.out⟩
   .have HP:Hid (∀W,aF _ _ _ _):=λW=>lK ⟨m.x,m.y,m.z,m.h,m.s⟩ W
    have M3:Hid (me=dZ ⟨m.x,m.y,m.z,m.h,m.s⟩):=HD.out.trans (by rw[h1];exact if_pos rfl);generalize dZ ⟨m.x,m.y,m.z,m.h,m.s⟩=pe at *;rcases he:decide (pe=0) with _|_
    .have kG:(pe !=0)=true:=by simpa using he
     have oB:Hid _:=(HK.out (by rw[M3.out];simpa using he)).trans M3.out;clear he;go_wp2_with (first|(go_at_call 53;refine(bQ _ _ Pf).mono ?_;rintro e w' ⟨rfl,rfl⟩;rw[h1])|(go_at_call 101;refine(HP.out _).mono ?_;rintro e w' ⟨rfl,aI⟩));go_ret;exact⟨ai oB.out.symm,TC.out.trans (aI.mono (by simp;omega))⟩
    .have kG:(pe !=0)=false:=by simpa using he
     have HM0:Hid _:=M3.out.trans (by simpa using he);clear he;go_wp2_with (first|(go_at_call 53;refine(bQ _ _ Pf).mono ?_;rintro e w' ⟨rfl,rfl⟩;rw[h1])|(go_at_call 101;refine(HP.out _).mono ?_;rintro e w' ⟨rfl,aI⟩));go_roundw
     case rel=>exact⟨k+1,by omega,by go_num,TC.out.trans (aI.mono (by simp;omega)),HZ.out HM0.out⟩
     case measure=>simp[intOf];omega
  .have kp:Hid (∀j,j<n->(ms.getD j dm).e=0):=λj hj=>hz.out j (by omega)
   have oB:Hid _:=H4.out kp.out;clear hz kp H4 HE HC L8;cases rb
   .go_wp2_with (go_at_call 164;refine(KL.out _ aN).mono ?_;rintro e w' ⟨rfl,aI⟩)
    go_ret;exact⟨ai (by rw[oB.out];rfl),aN.trans (aI.mono cC)⟩
   .go_wp2_with (go_at_call 164;refine(KL.out _ aN).mono ?_;rintro e w' ⟨rfl,aI⟩)
    go_ret;exact⟨ai (by rw[oB.out];rfl),aN.trans (aI.mono cC)⟩
theorem gp(a:Option Addr)(n cap:Nat)(w:World)(hn:20<n) :
 aF 105 #[J a n cap] w λe w'=>e=.returned (U O 2)/\w'=w:=by
 go_enter Tryz.func105,Tryz.ntmps105;go_wp2_with fail;go_ret;exact⟨rfl,rfl⟩
theorem gq(a:Option Addr)(cap:Nat)(w:World) :
 aF 105 #[J a 0 cap] w λe w'=>e=.returned (U O 0)/\w'=w:=by
 go_enter Tryz.func105,Tryz.ntmps105;go_wp2_with fail;go_loop [12] (λi=>i=U O 0) (λ_=>0)
 case atStart=>rfl
 case round=>
  subst hrel;go_wp2_with (go_at_call 164;refine(gm _ _ _ _).mono ?_;rintro e w' ⟨rfl,rfl⟩);go_ret;exact⟨rfl,rfl⟩
theorem bo(ms:List bJ)(v:Value)(w:World)(h:Sl w v ms) :
 kt 105 #[v] w (U O (bj ms)):=by
 obtain⟨a,cap,rfl,hs,h⟩:=h;by_cases hn:20<ms.length
 .refine(gp a ms.length cap w hn).mono ?_
  rintro e w' ⟨rfl,rfl⟩;exact⟨ai (by rw[bj,if_pos hn]),Below.refl _ _⟩
 .rcases h with rfl|⟨b,off,rfl,hb,hr⟩
  .refine(gq a cap w).mono ?_
   rintro e w' ⟨rfl,rfl⟩;exact⟨rfl,Below.refl _ _⟩
  .exact iG ms b off cap w hr hb (by omega) hs
end Wh
end Go.Proofs.YtfidhgjmifendaaGreatDoor
