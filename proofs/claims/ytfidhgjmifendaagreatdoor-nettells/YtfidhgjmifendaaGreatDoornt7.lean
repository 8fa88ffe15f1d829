import Derived.Test.YtfidhgjmifendaaGreatDoornt6
set_option maxHeartbeats 800000
set_option maxRecDepth 100000
open Go.Value renaming string→Y,int→U,slice→J
open Go.IntKind renaming i64→O
open Option renaming some→AI,none→be
open Nat renaming not_lt_zero→Jq,lt_succ_iff_lt_or_eq→Jc
open Go.Sort renaming grow→Io
open Go renaming redrawn→Iz,cell_regrown→Is,wp_region_quiet_below→IJ
namespace Go.Proofs.YtfidhgjmifendaaGreatDoor
namespace Wh
open Go.RowKit
theorem Cx(a b:bE)(w:World) :
 kx 163 #[.agg #[Y a.node,U O a.x,U O a.y,U O a.z,U O a.h,U O a.s],.agg #[Y b.node,U O b.x,U O b.y,U O b.z,U O b.h,U O b.s]] w (U O (ord a b)):=by
 go_enter Tryz.func163,Tryz.ntmps163;go_wp2_with (go_at_call 49;refine(gn _ _ _).mono ?_;rintro e w' ⟨rfl,rfl⟩);go_ret;exact⟨rfl,((Below.refl _ _).alloc (Nat.le_refl _) _).alloc (by simp) _⟩
theorem Cy(ms:List bE)(b off cap:Nat)(w:World)(hr:Row w b off ms)(hb:b<w.heap.size)(hn:ms.length<=20) :
 aF 164 #[J (AI ⟨b,off,be⟩) ms.length cap,.func (.func 163) #[] #[]] w λe w'=>e=.returned (.bool (aL ms))/\Below w.heap.size w w':=by
 have HR:Hid (Row w b off ms):=hr;clear hr;have H4:Hid (∀k,k+1<ms.length->0<=ord (ms.getD k dm) (ms.getD (k+1) dm)->aL ms=false):=λk hk hl=>by
  rcases h:aL ms with _|_
  .rfl
  .have:=fq ms h k hk;omega
 have H0:Hid _:=fp ms;generalize hN:ms.length=n at *;have HN:Hid _:=hN;clear hN;generalize hC:aL ms=res at *;have HC:Hid _:=hC;clear hC;go_enter Tryz.func164,Tryz.ntmps164;go_wp2_with fail;go_loopw [5] (λi w'=>∃k:Nat,(k+1<=n\/k=0)/\i=U O (k+1)/\Below w.heap.size w w'/\Hid (∀j,j<k->ord (ms.getD j dm) (ms.getD (j+1) dm)<0)) (λi _=>n-(intOf i).toNat)
 case atStart=>exact⟨0,.inr rfl,rfl,Below.refl _ _,λj h=>absurd h (Jq _)⟩
 case round=>
  obtain⟨q,hq,rfl,aN,hz⟩:=hrel;obtain⟨eG,nz⟩:=cz aN;have cF:=aN.size;by_cases aW:q+1<n
  .obtain⟨c0,c1,c2,c3,c4,c5⟩:=HR.out q (by rw[HN.out];omega)
   obtain⟨d0,d1,d2,d3,d4,d5⟩:=HR.out (q+1) (by rw[HN.out];exact aW);have HK:Hid (0<=ord (ms.getD q dm) (ms.getD (q+1) dm)->res=false):=λh=>H4.out q aW h;have HZ:Hid (ord (ms.getD q dm) (ms.getD (q+1) dm)<0->∀j,j<q+1->ord (ms.getD j dm) (ms.getD (j+1) dm)<0):=λh j hj=>by
    rcases Jc.1 hj with h2|rfl
    .exact hz.out j h2
    .exact h
   generalize ms.getD q dm=m1 at *;generalize ms.getD (q+1) dm=m2 at *;have hN:∀d os,aF 163 #[.agg #[Y m1.node,U O m1.x,U O m1.y,U O m1.z,U O m1.h,U O m1.s],.agg #[Y m2.node,U O m2.x,U O m2.y,U O m2.z,U O m2.h,U O m2.s]] (Io (Iz wr d) os) λe gD=>e=.returned (U O (ord m1 m2))/\∃p:Regrown,gD=Io (Iz wr p.d) p.os:=λd os=>Calls.regrown_of (Cx m1 m2 _);have F0:∀d os,(Io (Iz wr d) os).cell? ⟨b,off+q*6,be⟩=AI (Y m1.node):=Is ((eG _ _ hb).trans c0);have F1:∀d os,(Io (Iz wr d) os).cell? ⟨b,off+q*6+1,be⟩=AI (U O m1.x):=Is ((eG _ _ hb).trans c1);have F2:∀d os,(Io (Iz wr d) os).cell? ⟨b,off+q*6+2,be⟩=AI (U O m1.y):=Is ((eG _ _ hb).trans c2);have F3:∀d os,(Io (Iz wr d) os).cell? ⟨b,off+q*6+3,be⟩=AI (U O m1.z):=Is ((eG _ _ hb).trans c3);have F4:∀d os,(Io (Iz wr d) os).cell? ⟨b,off+q*6+4,be⟩=AI (U O m1.h):=Is ((eG _ _ hb).trans c4);have F5:∀d os,(Io (Iz wr d) os).cell? ⟨b,off+q*6+5,be⟩=AI (U O m1.s):=Is ((eG _ _ hb).trans c5);have G0:∀d os,(Io (Iz wr d) os).cell? ⟨b,off+(q+1)*6,be⟩=AI (Y m2.node):=Is ((eG _ _ hb).trans d0);have G1:∀d os,(Io (Iz wr d) os).cell? ⟨b,off+(q+1)*6+1,be⟩=AI (U O m2.x):=Is ((eG _ _ hb).trans d1);have G2:∀d os,(Io (Iz wr d) os).cell? ⟨b,off+(q+1)*6+2,be⟩=AI (U O m2.y):=Is ((eG _ _ hb).trans d2);have G3:∀d os,(Io (Iz wr d) os).cell? ⟨b,off+(q+1)*6+3,be⟩=AI (U O m2.z):=Is ((eG _ _ hb).trans d3);have G4:∀d os,(Io (Iz wr d) os).cell? ⟨b,off+(q+1)*6+4,be⟩=AI (U O m2.h):=Is ((eG _ _ hb).trans d4);have G5:∀d os,(Io (Iz wr d) os).cell? ⟨b,off+(q+1)*6+5,be⟩=AI (U O m2.s):=Is ((eG _ _ hb).trans d5);clear c0 c1 c2 c3 c4 c5 d0 d1 d2 d3 d4 d5 eG nz;generalize ord m1 m2=r at *;have Gl:IntKind.i64.wrap (q:Int)=(q:Int):=by rw[IntKind.wrap_i64];omega
   have Eg:q<n:=by omega
   have TW:(q:Int)+1<(n:Int):=by omega
   have TX:(0:Int)<=(q:Int)+1:=by omega
   have DZ:((q:Int)+1).toNat=q+1:=by omega
   by_cases hl:r<0
   .have mB:¬ (0<=r):=by omega
    go_wp2_with fail;refine IJ (by kernel_rfl) (by kernel_rfl) ?_;repeat(quiet_step (exact hN _ _))
    refine bN λdq kj ed=>?_;clear hN F0 F1 F2 F3 F4 F5 G0 G1 G2 G3 G4 G5;go_wp2_with fail;go_roundw
    case rel=>exact⟨q+1,.inl (by omega),by go_num,aN.trans (ed.out.mono cF),HZ.out hl⟩
    case measure=>simp[intOf];omega
   .have mB:0<=r:=by omega
    have h4:Hid _:=HK.out mB;go_wp2_with fail;refine IJ (by kernel_rfl) (by kernel_rfl) ?_;repeat(quiet_step (exact hN _ _))
    refine bN λdq kj ed=>?_;clear hN F0 F1 F2 F3 F4 F5 G0 G1 G2 G3 G4 G5;go_wp2_with fail;go_ret;exact⟨ba h4.out.symm,aN.trans (ed.out.mono cF)⟩
  .have h0:Hid _:=H0.out λj hj=>hz.out j (by omega)
   go_wp2_with fail;go_ret;exact⟨ba h0.out.symm,aN⟩
theorem iE(ms:List bE)(b off cap:Nat)(w:World)(hr:Row w b off ms)(hb:b<w.heap.size)(hn:ms.length<=20)(hs:∀j,(ms.getD j dm).ok) :
 kx 105 #[J (AI ⟨b,off,be⟩) ms.length cap] w (U O (bj ms)):=by
 have HR:Hid (Row w b off ms):=hr;have HE:Hid (∀k,k<ms.length->(∀j,j<k->(ms.getD j dm).e=0)->(ms.getD k dm).e≠0->bj ms=(ms.getD k dm).e):=λk h1 h2 h3=>tD ms k hn h1 h2 h3;have H4:Hid ((∀j,j<ms.length->(ms.getD j dm).e=0)->bj ms=if aL ms=true then 0 else 4):=λh1=>ry ms hn h1;have KB:Hid (∀w',Below w.heap.size w w'->aF _ _ _ _):=λw' AD=>Cy ms b off cap w' (hr.later AD hb) (Nat.lt_of_lt_of_le hb AD.size) hn;clear hr;generalize hN:ms.length=n at *;have HN:Hid _:=hN;clear hN;have HS:Hid _:=hs;clear hs;generalize hC:bj ms=res at *;have HC:Hid _:=hC;clear hC;generalize KC:aL ms=rb at *;have LQ:Hid _:=KC;clear KC;go_enter Tryz.func105,Tryz.ntmps105;go_wp2_with fail;go_loopw [12] (λi w'=>∃k:Nat,k<=n/\i=U O k/\Below w.heap.size w w'/\Hid (∀j,j<k->(ms.getD j dm).e=0)) (λi _=>n-(intOf i).toNat)
 case atStart=>exact⟨0,Nat.zero_le _,rfl,Below.refl _ _,λj h=>absurd h (Jq _)⟩
 case round=>
  obtain⟨k,hk,rfl,aN,hz⟩:=hrel;obtain⟨eG,nz⟩:=cz aN;have cF:=aN.size;by_cases aW:k<n
  .obtain⟨c0,c1,c2,c3,c4,c5⟩:=HR.out k (by rw[HN.out];exact aW)
   have Dn:Hid _:=HS.out k;have HK:Hid ((ms.getD k dm).e≠0->res=(ms.getD k dm).e):=λh=>HE.out k aW hz.out h;have HZ:Hid ((ms.getD k dm).e=0->∀j,j<k+1->(ms.getD j dm).e=0):=λh j hj=>by
    rcases Jc.1 hj with h2|rfl
    .exact hz.out j h2
    .exact h
   generalize ms.getD k dm=m at *;have N8:=Dn.out;have HD:Hid (m.e=if bb m.node=true then dZ ⟨m.x,m.y,m.z,m.h,m.s⟩ else 1):=rfl;generalize m.e=me at *;have Ts:Hid (Below w.heap.size w (wr.alloc (.cells #[Y m.node,U O m.x,U O m.y,U O m.z,U O m.h,U O m.s] 116))):=aN.alloc cF _;rcases h1:bb m.node with _|_
   .have oI:Hid (res=1):=(HK.out (by rw[HD.out];simp[h1])).trans (by rw[HD.out];simp[h1])
    go_wp2_with (go_at_call 53;refine(bR _ _ N8).mono ?_;rintro e w' ⟨rfl,rfl⟩;rw[h1]);go_ret;exact⟨ai oI.out.symm,Ts.out⟩
   .have HP:Hid (∀W,aF _ _ _ _):=λW=>lJ ⟨m.x,m.y,m.z,m.h,m.s⟩ W
    have MN:Hid (me=dZ ⟨m.x,m.y,m.z,m.h,m.s⟩):=HD.out.trans (by rw[h1];exact if_pos rfl);generalize dZ ⟨m.x,m.y,m.z,m.h,m.s⟩=pe at *;rcases he:decide (pe=0) with _|_
    .have kJ:(pe !=0)=true:=by simpa using he
     have oI:Hid _:=(HK.out (by rw[MN.out];simpa using he)).trans MN.out;clear he;go_wp2_with (first|(go_at_call 53;refine(bR _ _ N8).mono ?_;rintro e w' ⟨rfl,rfl⟩;rw[h1])|(go_at_call 101;refine(HP.out _).mono ?_;rintro e w' ⟨rfl,aJ⟩));go_ret;exact⟨ai oI.out.symm,Ts.out.trans (aJ.mono (by simp;omega))⟩
    .have kJ:(pe !=0)=false:=by simpa using he
     have HM0:Hid _:=MN.out.trans (by simpa using he);clear he;go_wp2_with (first|(go_at_call 53;refine(bR _ _ N8).mono ?_;rintro e w' ⟨rfl,rfl⟩;rw[h1])|(go_at_call 101;refine(HP.out _).mono ?_;rintro e w' ⟨rfl,aJ⟩));go_roundw
     case rel=>exact⟨k+1,by omega,by go_num,Ts.out.trans (aJ.mono (by simp;omega)),HZ.out HM0.out⟩
     case measure=>simp[intOf];omega
  .have ku:Hid (∀j,j<n->(ms.getD j dm).e=0):=λj hj=>hz.out j (by omega)
   have oI:Hid _:=H4.out ku.out;clear hz ku H4 HE HC LQ;cases rb
   .go_wp2_with (go_at_call 164;refine(KB.out _ aN).mono ?_;rintro e w' ⟨rfl,aJ⟩)
    go_ret;exact⟨ai (by rw[oI.out];rfl),aN.trans (aJ.mono cF)⟩
   .go_wp2_with (go_at_call 164;refine(KB.out _ aN).mono ?_;rintro e w' ⟨rfl,aJ⟩)
    go_ret;exact⟨ai (by rw[oI.out];rfl),aN.trans (aJ.mono cF)⟩
theorem gl(a:Option Addr)(n cap:Nat)(w:World)(hn:20<n) :
 aF 105 #[J a n cap] w λe w'=>e=.returned (U O 2)/\w'=w:=by
 go_enter Tryz.func105,Tryz.ntmps105;go_wp2_with fail;go_ret;exact⟨rfl,rfl⟩
theorem gm(a:Option Addr)(cap:Nat)(w:World) :
 aF 105 #[J a 0 cap] w λe w'=>e=.returned (U O 0)/\w'=w:=by
 go_enter Tryz.func105,Tryz.ntmps105;go_wp2_with fail;go_loop [12] (λi=>i=U O 0) (λ_=>0)
 case atStart=>rfl
 case round=>
  subst hrel;go_wp2_with (go_at_call 164;refine(gj _ _ _ _).mono ?_;rintro e w' ⟨rfl,rfl⟩);go_ret;exact⟨rfl,rfl⟩
theorem bo(ms:List bE)(v:Value)(w:World)(h:Sl w v ms) :
 kx 105 #[v] w (U O (bj ms)):=by
 obtain⟨a,cap,rfl,hs,h⟩:=h;by_cases hn:20<ms.length
 .refine(gl a ms.length cap w hn).mono ?_
  rintro e w' ⟨rfl,rfl⟩;exact⟨ai (by rw[bj,if_pos hn]),Below.refl _ _⟩
 .rcases h with rfl|⟨b,off,rfl,hb,hr⟩
  .refine(gm a cap w).mono ?_
   rintro e w' ⟨rfl,rfl⟩;exact⟨rfl,Below.refl _ _⟩
  .exact iE ms b off cap w hr hb (by omega) hs
end Wh
end Go.Proofs.YtfidhgjmifendaaGreatDoor
