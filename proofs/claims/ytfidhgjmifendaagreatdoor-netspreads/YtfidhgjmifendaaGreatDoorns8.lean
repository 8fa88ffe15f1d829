import Derived.Test.YtfidhgjmifendaaGreatDoorns7
set_option maxHeartbeats 800000
set_option maxRecDepth 100000
open Go.Value renaming string→Y,int→U,slice→J
open Go.IntKind renaming i64→O
open Option renaming some→AI,none→be
open Nat renaming not_lt_zero→Jv,lt_succ_iff_lt_or_eq→Jh
open Go.Sort renaming grow→Im
open Go renaming redrawn→Iz,cell_regrown→Iq,wp_region_quiet_below→IG
namespace Go.Proofs.YtfidhgjmifendaaGreatDoor
namespace Wh
open Go.RowKit
theorem CQ(a b:bK)(w:World) :
 kL 163 #[.agg #[Y a.node,U O a.x,U O a.y,U O a.z,U O a.h,U O a.s],.agg #[Y b.node,U O b.x,U O b.y,U O b.z,U O b.h,U O b.s]] w (U O (ord a b)):=by
 go_enter Tryz.func163,Tryz.ntmps163;go_wp2_with (go_at_call 49;refine(gE _ _ _).mono ?_;rintro e w' ⟨rfl,rfl⟩);go_ret;exact⟨rfl,((Below.refl _ _).alloc (Nat.le_refl _) _).alloc (by simp) _⟩
theorem CR(ms:List bK)(b off cap:Nat)(w:World)(hr:Row w b off ms)(hb:b<w.heap.size)(hn:ms.length<=20) :
 aI 164 #[J (AI ⟨b,off,be⟩) ms.length cap,.func (.func 163) #[] #[]] w λe w'=>e=.returned (.bool (aM ms))/\Below w.heap.size w w':=by
 have HR:Hid (Row w b off ms):=hr;clear hr;have H4:Hid (∀k,k+1<ms.length->0<=ord (ms.getD k dm) (ms.getD (k+1) dm)->aM ms=false):=λk hk hl=>by
  rcases h:aM ms with _|_
  .rfl
  .have:=fE ms h k hk;omega
 have H0:Hid _:=fD ms;generalize hN:ms.length=n at *;have HN:Hid _:=hN;clear hN;generalize hC:aM ms=res at *;have HC:Hid _:=hC;clear hC;go_enter Tryz.func164,Tryz.ntmps164;go_wp2_with fail;go_loopw [5] (λi w'=>∃k:Nat,(k+1<=n\/k=0)/\i=U O (k+1)/\Below w.heap.size w w'/\Hid (∀j,j<k->ord (ms.getD j dm) (ms.getD (j+1) dm)<0)) (λi _=>n-(intOf i).toNat)
 case atStart=>exact⟨0,.inr rfl,rfl,Below.refl _ _,λj h=>absurd h (Jv _)⟩
 case round=>
  obtain⟨q,hq,rfl,aR,hz⟩:=hrel;obtain⟨eM,nQ⟩:=cC aR;have cI:=aR.size;by_cases aX:q+1<n
  .obtain⟨c0,c1,c2,c3,c4,c5⟩:=HR.out q (by rw[HN.out];omega)
   obtain⟨d0,d1,d2,d3,d4,d5⟩:=HR.out (q+1) (by rw[HN.out];exact aX);have HK:Hid (0<=ord (ms.getD q dm) (ms.getD (q+1) dm)->res=false):=λh=>H4.out q aX h;have HZ:Hid (ord (ms.getD q dm) (ms.getD (q+1) dm)<0->∀j,j<q+1->ord (ms.getD j dm) (ms.getD (j+1) dm)<0):=λh j hj=>by
    rcases Jh.1 hj with h2|rfl
    .exact hz.out j h2
    .exact h
   generalize ms.getD q dm=m1 at *;generalize ms.getD (q+1) dm=m2 at *;have hN:∀d os,aI 163 #[.agg #[Y m1.node,U O m1.x,U O m1.y,U O m1.z,U O m1.h,U O m1.s],.agg #[Y m2.node,U O m2.x,U O m2.y,U O m2.z,U O m2.h,U O m2.s]] (Im (Iz wr d) os) λe fT=>e=.returned (U O (ord m1 m2))/\∃p:Regrown,fT=Im (Iz wr p.d) p.os:=λd os=>Calls.regrown_of (CQ m1 m2 _);have F0:∀d os,(Im (Iz wr d) os).cell? ⟨b,off+q*6,be⟩=AI (Y m1.node):=Iq ((eM _ _ hb).trans c0);have F1:∀d os,(Im (Iz wr d) os).cell? ⟨b,off+q*6+1,be⟩=AI (U O m1.x):=Iq ((eM _ _ hb).trans c1);have F2:∀d os,(Im (Iz wr d) os).cell? ⟨b,off+q*6+2,be⟩=AI (U O m1.y):=Iq ((eM _ _ hb).trans c2);have F3:∀d os,(Im (Iz wr d) os).cell? ⟨b,off+q*6+3,be⟩=AI (U O m1.z):=Iq ((eM _ _ hb).trans c3);have F4:∀d os,(Im (Iz wr d) os).cell? ⟨b,off+q*6+4,be⟩=AI (U O m1.h):=Iq ((eM _ _ hb).trans c4);have F5:∀d os,(Im (Iz wr d) os).cell? ⟨b,off+q*6+5,be⟩=AI (U O m1.s):=Iq ((eM _ _ hb).trans c5);have G0:∀d os,(Im (Iz wr d) os).cell? ⟨b,off+(q+1)*6,be⟩=AI (Y m2.node):=Iq ((eM _ _ hb).trans d0);have G1:∀d os,(Im (Iz wr d) os).cell? ⟨b,off+(q+1)*6+1,be⟩=AI (U O m2.x):=Iq ((eM _ _ hb).trans d1);have G2:∀d os,(Im (Iz wr d) os).cell? ⟨b,off+(q+1)*6+2,be⟩=AI (U O m2.y):=Iq ((eM _ _ hb).trans d2);have G3:∀d os,(Im (Iz wr d) os).cell? ⟨b,off+(q+1)*6+3,be⟩=AI (U O m2.z):=Iq ((eM _ _ hb).trans d3);have G4:∀d os,(Im (Iz wr d) os).cell? ⟨b,off+(q+1)*6+4,be⟩=AI (U O m2.h):=Iq ((eM _ _ hb).trans d4);have G5:∀d os,(Im (Iz wr d) os).cell? ⟨b,off+(q+1)*6+5,be⟩=AI (U O m2.s):=Iq ((eM _ _ hb).trans d5);clear c0 c1 c2 c3 c4 c5 d0 d1 d2 d3 d4 d5 eM nQ;generalize ord m1 m2=r at *;have GQ:IntKind.i64.wrap (q:Int)=(q:Int):=by rw[IntKind.wrap_i64];omega
   have EF:q<n:=by omega
   have hq1:(q:Int)+1<(n:Int):=by omega
   have hq0:(0:Int)<=(q:Int)+1:=by omega
   have Et:((q:Int)+1).toNat=q+1:=by omega
   by_cases hl:r<0
   .have mJ:¬ (0<=r):=by omega
    go_wp2_with fail;refine IG (by kernel_rfl) (by kernel_rfl) ?_;repeat(quiet_step (exact hN _ _))
    refine bM λdq jL ee=>?_;clear hN F0 F1 F2 F3 F4 F5 G0 G1 G2 G3 G4 G5;go_wp2_with fail;go_roundw
    case rel=>exact⟨q+1,.inl (by omega),by go_num,aR.trans (ee.out.mono cI),HZ.out hl⟩
    case measure=>simp[intOf];omega
   .have mJ:0<=r:=by omega
    have h4:Hid _:=HK.out mJ;go_wp2_with fail;refine IG (by kernel_rfl) (by kernel_rfl) ?_;repeat(quiet_step (exact hN _ _))
    refine bM λdq jL ee=>?_;clear hN F0 F1 F2 F3 F4 F5 G0 G1 G2 G3 G4 G5;go_wp2_with fail;go_ret;exact⟨aW h4.out.symm,aR.trans (ee.out.mono cI)⟩
  .have h0:Hid _:=H0.out λj hj=>hz.out j (by omega)
   go_wp2_with fail;go_ret;exact⟨aW h0.out.symm,aR⟩
theorem iP(ms:List bK)(b off cap:Nat)(w:World)(hr:Row w b off ms)(hb:b<w.heap.size)(hn:ms.length<=20)(hs:∀j,(ms.getD j dm).ok) :
 kL 105 #[J (AI ⟨b,off,be⟩) ms.length cap] w (U O (bl ms)):=by
 have HR:Hid (Row w b off ms):=hr;have HE:Hid (∀k,k<ms.length->(∀j,j<k->(ms.getD j dm).e=0)->(ms.getD k dm).e≠0->bl ms=(ms.getD k dm).e):=λk h1 h2 h3=>tI ms k hn h1 h2 h3;have H4:Hid ((∀j,j<ms.length->(ms.getD j dm).e=0)->bl ms=if aM ms=true then 0 else 4):=λh1=>rM ms hn h1;have K3:Hid (∀w',Below w.heap.size w w'->aI _ _ _ _):=λw' A5=>CR ms b off cap w' (hr.later A5 hb) (Nat.lt_of_lt_of_le hb A5.size) hn;clear hr;generalize hN:ms.length=n at *;have HN:Hid _:=hN;clear hN;have HS:Hid _:=hs;clear hs;generalize hC:bl ms=res at *;have HC:Hid _:=hC;clear hC;generalize K5:aM ms=rb at *;have GS:Hid _:=K5;clear K5;go_enter Tryz.func105,Tryz.ntmps105;go_wp2_with fail;go_loopw [12] (λi w'=>∃k:Nat,k<=n/\i=U O k/\Below w.heap.size w w'/\Hid (∀j,j<k->(ms.getD j dm).e=0)) (λi _=>n-(intOf i).toNat)
 case atStart=>exact⟨0,Nat.zero_le _,rfl,Below.refl _ _,λj h=>absurd h (Jv _)⟩
 case round=>
  obtain⟨k,hk,rfl,aR,hz⟩:=hrel;obtain⟨eM,nQ⟩:=cC aR;have cI:=aR.size;by_cases aX:k<n
  .obtain⟨c0,c1,c2,c3,c4,c5⟩:=HR.out k (by rw[HN.out];exact aX)
   have DK:Hid _:=HS.out k;have HK:Hid ((ms.getD k dm).e≠0->res=(ms.getD k dm).e):=λh=>HE.out k aX hz.out h;have HZ:Hid ((ms.getD k dm).e=0->∀j,j<k+1->(ms.getD j dm).e=0):=λh j hj=>by
    rcases Jh.1 hj with h2|rfl
    .exact hz.out j h2
    .exact h
   generalize ms.getD k dm=m at *;have PC:=DK.out;have HD:Hid (m.e=if bc m.node=true then ed ⟨m.x,m.y,m.z,m.h,m.s⟩ else 1):=rfl;generalize m.e=me at *;have TD:Hid (Below w.heap.size w (wr.alloc (.cells #[Y m.node,U O m.x,U O m.y,U O m.z,U O m.h,U O m.s] 116))):=aR.alloc cI _;rcases h1:bc m.node with _|_
   .have pj:Hid (res=1):=(HK.out (by rw[HD.out];simp[h1])).trans (by rw[HD.out];simp[h1])
    go_wp2_with (go_at_call 53;refine(bV _ _ PC).mono ?_;rintro e w' ⟨rfl,rfl⟩;rw[h1]);go_ret;exact⟨ai pj.out.symm,TD.out⟩
   .have HP:Hid (∀W,aI _ _ _ _):=λW=>lW ⟨m.x,m.y,m.z,m.h,m.s⟩ W
    have Nr:Hid (me=ed ⟨m.x,m.y,m.z,m.h,m.s⟩):=HD.out.trans (by rw[h1];exact if_pos rfl);generalize ed ⟨m.x,m.y,m.z,m.h,m.s⟩=pe at *;rcases he:decide (pe=0) with _|_
    .have kW:(pe !=0)=true:=by simpa using he
     have pj:Hid _:=(HK.out (by rw[Nr.out];simpa using he)).trans Nr.out;clear he;go_wp2_with (first|(go_at_call 53;refine(bV _ _ PC).mono ?_;rintro e w' ⟨rfl,rfl⟩;rw[h1])|(go_at_call 101;refine(HP.out _).mono ?_;rintro e w' ⟨rfl,aK⟩));go_ret;exact⟨ai pj.out.symm,TD.out.trans (aK.mono (by simp;omega))⟩
    .have kW:(pe !=0)=false:=by simpa using he
     have HM0:Hid _:=Nr.out.trans (by simpa using he);clear he;go_wp2_with (first|(go_at_call 53;refine(bV _ _ PC).mono ?_;rintro e w' ⟨rfl,rfl⟩;rw[h1])|(go_at_call 101;refine(HP.out _).mono ?_;rintro e w' ⟨rfl,aK⟩));go_roundw
     case rel=>exact⟨k+1,by omega,by go_num,TD.out.trans (aK.mono (by simp;omega)),HZ.out HM0.out⟩
     case measure=>simp[intOf];omega
  .have kK:Hid (∀j,j<n->(ms.getD j dm).e=0):=λj hj=>hz.out j (by omega)
   have pj:Hid _:=H4.out kK.out;clear hz kK H4 HE HC GS;cases rb
   .go_wp2_with (go_at_call 164;refine(K3.out _ aR).mono ?_;rintro e w' ⟨rfl,aK⟩)
    go_ret;exact⟨ai (by rw[pj.out];rfl),aR.trans (aK.mono cI)⟩
   .go_wp2_with (go_at_call 164;refine(K3.out _ aR).mono ?_;rintro e w' ⟨rfl,aK⟩)
    go_ret;exact⟨ai (by rw[pj.out];rfl),aR.trans (aK.mono cI)⟩
theorem gB(a:Option Addr)(n cap:Nat)(w:World)(hn:20<n) :
 aI 105 #[J a n cap] w λe w'=>e=.returned (U O 2)/\w'=w:=by
 go_enter Tryz.func105,Tryz.ntmps105;go_wp2_with fail;go_ret;exact⟨rfl,rfl⟩
theorem gC(a:Option Addr)(cap:Nat)(w:World) :
 aI 105 #[J a 0 cap] w λe w'=>e=.returned (U O 0)/\w'=w:=by
 go_enter Tryz.func105,Tryz.ntmps105;go_wp2_with fail;go_loop [12] (λi=>i=U O 0) (λ_=>0)
 case atStart=>rfl
 case round=>
  subst hrel;go_wp2_with (go_at_call 164;refine(gz _ _ _ _).mono ?_;rintro e w' ⟨rfl,rfl⟩);go_ret;exact⟨rfl,rfl⟩
theorem bq(ms:List bK)(v:Value)(w:World)(h:Sl w v ms) :
 kL 105 #[v] w (U O (bl ms)):=by
 obtain⟨a,cap,rfl,hs,h⟩:=h;by_cases hn:20<ms.length
 .refine(gB a ms.length cap w hn).mono ?_
  rintro e w' ⟨rfl,rfl⟩;exact⟨ai (by rw[bl,if_pos hn]),Below.refl _ _⟩
 .rcases h with rfl|⟨b,off,rfl,hb,hr⟩
  .refine(gC a cap w).mono ?_
   rintro e w' ⟨rfl,rfl⟩;exact⟨rfl,Below.refl _ _⟩
  .exact iP ms b off cap w hr hb (by omega) hs
end Wh
end Go.Proofs.YtfidhgjmifendaaGreatDoor
