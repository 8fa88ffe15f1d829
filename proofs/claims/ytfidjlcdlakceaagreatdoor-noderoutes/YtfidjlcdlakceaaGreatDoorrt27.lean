import Derived.Test.YtfidjlcdlakceaaGreatDoorrt6
import Derived.Test.YtfidjlcdlakceaaGreatDoorrt20
import Derived.Test.YtfidjlcdlakceaaGreatDoorrt21
import Derived.Test.YtfidjlcdlakceaaGreatDoorrt26
set_option maxHeartbeats 6400000
set_option maxRecDepth 100000
open Go.Value renaming agg→Ip,string→I,int→O,slice→U
open Go.IntKind renaming i64→J
open Go.RowKit.Below renaming refl→Ia
open Nat renaming le_refl→By,not_lt_zero→IP,lt_succ_iff_lt_or_eq→II,zero_le→IF
open Go.Ending renaming returned→sh
open Option renaming some→Z,none→Y
open Go.Sort renaming grow→Im
open Go renaming redrawn→Ix,cell_regrown→Iq,wp_region_quiet_below→IT,maxLen→Ii,plainElem→Jk
open ByteArray renaming empty→If
open Go.Maps renaming has→OK,size→No
open Go.Proofs.Tryz renaming prog→be,underlying223→JG,underlying3→Iz
namespace Go.Proofs.YtfidjlcdlakceaaGreatDoor
namespace Wh
open Go.RowKit
theorem Bq(a b:cd)(w:World) :
 ij 198 #[Ip #[I a.node,O J a.x,O J a.y,O J a.z,O J a.h,O J a.s],Ip #[I b.node,O J b.x,O J b.y,O J b.z,O J b.h,O J b.s]] w (O J (ord a b)):=by
 go_enter Tryz.func198,Tryz.ntmps198;go_wp2_with (go_at_call 110;refine(fC _ _ _).mono ?_;rintro e w' ⟨rfl,rfl⟩);go_ret;exact⟨rfl,((Ia _ _).alloc (By _) _).alloc (by simp) _⟩
theorem Br(ms:List cd)(b off cap:Nat)(w:World)(hr:Row w b off ms)(hb:b<w.heap.size)(hn:ms.length<=20) :
 aT 199 #[U (Z ⟨b,off,Y⟩) ms.length cap,.func (.func 198) #[] #[]] w λe w'=>e=sh (.bool (aC ms))/\Below w.heap.size w w':=by
 have HR:Hid (Row w b off ms):=hr;clear hr;have H4:Hid (∀k,k+1<ms.length->0<=ord (ms.getD k dm) (ms.getD (k+1) dm)->aC ms=false):=λk hk hl=>by
  rcases h:aC ms with _|_
  .rfl
  .have:=dL ms h k hk;omega
 have H0:Hid _:=dM ms;generalize hN:ms.length=n at *;have HN:Hid _:=hN;clear hN;generalize hC:aC ms=res at *;have HC:Hid _:=hC;clear hC;go_enter Tryz.func199,Tryz.ntmps199;go_wp2_with fail;go_loopw [5] (λi w'=>∃k:Nat,(k+1<=n\/k=0)/\i=O J (k+1)/\Below w.heap.size w w'/\Hid (∀j,j<k->ord (ms.getD j dm) (ms.getD (j+1) dm)<0)) (λi _=>n-(intOf i).toNat)
 case atStart=>exact⟨0,.inr rfl,rfl,Ia _ _,λj h=>absurd h (IP _)⟩
 case round=>
  obtain⟨q,hq,rfl,aL,hz⟩:=hrel;obtain⟨dJ,k8⟩:=cD aL;have bb:=aL.size;by_cases aB:q+1<n
  .obtain⟨c0,c1,c2,c3,c4,c5⟩:=HR.out q (by rw[HN.out];omega)
   obtain⟨d0,d1,d2,d3,d4,d5⟩:=HR.out (q+1) (by rw[HN.out];exact aB);have HK:Hid (0<=ord (ms.getD q dm) (ms.getD (q+1) dm)->res=false):=λh=>H4.out q aB h;have HZ:Hid (ord (ms.getD q dm) (ms.getD (q+1) dm)<0->∀j,j<q+1->ord (ms.getD j dm) (ms.getD (j+1) dm)<0):=λh j hj=>by
    rcases II.1 hj with h2|rfl
    .exact hz.out j h2
    .exact h
   generalize ms.getD q dm=m1 at *;generalize ms.getD (q+1) dm=m2 at *;have hN:∀d os,aT 198 #[Ip #[I m1.node,O J m1.x,O J m1.y,O J m1.z,O J m1.h,O J m1.s],Ip #[I m2.node,O J m2.x,O J m2.y,O J m2.z,O J m2.h,O J m2.s]] (Im (Ix wr d) os) λe kE=>e=sh (O J (ord m1 m2))/\∃p:Regrown,kE=Im (Ix wr p.d) p.os:=λd os=>Calls.regrown_of (Bq m1 m2 _);have F0:∀d os,(Im (Ix wr d) os).cell? ⟨b,off+q*6,Y⟩=Z (I m1.node):=Iq ((dJ _ _ hb).trans c0);have F1:∀d os,(Im (Ix wr d) os).cell? ⟨b,off+q*6+1,Y⟩=Z (O J m1.x):=Iq ((dJ _ _ hb).trans c1);have F2:∀d os,(Im (Ix wr d) os).cell? ⟨b,off+q*6+2,Y⟩=Z (O J m1.y):=Iq ((dJ _ _ hb).trans c2);have F3:∀d os,(Im (Ix wr d) os).cell? ⟨b,off+q*6+3,Y⟩=Z (O J m1.z):=Iq ((dJ _ _ hb).trans c3);have F4:∀d os,(Im (Ix wr d) os).cell? ⟨b,off+q*6+4,Y⟩=Z (O J m1.h):=Iq ((dJ _ _ hb).trans c4);have F5:∀d os,(Im (Ix wr d) os).cell? ⟨b,off+q*6+5,Y⟩=Z (O J m1.s):=Iq ((dJ _ _ hb).trans c5);have G0:∀d os,(Im (Ix wr d) os).cell? ⟨b,off+(q+1)*6,Y⟩=Z (I m2.node):=Iq ((dJ _ _ hb).trans d0);have G1:∀d os,(Im (Ix wr d) os).cell? ⟨b,off+(q+1)*6+1,Y⟩=Z (O J m2.x):=Iq ((dJ _ _ hb).trans d1);have G2:∀d os,(Im (Ix wr d) os).cell? ⟨b,off+(q+1)*6+2,Y⟩=Z (O J m2.y):=Iq ((dJ _ _ hb).trans d2);have G3:∀d os,(Im (Ix wr d) os).cell? ⟨b,off+(q+1)*6+3,Y⟩=Z (O J m2.z):=Iq ((dJ _ _ hb).trans d3);have G4:∀d os,(Im (Ix wr d) os).cell? ⟨b,off+(q+1)*6+4,Y⟩=Z (O J m2.h):=Iq ((dJ _ _ hb).trans d4);have G5:∀d os,(Im (Ix wr d) os).cell? ⟨b,off+(q+1)*6+5,Y⟩=Z (O J m2.s):=Iq ((dJ _ _ hb).trans d5);clear c0 c1 c2 c3 c4 c5 d0 d1 d2 d3 d4 d5 dJ k8;generalize ord m1 m2=r at *;have uR:IntKind.i64.wrap (q:Int)=(q:Int):=by rw[IntKind.wrap_i64];omega
   have TA:q<n:=by omega
   have gU:(q:Int)+1<(n:Int):=by omega
   have hq0:(0:Int)<=(q:Int)+1:=by omega
   have Xo:((q:Int)+1).toNat=q+1:=by omega
   by_cases hl:r<0
   .have dK:¬ (0<=r):=by omega
    go_wp2_with fail;refine IT (by kernel_rfl) (by kernel_rfl) ?_;repeat(quiet_step (exact hN _ _))
    refine cA λdq oN gC=>?_;clear hN F0 F1 F2 F3 F4 F5 G0 G1 G2 G3 G4 G5;go_wp2_with fail;go_roundw
    case rel=>exact⟨q+1,.inl (by omega),by go_num,aL.trans (gC.out.mono bb),HZ.out hl⟩
    case measure=>simp[intOf];omega
   .have dK:0<=r:=by omega
    have h4:Hid _:=HK.out dK;go_wp2_with fail;refine IT (by kernel_rfl) (by kernel_rfl) ?_;repeat(quiet_step (exact hN _ _))
    refine cA λdq oN gC=>?_;clear hN F0 F1 F2 F3 F4 F5 G0 G1 G2 G3 G4 G5;go_wp2_with fail;go_ret;exact⟨az h4.out.symm,aL.trans (gC.out.mono bb)⟩
  .have h0:Hid _:=H0.out λj hj=>hz.out j (by omega)
   go_wp2_with fail;go_ret;exact⟨az h0.out.symm,aL⟩
theorem gl(ms:List cd)(b off cap:Nat)(w:World)(hr:Row w b off ms)(hb:b<w.heap.size)(hn:ms.length<=20)(hs:∀j,(ms.getD j dm).ok) :
 ij 143 #[U (Z ⟨b,off,Y⟩) ms.length cap] w (O J (aM ms)):=by
 have HR:Hid (Row w b off ms):=hr;have HE:Hid (∀k,k<ms.length->(∀j,j<k->(ms.getD j dm).e=0)->(ms.getD k dm).e≠0->aM ms=(ms.getD k dm).e):=λk h1 h2 h3=>ll ms k hn h1 h2 h3;have H4:Hid ((∀j,j<ms.length->(ms.getD j dm).e=0)->aM ms=if aC ms=true then 0 else 4):=λh1=>ja ms hn h1;have Kb:Hid (∀w',Below w.heap.size w w'->aT _ _ _ _):=λw' pX=>Br ms b off cap w' (hr.later pX hb) (Nat.lt_of_lt_of_le hb pX.size) hn;clear hr;generalize hN:ms.length=n at *;have HN:Hid _:=hN;clear hN;have HS:Hid _:=hs;clear hs;generalize hC:aM ms=res at *;have HC:Hid _:=hC;clear hC;generalize Kc:aC ms=rb at *;have TJ:Hid _:=Kc;clear Kc;go_enter Tryz.func143,Tryz.ntmps143;go_wp2_with fail;go_loopw [12] (λi w'=>∃k:Nat,k<=n/\i=O J k/\Below w.heap.size w w'/\Hid (∀j,j<k->(ms.getD j dm).e=0)) (λi _=>n-(intOf i).toNat)
 case atStart=>exact⟨0,IF _,rfl,Ia _ _,λj h=>absurd h (IP _)⟩
 case round=>
  obtain⟨k,hk,rfl,aL,hz⟩:=hrel;obtain⟨dJ,k8⟩:=cD aL;have bb:=aL.size;by_cases aB:k<n
  .obtain⟨c0,c1,c2,c3,c4,c5⟩:=HR.out k (by rw[HN.out];exact aB)
   have GH:Hid _:=HS.out k;have HK:Hid ((ms.getD k dm).e≠0->res=(ms.getD k dm).e):=λh=>HE.out k aB hz.out h;have HZ:Hid ((ms.getD k dm).e=0->∀j,j<k+1->(ms.getD j dm).e=0):=λh j hj=>by
    rcases II.1 hj with h2|rfl
    .exact hz.out j h2
    .exact h
   generalize ms.getD k dm=m at *;have tT:=GH.out;have HD:Hid (m.e=if aA m.node=true then bF ⟨m.x,m.y,m.z,m.h,m.s⟩ else 1):=rfl;generalize m.e=me at *;have nH:Hid (Below w.heap.size w (wr.alloc (.cells #[I m.node,O J m.x,O J m.y,O J m.z,O J m.h,O J m.s] 142))):=aL.alloc bb _;rcases h1:aA m.node with _|_
   .have gW:Hid (res=1):=(HK.out (by rw[HD.out];simp[h1])).trans (by rw[HD.out];simp[h1])
    go_wp2_with (go_at_call 65;refine(aW _ _ tT).mono ?_;rintro e w' ⟨rfl,rfl⟩;rw[h1]);go_ret;exact⟨aj gW.out.symm,nH.out⟩
   .have HP:Hid (∀W,aT _ _ _ _):=λW=>iN ⟨m.x,m.y,m.z,m.h,m.s⟩ W
    have GU:Hid (me=bF ⟨m.x,m.y,m.z,m.h,m.s⟩):=HD.out.trans (by rw[h1];exact if_pos rfl);generalize bF ⟨m.x,m.y,m.z,m.h,m.s⟩=pe at *;rcases he:decide (pe=0) with _|_
    .have gJ:(pe !=0)=true:=by simpa using he
     have gW:Hid _:=(HK.out (by rw[GU.out];simpa using he)).trans GU.out;clear he;go_wp2_with (first|(go_at_call 65;refine(aW _ _ tT).mono ?_;rintro e w' ⟨rfl,rfl⟩;rw[h1])|(go_at_call 131;refine(HP.out _).mono ?_;rintro e w' ⟨rfl,aD⟩));go_ret;exact⟨aj gW.out.symm,nH.out.trans (aD.mono (by simp;omega))⟩
    .have gJ:(pe !=0)=false:=by simpa using he
     have uX:Hid _:=GU.out.trans (by simpa using he);clear he;go_wp2_with (first|(go_at_call 65;refine(aW _ _ tT).mono ?_;rintro e w' ⟨rfl,rfl⟩;rw[h1])|(go_at_call 131;refine(HP.out _).mono ?_;rintro e w' ⟨rfl,aD⟩));go_roundw
     case rel=>exact⟨k+1,by omega,by go_num,nH.out.trans (aD.mono (by simp;omega)),HZ.out uX.out⟩
     case measure=>simp[intOf];omega
  .have cX:Hid (∀j,j<n->(ms.getD j dm).e=0):=λj hj=>hz.out j (by omega)
   have gW:Hid _:=H4.out cX.out;clear hz cX H4 HE HC TJ;cases rb
   .go_wp2_with (go_at_call 199;refine(Kb.out _ aL).mono ?_;rintro e w' ⟨rfl,aD⟩)
    go_ret;exact⟨aj (by rw[gW.out];rfl),aL.trans (aD.mono bb)⟩
   .go_wp2_with (go_at_call 199;refine(Kb.out _ aL).mono ?_;rintro e w' ⟨rfl,aD⟩)
    go_ret;exact⟨aj (by rw[gW.out];rfl),aL.trans (aD.mono bb)⟩
theorem fs(a:Option Addr)(n cap:Nat)(w:World)(hn:20<n) :
 aT 143 #[U a n cap] w λe w'=>e=sh (O J 2)/\w'=w:=by
 go_enter Tryz.func143,Tryz.ntmps143;go_wp2_with fail;go_ret;exact⟨rfl,rfl⟩
theorem ft(a:Option Addr)(cap:Nat)(w:World) :
 aT 143 #[U a 0 cap] w λe w'=>e=sh (O J 0)/\w'=w:=by
 go_enter Tryz.func143,Tryz.ntmps143;go_wp2_with fail;go_loop [12] (λi=>i=O J 0) (λ_=>0)
 case atStart=>rfl
 case round=>
  subst hrel;go_wp2_with (go_at_call 199;refine(fq _ _ _ _).mono ?_;rintro e w' ⟨rfl,rfl⟩);go_ret;exact⟨rfl,rfl⟩
theorem aR(ms:List cd)(v:Value)(w:World)(h:Sl w v ms) :
 ij 143 #[v] w (O J (aM ms)):=by
 obtain⟨a,cap,rfl,hs,h⟩:=h;by_cases hn:20<ms.length
 .refine(fs a ms.length cap w hn).mono ?_
  rintro e w' ⟨rfl,rfl⟩;exact⟨aj (by rw[aM,if_pos hn]),Ia _ _⟩
 .rcases h with rfl|⟨b,off,rfl,hb,hr⟩
  .refine(ft a cap w).mono ?_
   rintro e w' ⟨rfl,rfl⟩;exact⟨rfl,Ia _ _⟩
  .exact gl ms b off cap w hr hb (by omega) hs
theorem fR(ms:List cd)(b off cap:Nat)(w:World)(hr:Row w b off ms)(hb:b<w.heap.size)(hn:ms.length<=20)(hs:∀j,(ms.getD j dm).ok) :
 aT 39 #[U (Z ⟨b,off,Y⟩) ms.length cap] w λe w'=>e=sh (O J (aM ms))/\Below w.heap.size w w':=by
 have HR:Hid (Row w b off ms):=hr;clear hr;have HE:Hid (∀k,k<ms.length->(∀j,j<k->(ms.getD j dm).e=0)->(ms.getD k dm).e≠0->aM ms=(ms.getD k dm).e):=λk h1 h2 h3=>ll ms k hn h1 h2 h3;have H4:Hid ((∀j,j<ms.length->(ms.getD j dm).e=0)->∀k,k+1<ms.length->less (ms.getD k dm).node (ms.getD (k+1) dm).node=false->aM ms=4):=λh1 k h2 h3=>sf ms k hn h1 h2 (λh=>by rw[show ord (ms.getD k dm) (ms.getD (k+1) dm)=bl (ms.getD k dm).node (ms.getD (k+1) dm).node from rfl,dx,h3] at h;cases h);have H0:Hid ((∀j,j<ms.length->(ms.getD j dm).e=0)->(∀j,j+1<ms.length->less (ms.getD j dm).node (ms.getD (j+1) dm).node=true)->aM ms=0):=λh1 h2=>sg ms hn h1 (λj hj=>(dx _ _).2 (h2 j hj));generalize hN:ms.length=n at *;have HN:Hid (ms.length=n):=hN;clear hN;have HS:Hid (∀j,(ms.getD j dm).ok):=hs;clear hs;generalize hC:aM ms=res at *;have HC:Hid (aM ms=res):=hC;clear hC;go_enter Tryz.func39,Tryz.ntmps39;go_wp2_with fail;go_loopw [3] (λi w'=>∃k:Nat,k<=n/\i=O J k/\Below w.heap.size w w'/\Hid (∀j,j<k->(ms.getD j dm).e=0)) (λi _=>n-(intOf i).toNat)
 case atStart=>exact⟨0,IF _,rfl,Ia _ _,λj h=>absurd h (IP _)⟩
 case round=>
  obtain⟨k,hk,rfl,aL,hz⟩:=hrel;obtain⟨dJ,k8⟩:=cD aL;have bb:=aL.size;by_cases aB:k<n
  .obtain⟨c0,c1,c2,c3,c4,c5⟩:=HR.out k (by rw[HN.out];exact aB)
   have tT:(ms.getD k dm).node.size<=Ii:=HS.out k;have HK:Hid ((ms.getD k dm).e≠0->res=(ms.getD k dm).e):=λh=>HE.out k aB hz.out h;have HZ:Hid ((ms.getD k dm).e=0->∀j,j<k+1->(ms.getD j dm).e=0):=λh j hj=>by
    rcases II.1 hj with h2|rfl
    .exact hz.out j h2
    .exact h
   generalize ms.getD k dm=m at *;have HD:Hid (m.e=if aA m.node=true then bF ⟨m.x,m.y,m.z,m.h,m.s⟩ else 1):=rfl;generalize m.e=me at *;rcases h1:aA m.node with _|_
   .have gW:Hid (res=1):=(HK.out (by rw[HD.out];simp[h1])).trans (by rw[HD.out];simp[h1])
    go_wp2_with (go_at_call 33;refine(aN _ _ tT).mono ?_;rintro e w' ⟨rfl,rfl⟩;rw[h1]);go_ret;exact⟨aj gW.out.symm,aL⟩
   .have HP:Hid (∀W,ij 38 #[Ip #[O J m.x,O J m.y,O J m.z,O J m.h,O J m.s]] W (O J (bF ⟨m.x,m.y,m.z,m.h,m.s⟩))):=λW=>(lE ⟨m.x,m.y,m.z,m.h,m.s⟩ W).mono (by rintro e w' ⟨rfl,rfl⟩;exact⟨rfl,(Ia _ _).alloc (By _) _⟩)
    have GU:Hid (me=bF ⟨m.x,m.y,m.z,m.h,m.s⟩):=HD.out.trans (by rw[h1];exact if_pos rfl);generalize bF ⟨m.x,m.y,m.z,m.h,m.s⟩=pe at *;rcases he:decide (pe=0) with _|_
    .have gJ:(pe !=0)=true:=by simpa using he
     have gW:Hid (res=pe):=(HK.out (by rw[GU.out];simpa using he)).trans GU.out;clear he;go_wp2_with (first|(go_at_call 33;refine(aN _ _ tT).mono ?_;rintro e w' ⟨rfl,rfl⟩;rw[h1])|(go_at_call 38;refine(HP.out _).mono ?_;rintro e w' ⟨rfl,aD⟩));go_ret;exact⟨aj gW.out.symm,aL.trans (aD.mono bb)⟩
    .have gJ:(pe !=0)=false:=by simpa using he
     have uX:Hid (me=0):=GU.out.trans (by simpa using he);clear he;go_wp2_with (first|(go_at_call 33;refine(aN _ _ tT).mono ?_;rintro e w' ⟨rfl,rfl⟩;rw[h1])|(go_at_call 38;refine(HP.out _).mono ?_;rintro e w' ⟨rfl,aD⟩));go_roundw
     case rel=>exact⟨k+1,by omega,by go_num,aL.trans (aD.mono bb),HZ.out uX.out⟩
     case measure=>simp[intOf];omega
  .have cX:Hid (∀j,j<n->(ms.getD j dm).e=0):=λj hj=>hz.out j (by omega)
   clear hz;go_wp2_with fail;go_loopw [5] (λi w'=>∃k:Nat,(k+1<=n\/k=0)/\i=O J (k+1)/\Below w.heap.size w w'/\Hid (∀j,j<k->less (ms.getD j dm).node (ms.getD (j+1) dm).node=true)) (λi _=>n-(intOf i).toNat)
   case atStart=>exact⟨0,.inr rfl,rfl,aL,λj h=>absurd h (IP _)⟩
   case round=>
    clear dJ k8 bb aL;obtain⟨q,hq,rfl,aL,hz⟩:=hrel;obtain⟨dJ,k8⟩:=cD aL;have bb:=aL.size;by_cases aB:q+1<n
    .obtain⟨c0,_,_,_,_,_⟩:=HR.out q (by rw[HN.out];omega)
     obtain⟨d0,_,_,_,_,_⟩:=HR.out (q+1) (by rw[HN.out];exact aB);have HK:Hid (less (ms.getD q dm).node (ms.getD (q+1) dm).node=false->res=4):=λh=>H4.out cX.out q aB h;have HZ:Hid (less (ms.getD q dm).node (ms.getD (q+1) dm).node=true->∀j,j<q+1->less (ms.getD j dm).node (ms.getD (j+1) dm).node=true):=λh j hj=>by
      rcases II.1 hj with h2|rfl
      .exact hz.out j h2
      .exact h
     generalize ms.getD q dm=m1 at *;generalize ms.getD (q+1) dm=m2 at *;rcases hl:Op.bytesLess m1.node.toList m2.node.toList with _|_
     .have h4:Hid (res=4):=HK.out hl
      have dK:=gF m1.node.toList m2.node.toList;rw[hl] at dK;have uT:=dK.symm;clear dK hl;go_wp2_with fail;go_quiet (fail)
      go_wp2_with fail;go_ret;exact⟨aj h4.out.symm,below_drewN aL _⟩
     .have dK:=gF m1.node.toList m2.node.toList
      rw[hl] at dK;have uT:=dK.symm;clear dK;have HL:Hid _:=hl;clear hl;go_wp2_with fail;go_quiet (fail)
      go_wp2_with fail;go_roundw
      case rel=>exact⟨q+1,.inl (by omega),by go_num,below_drewN aL _,HZ.out HL.out⟩
      case measure=>simp[intOf];omega
    .have h0:Hid (res=0):=H0.out cX.out λj hj=>hz.out j (by omega)
     go_wp2_with fail;go_ret;exact⟨aj h0.out.symm,aL⟩
theorem fj(a:Option Addr)(n cap:Nat)(w:World)(hn:20<n) :
 aT 39 #[U a n cap] w λe w'=>e=sh (O J 2)/\w'=w:=by
 go_enter Tryz.func39,Tryz.ntmps39;go_wp2_with fail;go_ret;exact⟨rfl,rfl⟩
theorem fk(a:Option Addr)(cap:Nat)(w:World) :
 aT 39 #[U a 0 cap] w λe w'=>e=sh (O J 0)/\w'=w:=by
 go_enter Tryz.func39,Tryz.ntmps39;go_wp2_with fail;go_loop [3] (λi=>i=O J 0) (λ_=>0)
 case atStart=>rfl
 case round=>
  subst hrel;go_wp2_with fail;go_loop [5] (λi=>i=O J 1) (λ_=>0)
  case atStart=>rfl
  case round=>
   subst hrel;go_wp2_with fail;go_ret;exact⟨rfl,rfl⟩
theorem fS(ms:List cd)(v:Value)(w:World)(h:Sl w v ms) :
 aT 39 #[v] w λe w'=>e=sh (O J (aM ms))/\Below w.heap.size w w':=by
 obtain⟨a,cap,rfl,hs,h⟩:=h;by_cases hn:20<ms.length
 .refine(fj a ms.length cap w hn).mono ?_
  rintro e w' ⟨rfl,rfl⟩;exact⟨aj (by rw[aM,if_pos hn]),Ia _ _⟩
 .rcases h with rfl|⟨b,off,rfl,hb,hr⟩
  .refine(fk a cap w).mono ?_
   rintro e w' ⟨rfl,rfl⟩;exact⟨rfl,Ia _ _⟩
  .exact fR ms b off cap w hr hb (by omega) hs
end Wh
end Go.Proofs.YtfidjlcdlakceaaGreatDoor
namespace Go.Proofs.YtfidjlcdlakceaaGreatDoor
open Go.RowKit Go.WideMaps Go.Maps
def kk(ms:List Mem):List ByteArray:=ms.map (·.name)
theorem gu(ms:List Mem)(k:Nat):(kk ms).getD k If=(ms.getD k dm).name:=by
 by_cases h:k<ms.length
 .simp[kk,List.getD,List.getElem?_eq_getElem h]
 .simp[kk,List.getD,List.getElem?_eq_none (by omega:ms.length<=k),dm]
structure PM(D:DataW Unit)(ns:List ByteArray)(k:Nat):Prop where
 tidy:Tidy D
 has:∀s,OK D (kS s)=OK (Dm ns k) (kS s)
 size:No D=No (Dm ns k)
 val:∀s,∃c:Int,D.atKey (kS s) (.lit (.int J 0))=.lit (.int J c)/\0<=c/\c<=k
theorem LI(ns:List ByteArray):PM (.map []) ns 0:=⟨tidy_empty,λ_=>rfl,rfl,λ_=>⟨0,rfl,Int.le_refl _,Int.le_refl _⟩⟩
theorem LJ{D:DataW Unit}{ns:List ByteArray}{k:Nat}(h:PM D ns k){c:Int}(hc:D.atKey (kS (ns.getD k If)) (.lit (.int J 0))=.lit (.int J c)) :
 0<=c/\c<=k/\PM (D.put (kS (ns.getD k If)) (.lit (.int J (c+1)))) ns (k+1):=by
 obtain⟨c',hc',h0,h1⟩:=h.val (ns.getD k If);rw[hc] at hc';have e:c=c':=by injection hc' with h;injection h
 subst e;refine⟨h0,h1,h.tidy.put (lC _) _,λs=>?_,?_,λs=>?_⟩
 .by_cases e:ns.getD k If=s
  .subst e;rw[has_put_same h.tidy.isMap (lC _),Dm,has_put_same (nZ ns k).isMap (lC _)]
  .rw[has_put_other (vq (Ne.symm e)),Dm,has_put_other (vq (Ne.symm e))];exact h.has s
 .rw[size_put h.tidy,rL,h.has,h.size]
 .by_cases e:ns.getD k If=s
  .subst e;exact⟨c+1,by rw[atKey_put_same h.tidy.isMap (lC _)],by omega,by omega⟩
  .rw[atKey_put_other (vq (Ne.symm e))]
   obtain⟨d,hd,d0,d1⟩:=h.val s;exact⟨d,hd,d0,by omega⟩
theorem VL{D:DataW Unit}{ms:List Mem}(h:PM D (kk ms) ms.length)(hd:¬ mP ms):No D<ms.length:=by
 rw[h.size];apply nt;apply Classical.byContradiction;intro hx;apply hd;intro i j kR hj e;exact hx ⟨i,j,kR,hj,by rw[gu,gu];exact e⟩
theorem VM{D:DataW Unit}{ms:List Mem}(h:PM D (kk ms) ms.length)(hd:mP ms):No D=ms.length:=by
 rw[h.size];exact nq _ _ (λi j kR hj=>by rw[gu,gu];exact hd i j kR hj)
theorem Bs{w w':World}{b n:Nat}{D:DataW Unit}(h:w.ownsMap be 9 (Jk (H:=Unit) be 3) b n D)(hb:Below w.heap.size w w'):w'.ownsMap be 9 (Jk (H:=Unit) be 3) b n D:=by
 have hl:=h.lt;obtain⟨es,clock,h1,h2⟩:=h;exact⟨es,clock,(hb.block b hl).trans h1,h2⟩
theorem row_one{w:World}{b off:Nat}{ms:List Mem}(hr:Row w b off ms){k:Nat}(hk:k<ms.length):Row w b (off+k*5) [ms.getD k dm]:=λj hj=>by
 have:j=0:=by simpa using hj
 subst this;simpa using hr k hk
def Roomy(v:Value):Prop:=match v with
 | U _ n c=>n<=c
 |_=>True
theorem uD(ms:List Mem)(v:Value)(w:World)(hv:Sl w v ms)(gG:Roomy v) :
 Calls be 142 #[v] w λe w'=>e=sh (O J (kJ ms))/\Below w.heap.size w w':=by
 obtain⟨pa,ca,rfl,bb,ha⟩:=hv;have Hx:ms.length<=ca:=gG;clear gG;by_cases hmany:5<ms.length
 .have HE:Hid (kJ ms=2):=EK hmany
  go_enter Tryz.func142,Tryz.ntmps142;go_wp2_with fail;go_ret;exact⟨aj HE.out.symm,Ia _ _⟩
 have HA:Hid _:=ha;have HS:Hid (∀j,(ms.getD j dm).name.size<=Ii):=bb;clear ha bb;generalize hN:ms.length=n at *;have HN:Hid (ms.length=n):=hN;clear hN;have hn5:n<=5:=by omega
 have oS:=kC;go_enter Tryz.func142,Tryz.ntmps142;go_wp2;go_loopw [15] (λi wr=>∃k:Nat,k<=n/\i=O J k/\Hid (∀j,j<k->(ms.getD j dm).e=0)/\Hid (∃D,wr.ownsMap be 9 (Jk (H:=Unit) be 3) w.heap.size k D/\PM D (kk ms) k)/\Hid (Below w.heap.size w wr)) (λi _=>n-(intOf i).toNat)
 case atStart=>exact⟨0,IF _,rfl,λj hj=>by omega,⟨_,World.ownsMap_made _ _ _ _,LI _⟩,(Ia _ _).alloc (By _) _⟩
 case round=>
  obtain⟨k,hk,rfl,HZ,HD,HB⟩:=hrel;obtain⟨D,HO,HC⟩:=HD.out;have HO:Hid (wr.ownsMap be 9 (Jk (H:=Unit) be 3) w.heap.size k D):=HO;have HC:Hid (PM D (kk ms) k):=HC;clear HD;by_cases aB:k<n
  .obtain⟨b,off,hp,hl,hr⟩:∃b off,pa=Z ⟨b,off,Y⟩/\b<w.heap.size/\Row w b off ms:=by
    rcases HA.out with h|h
    .have:=HN.out;rw[h] at this;simp at this;omega
    .exact h
   subst hp;have xK:=hr.later HB.out hl;obtain⟨c0,c1,c2,c3,c4⟩:=xK k (by rw[HN.out];exact aB);have eX:=HS.out k;have HX:Hid ((ms.getD k dm).e≠0->kJ ms=(ms.getD k dm).e):=λh=>Vv (by rw[HN.out];exact hn5) (by rw[HN.out];exact aB) HZ.out h;have fm:Hid ((ms.getD k dm).e=0->∀j,j<k+1->(ms.getD j dm).e=0):=λh j hj=>by
    by_cases e:j=k
    .subst e;exact h
    .exact HZ.out j (by omega)
   have kA:Hid (Row wr b (off+k*5) [ms.getD k dm]):=row_one xK (by rw[HN.out];exact aB);have HG:Hid (∀(c:Int),D.atKey (kS (ms.getD k dm).name) (.lit (.int J 0))=.lit (.int J c)->0<=c/\c<=k/\PM (D.put (kS (ms.getD k dm).name) (.lit (.int J (c+1)))) (kk ms) (k+1)):=λc hc=>by
    have h:=LJ HC.out (c:=c) (by rw[gu];exact hc);rw[gu] at h;exact h
   have bb:=HB.out.size;generalize(ms.getD k dm)=mk at *;have oO:Hid (∀W,Below wr.heap.size wr W->∀cc,Calls be 127 #[U (Z ⟨b,off+k*5,Y⟩) 1 cc] W λe w'=>e=sh (O J mk.e)/\Below W.heap.size W w'):=λW hW cc=>by
    have h:=aR [mk] (U (Z ⟨b,off+k*5,Y⟩) 1 cc) W ⟨_,cc,rfl,bN (λx hx=>by simp at hx;subst hx;exact eX),.inr ⟨b,_,rfl,by have:=hW.size;omega,kA.out.later hW (by omega)⟩⟩;rw[iI] at h;exact h
   obtain⟨nm,st,lf,ad,sv⟩:=mk;simp only at c0 c1 c2 c3 c4 eX HX fm HG oO;have Bc:keyOf be 9 (I nm)=Z (kS nm):=keyOf_string_mk Tryz.underlying9 eX;clear hr xK HZ kA;have gj:(k:Int)<n:=by omega
   have hkc:(k:Int)+1<=(ca:Int):=by omega
   go_wp2_with fail;refine(oO.out _ ((Ia _ _).alloc (By _) _) _).mono ?_;rintro e w1 ⟨rfl,an⟩;have lT:Hid (w1.ownsMap _ _ _ _ _ _):=Bs (HO.out.alloc _) an;have aK:Hid _:=(HB.out.alloc HB.out.size _).trans (an.mono (by simp;omega));have hm0:w1.cell? ⟨wr.heap.size,0,Y⟩=Z (I nm):=(an.cell (p:=⟨wr.heap.size,0,Y⟩) (by simp)).trans (by simp);clear an c0 c1 c2 c3 c4 HB HO oO;by_cases he:(Mem.mk nm st lf ad sv).e=0
   .have gJ:((Mem.mk nm st lf ad sv).e !=0)=false:=by simpa using he
    have jM:Hid _:=fm.out he;clear HX fm he;generalize(Mem.mk nm st lf ad sv).e=me at *;obtain⟨c,gO,cG,_⟩:=lT.out.lookup_int Pj JG Iz (K7 _) Bc;obtain⟨g0,g1,g2⟩:=HG.out c cG;have oP:Hid _:=g2;clear g2 cG HG;go_wp2_with (first
     |(at_mapUpdate;refine wpList_mapUpdate_own _ rfl _ _ _ 223 rfl 9 3 Pj JG _ w.heap.size k _ rfl lT.out (by unfold Ii;omega) _ _ _ rfl rfl Bc _ [] (plainElem_int Iz (WalkArith.wf_i64 (by omega))) ?_)
     |fail)
    intro w2 SI LK;have R1:Hid (∃D,w2.ownsMap be 9 (Jk (H:=Unit) be 3) w.heap.size (k+1) D/\PM D (kk ms) (k+1)):=⟨_,SI,oP.out⟩;have R2:Hid _:=aK.out.grown LK aK.out.size (λj hj=>by cases hj;exact By _);clear SI LK lT aK;go_wp2_with fail;go_roundw
    case rel=>exact⟨k+1,by omega,by go_num,jM,R1,R2⟩
    case measure=>simp[intOf];omega
   .have gJ:((Mem.mk nm st lf ad sv).e !=0)=true:=by simpa using he
    have HR:Hid _:=HX.out he;generalize(Mem.mk nm st lf ad sv).e=me at *;clear he HX fm;go_wp2_with fail;go_ret;exact⟨aj HR.out.symm,aK.out⟩
  .have gj:k=n:=by omega
   subst gj;have mL:Hid (No D<k↔¬ mP ms):=by
    have h1:=HC.out;rw[<- HN.out] at h1 ⊢;exact⟨λh hd=>by rw[VM h1 hd] at h;omega,λhd=>VL h1 hd⟩
   have PN:Hid (¬ mP ms->kJ ms=6):=λhd=>Bd (by rw[HN.out];exact hn5) (λj hj=>HZ.out j (by rw[<- HN.out];exact hj)) hd;have iV:Hid (mP ms->kJ ms=0):=λhd=>Pm (by rw[HN.out];exact hn5) (λj hj=>HZ.out j (by rw[<- HN.out];exact hj)) hd;by_cases hd:mP ms
   .have HE:Hid _:=iV.out hd
    have hs:¬ ((No D:Int)<(k:Int)):=by have:=mL.out;intro h;exact(this.1 (by omega)) hd
    clear PN iV hd mL HZ;go_wp2_with (at_len;refine wpList_len_own _ rfl _ 223 rfl 9 3 JG _ _ _ _ rfl HO.out ?_);go_ret;exact⟨aj HE.out.symm,HB.out⟩
   .have HE:Hid _:=PN.out hd
    have hs:((No D:Int)<(k:Int)):=by have:=mL.out.2 hd;omega
    clear PN iV hd mL HZ;go_wp2_with (at_len;refine wpList_len_own _ rfl _ 223 rfl 9 3 JG _ _ _ _ rfl HO.out ?_);go_ret;exact⟨aj HE.out.symm,HB.out⟩
structure sY(w:World)(p:Pk)(vm vs vg vw:Value):Prop where
 ms:Sl w vm p.ms
 sv:Sv.Sl w vs p.sv
 gw:Gw.Sl w vg p.gw
 wh:Wh.Sl w vw p.wh
 fw:p.fw.size<=Ii
 room:Roomy vm
theorem sY.below{w w':World}{p:Pk}{vm vs vg vw:Value}(h:sY w p vm vs vg vw)(hb:Below w.heap.size w w'):sY w' p vm vs vg vw:=⟨h.ms.below hb,h.sv.below hb,h.gw.below hb,h.wh.below hb,h.fw,h.room⟩
theorem lJ{α:Type}(l:List α):l.isEmpty=decide (l.length=0):=by cases l<;>simp
theorem sZ(p:Pk)(vm vs vg vw:Value)(w:World)(h:sY w p vm vs vg vw)(hlen:p.whole=true\/p.sv.length+p.gw.length+p.wh.length<=4611686018427387904) :
 Calls be 94 #[Ip #[I p.fw,.bool p.whole,vm,vs,vg,vw]] w λe w'=>e=sh (O J p.e)/\Below w.heap.size w w':=by
 obtain⟨fw,whole,ms,sv,gw,wh⟩:=p;obtain⟨jj,CU,mA,Ah,VN,gG⟩:=h;simp only at jj CU mA Ah VN hlen ⊢;have Sg:Hid (∀W,Below w.heap.size w W->Calls _ _ _ _ _):=λW hW=>aR ms vm W (jj.below hW);have HM2:Hid (∀W,Below w.heap.size w W->Calls _ _ _ _ _):=λW hW=>uD ms vm W (jj.below hW) gG;have HS:Hid (∀W,Below w.heap.size w W->Calls _ _ _ _ _):=λW hW=>Sv.aR sv vs W (CU.below hW);have HG:Hid (∀W,Below w.heap.size w W->Calls _ _ _ _ _):=λW hW=>Gw.aR gw vg W (mA.below hW);have HW:Hid (∀W,Below w.heap.size w W->Calls _ _ _ _ _):=λW hW=>Wh.aR wh vw W (Ah.below hW);have HE:Hid (Pk.e ⟨fw,whole,ms,sv,gw,wh⟩=if(aA fw&&(whole||(decide (sv.length=0)&&(decide (gw.length=0)&&decide (wh.length=0)))))=true then
  (if(if whole=true then aM ms else kJ ms)=0 then(if Sv.aM sv=0 then(if Gw.aM gw=0 then Wh.aM wh else Gw.aM gw) else Sv.aM sv) else(if whole=true then aM ms else kJ ms)) else 1):=by
  show Pk.e _=_;rw[<- lJ,<- lJ,<- lJ];rfl
 generalize Pk.e ⟨fw,whole,ms,sv,gw,wh⟩=res at *;obtain⟨a2,c2,rfl,_,_⟩:=CU;obtain⟨a3,c3,rfl,_,_⟩:=mA;obtain⟨a4,c4,rfl,_,_⟩:=Ah;clear jj gG;generalize Sv.aM sv=se at *;generalize Gw.aM gw=ge at *;generalize Wh.aM wh=we at *;generalize aM ms=m1 at *;generalize kJ ms=m2 at *;generalize sv.length=n2 at *;generalize gw.length=n3 at *;generalize wh.length=n4 at *;obtain⟨W0,eu,eN,-,eo⟩:=eC w #[I fw,.bool whole,vm,U a2 n2 c2,U a3 n3 c3,U a4 n4 c4] 57;have r8:w.heap.size<W0.heap.size:=by rw[eu];simp
 have dB:Hid _:=eN;have yO:Hid _:=eo;have HX:Hid (∀W,Below W0.heap.size W0 W->(W.cell? ⟨w.heap.size,2,Y⟩=Z vm/\W.cell? ⟨w.heap.size,3,Y⟩=Z (U a2 n2 c2)/\W.cell? ⟨w.heap.size,4,Y⟩=Z (U a3 n3 c3)/\W.cell? ⟨w.heap.size,5,Y⟩=Z (U a4 n4 c4))/\Below w.heap.size w W):=λW hW=>
  have hg:=(hW.block _ r8).trans eo
  ⟨⟨af hg 2,af hg 3,af hg 4,af hg 5⟩,eN.trans (hW.mono (by omega))⟩
 have CV:Hid (∀W W',Below W0.heap.size W0 W->Below W.heap.size W W'->Below W0.heap.size W0 W'):=λW W' h1 h2=>h1.trans (h2.mono h1.size);go_enter Tryz.func94,Tryz.ntmps94;rcases j7:aA fw with _|_
 .have HR:Hid (res=1):=HE.out.trans (by rw[j7];rfl)
  go_wp2_with (go_at_call 65;refine(aW _ _ VN).mono ?_;rintro e w' ⟨rfl,rfl⟩;rw[j7]);go_ret;exact⟨aj HR.out.symm,(Ia _ _).alloc (By _) _⟩
 .cases whole
  .by_cases hal:n2=0/\n3=0/\n4=0
   .obtain⟨rfl,rfl,rfl⟩:=hal
    have iV:Hid (res=if m2=0 then(if se=0 then(if ge=0 then we else ge) else se) else m2):=HE.out.trans (by rw[j7];rfl);clear HE Sg;go_wp2_with (first|(go_at_call 65;refine(aW _ _ VN).mono ?_;rintro e w' ⟨rfl,rfl⟩;rw[j7])|fail);rw[<- eu];refine(HM2.out _ dB.out).mono ?_;rintro e w1 ⟨rfl,an⟩;obtain⟨⟨x2,x3,x4,x5⟩,LL⟩:=HX.out w1 an;have aK:Hid _:=an;have ow:Hid _:=LL;clear an LL;by_cases hm:m2=0
    .subst hm
     go_wp2_with fail;refine(HS.out _ ow.out).mono ?_;rintro e w2 ⟨rfl,aD⟩;have bD:Hid _:=CV.out _ _ aK.out aD;clear x2 x3 x4 x5 aD;obtain⟨⟨x2,x3,x4,x5⟩,LM⟩:=HX.out w2 bD.out;have Bt:Hid _:=LM;clear LM;by_cases hse:se=0
     .subst hse
      go_wp2_with fail;refine(HG.out _ Bt.out).mono ?_;rintro e w3 ⟨rfl,bn⟩;have cT:Hid _:=CV.out _ _ bD.out bn;clear x2 x3 x4 x5 bn;obtain⟨⟨x2,x3,x4,x5⟩,LN⟩:=HX.out w3 cT.out;have wT:Hid _:=LN;clear LN;by_cases kZ:ge=0
      .subst kZ
       go_wp2_with fail;refine(HW.out _ wT.out).mono ?_;rintro e w4 ⟨rfl,e9⟩;have VO:Hid _:=wT.out.trans (e9.mono wT.out.size);clear e9;go_wp2_with fail;go_ret;exact⟨aj iV.out.symm,VO.out⟩
      .have aaM:(ge !=0)=true:=by simpa using kZ
       have HR:Hid (res=ge):=iV.out.trans (by simp[kZ]);clear kZ;go_wp2_with fail;go_ret;exact⟨aj HR.out.symm,wT.out⟩
     .have aaN:(se !=0)=true:=by simpa using hse
      have HR:Hid (res=se):=iV.out.trans (by simp[hse]);clear hse;go_wp2_with fail;go_ret;exact⟨aj HR.out.symm,Bt.out⟩
    .have hm':(m2 !=0)=true:=by simpa using hm
     have HR:Hid _:=iV.out.trans (if_neg hm);clear hm;go_wp2_with fail;go_ret;exact⟨aj HR.out.symm,ow.out⟩
   .have HR:Hid (res=1):=HE.out.trans (by
     rw[j7,if_neg];simp only[Bool.true_and,Bool.false_or,Bool.and_eq_true,decide_eq_true_eq];exact hal)
    have hlen:n2+n3+n4<=4611686018427387904:=by
     rcases hlen with h|h
     .cases h
     .exact h
    have alR:(0:Int)<(n2:Int)+(n3:Int)+(n4:Int):=by omega
    go_wp2_with (go_at_call 65;refine(aW _ _ VN).mono ?_;rintro e w' ⟨rfl,rfl⟩;rw[j7]);go_ret;exact⟨aj HR.out.symm,(Ia _ _).alloc (By _) _⟩
  .have iV:Hid (res=if m1=0 then(if se=0 then(if ge=0 then we else ge) else se) else m1):=HE.out.trans (by rw[j7];rfl)
   clear HE HM2;go_wp2_with (first|(go_at_call 65;refine(aW _ _ VN).mono ?_;rintro e w' ⟨rfl,rfl⟩;rw[j7])|fail);rw[<- eu];refine(Sg.out _ dB.out).mono ?_;rintro e w1 ⟨rfl,an⟩;obtain⟨⟨x2,x3,x4,x5⟩,LL⟩:=HX.out w1 an;have aK:Hid _:=an;have ow:Hid _:=LL;clear an LL;by_cases hm:m1=0
   .subst hm
    go_wp2_with fail;refine(HS.out _ ow.out).mono ?_;rintro e w2 ⟨rfl,aD⟩;have bD:Hid _:=CV.out _ _ aK.out aD;clear x2 x3 x4 x5 aD;obtain⟨⟨x2,x3,x4,x5⟩,LM⟩:=HX.out w2 bD.out;have Bt:Hid _:=LM;clear LM;by_cases hse:se=0
    .subst hse
     go_wp2_with fail;refine(HG.out _ Bt.out).mono ?_;rintro e w3 ⟨rfl,bn⟩;have cT:Hid _:=CV.out _ _ bD.out bn;clear x2 x3 x4 x5 bn;obtain⟨⟨x2,x3,x4,x5⟩,LN⟩:=HX.out w3 cT.out;have wT:Hid _:=LN;clear LN;by_cases kZ:ge=0
     .subst kZ
      go_wp2_with fail;refine(HW.out _ wT.out).mono ?_;rintro e w4 ⟨rfl,e9⟩;have VO:Hid _:=wT.out.trans (e9.mono wT.out.size);clear e9;go_wp2_with fail;go_ret;exact⟨aj iV.out.symm,VO.out⟩
     .have aaM:(ge !=0)=true:=by simpa using kZ
      have HR:Hid (res=ge):=iV.out.trans (by simp[kZ]);clear kZ;go_wp2_with fail;go_ret;exact⟨aj HR.out.symm,wT.out⟩
    .have aaN:(se !=0)=true:=by simpa using hse
     have HR:Hid (res=se):=iV.out.trans (by simp[hse]);clear hse;go_wp2_with fail;go_ret;exact⟨aj HR.out.symm,Bt.out⟩
   .have hm':(m1 !=0)=true:=by simpa using hm
    have HR:Hid _:=iV.out.trans (if_neg hm);clear hm;go_wp2_with fail;go_ret;exact⟨aj HR.out.symm,ow.out⟩
end Go.Proofs.YtfidjlcdlakceaaGreatDoor
