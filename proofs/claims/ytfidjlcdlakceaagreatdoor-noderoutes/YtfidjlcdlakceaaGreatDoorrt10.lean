import Derived.Test.YtfidjlcdlakceaaGreatDoorrt3
set_option maxHeartbeats 800000
set_option maxRecDepth 100000
open Go.Value renaming slice→U,func→I7,bool→AT,int→O,agg→Ip,string→I,tuple→Il
open Go.Ending renaming returned→sh
open Go.Proofs.Tryz renaming prog→be
open Go.IntKind renaming i64→J
open Nat renaming not_lt_zero→IP,le_refl→By
open Go.Sort renaming grow→Im
open Go renaming redrawn→Ix,Regrown→Qe,wp_region_quiet_below→IT
namespace Go.Proofs.YtfidjlcdlakceaaGreatDoor
namespace Gw
open Go.RowKit
theorem jE(ms:List cW)(b off cap:Nat)(w:World)(hr:Row w b off ms)(hb:b<w.heap.size)(hn:ms.length<=6) :
 Calls be 184 #[U (some ⟨b,off,none⟩) ms.length cap,I7 (.func 185) #[] #[]] w λe w'=>e=sh (AT (aC ms))/\Below w.heap.size w w':=by
 have HR:Hid (Row w b off ms):=hr;clear hr;have H4:Hid (∀k,k+1<ms.length->0<=ord (ms.getD k dm) (ms.getD (k+1) dm)->aC ms=false):=λk hk hl=>by
  rcases h:aC ms with _|_
  .rfl
  .have:=dL ms h k hk;omega
 have H0:Hid ((∀j,j+1<ms.length->ord (ms.getD j dm) (ms.getD (j+1) dm)<0)->aC ms=true):=dM ms;generalize hN:ms.length=n at *;have HN:Hid (ms.length=n):=hN;clear hN;generalize hC:aC ms=res at *;have HC:Hid (aC ms=res):=hC;clear hC;go_enter Tryz.func184,Tryz.ntmps184;go_wp2_with fail;go_loopw [5] (λi w'=>∃k:Nat,(k+1<=n\/k=0)/\i=O J (k+1)/\Below w.heap.size w w'/\Hid (∀j,j<k->ord (ms.getD j dm) (ms.getD (j+1) dm)<0)) (λi _=>n-(intOf i).toNat)
 case atStart=>exact⟨0,.inr rfl,rfl,Below.refl _ _,λj h=>absurd h (IP _)⟩
 case round=>
  obtain⟨q,hq,rfl,aL,hz⟩:=hrel;obtain⟨dJ,k8⟩:=cD aL;have bb:=aL.size;by_cases aB:q+1<n
  .have F:=((HR.out q (by rw[HN.out];omega)).eq (λo=>dJ b o hb)).re
   have G:=((HR.out (q+1) (by rw[HN.out];exact aB)).eq (λo=>dJ b o hb)).re;have HK:Hid (0<=ord (ms.getD q dm) (ms.getD (q+1) dm)->res=false):=λh=>H4.out q aB h;have HZ:Hid (ord (ms.getD q dm) (ms.getD (q+1) dm)<0->∀j,j<q+1->ord (ms.getD j dm) (ms.getD (j+1) dm)<0):=λh j hj=>by
    rcases Nat.lt_succ_iff_lt_or_eq.1 hj with h2|rfl
    .exact hz.out j h2
    .exact h
   generalize ms.getD q dm=m1 at *;generalize ms.getD (q+1) dm=m2 at *;have hN:∀d os,Calls be 185 #[Ip #[I m1.ai,O J m1.addr,O J m1.version],Ip #[I m2.ai,O J m2.addr,O J m2.version]] (Im (Ix wr d) os) λe kE=>e=sh (O J (ord m1 m2))/\∃p:Qe,kE=Im (Ix wr p.d) p.os:=λd os=>Calls.regrown_of (eO m1 m2 _);simp only[As] at F G;clear dJ k8;generalize ord m1 m2=r at *;have uR:IntKind.i64.wrap (q:Int)=(q:Int):=by rw[IntKind.wrap_i64];omega
   have TA:q<n:=by omega
   have gU:(q:Int)+1<(n:Int):=by omega
   have hq0:(0:Int)<=(q:Int)+1:=by omega
   have Xo:((q:Int)+1).toNat=q+1:=by omega
   go_wp2_with fail;refine IT (by kernel_rfl) (by kernel_rfl) ?_;repeat(quiet_step (exact hN _ _))
   refine cA λdq oN gC=>?_;clear hN F G;by_cases hl:r<0
   .have dK:¬ (0<=r):=by omega
    go_wp2_with fail;go_roundw
    case rel=>exact⟨q+1,.inl (by omega),by go_num,aL.trans (gC.out.mono bb),HZ.out hl⟩
    case measure=>simp[intOf];omega
   .have dK:0<=r:=by omega
    have h4:Hid (res=false):=HK.out dK;go_wp2_with fail;go_ret;exact⟨az h4.out.symm,aL.trans (gC.out.mono bb)⟩
  .have h0:Hid (res=true):=H0.out λj hj=>hz.out j (by omega)
   go_wp2_with fail;go_ret;exact⟨az h0.out.symm,aL⟩
theorem fq(a:Option Addr)(cap:Nat)(fv:Value)(w:World) :
 Calls be 184 #[U a 0 cap,fv] w λe w'=>e=sh (AT true)/\w'=w:=by
 go_enter Tryz.func184,Tryz.ntmps184;go_wp2_with fail;go_loop [5] (λi=>i=O J 1) (λ_=>0)
 case atStart=>rfl
 case round=>
  subst hrel;go_wp2_with fail;go_ret;exact⟨rfl,rfl⟩
theorem mV(ms:List cW)(b off cap:Nat)(lk:cW)(w:World)(hr:Row w b off ms)(hb:b<w.heap.size)(hn:ms.length<=12)(nN:∀i j,i<=j->j<ms.length->ord (ms.getD j dm) lk<0->ord (ms.getD i dm) lk<0) :
 Calls be 240 #[U (some ⟨b,off,none⟩) ms.length cap,Ip #[I lk.ai,O J lk.addr,O J lk.version],I7 (.func 185) #[] #[]] w λe w'=>∃(p:Nat) (f:Bool),e=sh (Il #[O J p,AT f])/\Below w.heap.size w w' /\
  p<=ms.length/\(∀j,j<p->ord (ms.getD j dm) lk<0)/\(∀j,p<=j->j<ms.length->0<=ord (ms.getD j dm) lk)/\(f=true↔p<ms.length/\ord (ms.getD p dm) lk=0):=by
 have HR:Hid (Row w b off ms):=hr;clear hr;have HM:Hid _:=nN;clear nN;generalize hN:ms.length=n at *;have HN:Hid (ms.length=n):=hN;clear hN;go_enter Tryz.func240,Tryz.ntmps240;go_wp2_with fail;obtain⟨W0,eu,eN,r8,eo⟩:=eC w #[I lk.ai,O J lk.addr,O J lk.version] 49;have RV:Hid (Row W0 b off ms):=HR.out.later eN hb;have HT:Hid (As W0 w.heap.size 0 lk):=⟨af eo 0,af eo 1,af eo 2⟩;have dB:Hid (Below w.heap.size w W0):=eN;have Xp:Hid (W0=w.alloc (.cells #[I lk.ai,O J lk.addr,O J lk.version] 49)):=eu;clear eo eN HR eu;have Hi:b<w.heap.size+1:=by omega
 go_loopw [9,10] (λi j w'=>∃k l:Nat,k<=l/\l<=n/\i=O J k/\j=O J l/\Below (w.heap.size+1) W0 w'/\Hid (∀j,j<k->ord (ms.getD j dm) lk<0)/\Hid (∀j,l<=j->j<n->0<=ord (ms.getD j dm) lk)) (λi j _=>(intOf j).toNat-(intOf i).toNat)
 case atStart=>exact⟨0,n,Nat.zero_le _,By _,rfl,rfl,by rw[Xp.out];exact Below.refl _ _,λj h=>absurd h (IP _),λj h1 h2=>by omega⟩
 case round=>
  obtain⟨k,l,Ap,RW,rfl,rfl,aL,MT,MU⟩:=hrel;have bb:=aL.size;have dJ:∀b o,b<w.heap.size+1->wr.cell? ⟨b,o,none⟩=W0.cell? ⟨b,o,none⟩:=λb o h=>aL.cell (p:=⟨b,o,none⟩) h;have G:=(HT.out.eq (λo=>dJ w.heap.size o (by omega))).re;simp only[As,Nat.zero_add] at G;by_cases aB:k<l
  .obtain⟨h,hh,h1,h2⟩:∃h:Nat,((k:Int)+(l:Int))/2=(h:Int)/\k<=h/\h<l:=⟨(k+l)/2,by omega,by omega,by omega⟩
   have F:=((RV.out h (by rw[HN.out];omega)).eq (λo=>dJ b o Hi)).re;have mW:=HM.out;have HK:Hid (ord (ms.getD h dm) lk<0->∀j,j<h+1->ord (ms.getD j dm) lk<0):=λhx j hj=>mW j h (by omega) (by omega) hx;have HL:Hid (0<=ord (ms.getD h dm) lk->∀j,h<=j->j<n->0<=ord (ms.getD j dm) lk):=λhx j hj RX=>by
    apply Int.not_lt.1;intro hq;have:=mW h j hj RX hq;omega
   clear mW;have hhn:h<n:=by omega
   generalize ms.getD h dm=m at *;have hO:∀d os,Calls be 185 #[Ip #[I m.ai,O J m.addr,O J m.version],Ip #[I lk.ai,O J lk.addr,O J lk.version]] (Im (Ix wr d) os) λe kE=>e=sh (O J (ord m lk))/\∃p:Qe,kE=Im (Ix wr p.d) p.os:=λd os=>Calls.regrown_of (eO m lk _);simp only[As] at F;clear dJ;generalize ord m lk=r at *;go_wp2_with fail;refine IT (by kernel_rfl) (by kernel_rfl) ?_;repeat(quiet_step (exact hO _ _))
   refine cA λdq oN gC=>?_;clear hO F G;by_cases xH:r<0
   .go_wp2_with fail
    exact⟨⟨h+1,l,by omega,by omega,by go_num,rfl,aL.trans (gC.out.mono (by omega)),HK.out xH,MU⟩,by simp[intOf];omega⟩
   .have NA:0<=r:=by omega
    go_wp2_with fail;exact⟨⟨k,h,by omega,by omega,rfl,rfl,aL.trans (gC.out.mono (by omega)),MT,HL.out NA⟩,by simp[intOf];omega⟩
  .have TB:l=k:=by omega
   subst TB;by_cases gj:l<n
   .have F:=((RV.out l (by rw[HN.out];omega)).eq (λo=>dJ b o Hi)).re
    generalize hm:ms.getD l dm=m at *;have Hm:Hid (ms.getD l dm=m):=hm;clear hm;have hO:∀d os,Calls be 185 #[Ip #[I m.ai,O J m.addr,O J m.version],Ip #[I lk.ai,O J lk.addr,O J lk.version]] (Im (Ix wr d) os) λe kE=>e=sh (O J (ord m lk))/\∃p:Qe,kE=Im (Ix wr p.d) p.os:=λd os=>Calls.regrown_of (eO m lk _);simp only[As] at F;clear dJ;generalize Cn:ord m lk=r at *;have Hr:Hid (ord m lk=r):=Cn;clear Cn;go_wp2_with fail;refine IT (by kernel_rfl) (by kernel_rfl) ?_;repeat(quiet_step (exact hO _ _))
    refine cA λdq oN gC=>?_;clear hO F G;go_wp2_with fail;go_ret2;refine⟨l,_,rfl,dB.out.trans ((aL.trans (gC.out.mono (by omega))).mono (by omega)),by omega,MT.out,MU.out,?_⟩;rw[Hm.out,Hr.out];simp[gj]
   .clear G
    have hkd:decide ((l:Int)<(n:Int))=false:=by simp;omega
    go_wp2_with fail;go_quiet (fail)
    go_wp2_with fail;go_ret2;refine⟨l,_,rfl,dB.out.trans ((below_drewN aL _).mono (by omega)),by omega,MT.out,MU.out,?_⟩;simp[gj]
theorem lg(a:Option Addr)(cap:Nat)(lk:cW)(fv:Value)(w:World) :
 Calls be 240 #[U a 0 cap,Ip #[I lk.ai,O J lk.addr,O J lk.version],fv] w λe w'=>e=sh (Il #[O J 0,AT false])/\Below w.heap.size w w':=by
 go_enter Tryz.func240,Tryz.ntmps240;go_wp2_with fail;go_loop [9,10] (λi j=>i=O J 0/\j=O J 0) (λ_ _=>0)
 case atStart=>exact⟨rfl,rfl⟩
 case round=>
  obtain⟨rfl,rfl⟩:=hrel;go_wp2_with fail;go_quiet (fail)
  go_wp2_with fail;go_ret2;exact⟨rfl,below_drewN ((Below.refl _ _).alloc (By _) _) _⟩
theorem lh(ms:List cW)(v:Value)(lk:cW)(w:World)(h:Sl w v ms)(hn:ms.length<=12)(nN:∀i j,i<=j->j<ms.length->ord (ms.getD j dm) lk<0->ord (ms.getD i dm) lk<0) :
 Calls be 240 #[v,Ip #[I lk.ai,O J lk.addr,O J lk.version],I7 (.func 185) #[] #[]] w λe w'=>∃(p:Nat) (f:Bool),e=sh (Il #[O J p,AT f])/\Below w.heap.size w w'/\At ms lk p f:=by
 obtain⟨a,cap,rfl,hs,h⟩:=h;rcases h with rfl|⟨b,off,rfl,hb,hr⟩
 .refine(lg a cap lk _ w).mono ?_
  rintro e w' ⟨rfl,hb⟩;exact⟨0,false,rfl,hb,⟨by simp,λj h=>by omega,λj h h2=>by simp at h2,by simp⟩⟩
 .refine(mV ms b off cap lk w hr hb hn nN).mono ?_
  rintro e w' ⟨p,f,rfl,aL,g1,g2,g3,g4⟩;exact⟨p,f,rfl,aL,⟨g1,g2,g3,g4⟩⟩
theorem nO(ms:List cW)(v:Value)(lk:cW)(w:World)(h:Sl w v ms)(hn:ms.length<=12)(hr:dt ms) :
 Calls be 189 #[v,Ip #[I lk.ai,O J lk.addr,O J lk.version],I7 (.func 185) #[] #[]] w λe w'=>∃(p:Nat) (f:Bool),e=sh (Il #[O J p,AT f])/\Below w.heap.size w w'/\At ms lk p f:=by
 have HC:Hid (∀w',Below w.heap.size w w'->Calls be 240 #[v,Ip #[I lk.ai,O J lk.addr,O J lk.version],I7 (.func 185) #[] #[]] w' λe kE=>∃(p:Nat) (f:Bool),e=sh (Il #[O J p,AT f])/\Below w'.heap.size w' kE/\At ms lk p f):=
  λw' hb=>lh ms v lk w' (h.below hb) hn (gk hr lk)
 clear h hn hr;go_enter Tryz.func189,Tryz.ntmps189;go_wp2_with (go_at_call 240;refine(HC.out _ ?hb).mono ?_)
 case hb=>exact(Below.refl _ _).alloc (By _) _
 rintro e w' ⟨p,f,rfl,aL,cG⟩;have hY:Hid (At ms lk p f):=cG;clear cG;go_wp2_with fail;go_ret2;exact⟨p,f,rfl,((Below.refl _ _).alloc (By _) _).trans (aL.mono (by simp)),hY.out⟩
end Gw
end Go.Proofs.YtfidjlcdlakceaaGreatDoor
