import Derived.Test.YtfidjlcdlakceaaGreatDoorrt4
set_option maxHeartbeats 4000000
set_option maxRecDepth 100000
open Go.Value renaming agg→Ip,string→I,int→O,bool→AT,slice→U,func→I7,tuple→Il
open Go.IntKind renaming i64→J
open Go.Ending renaming returned→sh
open Go.RowKit.Below renaming refl→Ia
open Nat renaming le_refl→By,not_lt_zero→IP,lt_succ_iff_lt_or_eq→II,zero_le→IF,zero_add→I3,lt_of_lt_of_le→Iu
open Option renaming some→Z,none→Y
open Go.Proofs.Tryz renaming prog→be
open Go.Sort renaming grow→Im
open Go renaming redrawn→Ix,Regrown→Qe,wp_region_quiet_below→IT,maxLen→Ii
namespace Go.Proofs.YtfidjlcdlakceaaGreatDoor
open Go.RowKit
theorem eO(a b:Mem)(w:World) :
 aT 177 #[Ip #[I a.name,O J a.state,O J a.aP,O J a.addr,AT a.server],Ip #[I b.name,O J b.state,O J b.aP,O J b.addr,AT b.server]] w λe w'=>e=sh (O J (bl a.name b.name))/\Below w.heap.size w w':=by
 go_enter Tryz.func177,Tryz.ntmps177;go_wp2_with (go_at_call 110;refine(fC _ _ _).mono ?_;rintro e w' ⟨rfl,rfl⟩);go_ret;exact⟨rfl,((Ia _ _).alloc (By _) _).alloc (by simp) _⟩
theorem Aq(a b:Mem)(w:World) :
 aT 239 #[Ip #[I a.name,O J a.state,O J a.aP,O J a.addr,AT a.server],Ip #[I b.name,O J b.state,O J b.aP,O J b.addr,AT b.server]] w λe w'=>e=sh (AT (ik a b))/\Below w.heap.size w w':=by
 refine(uS a.name b.name a.state a.aP a.addr a.server b.state b.aP b.addr b.server w).mono ?_;rintro e w' ⟨rfl,rfl⟩;exact⟨rfl,((Ia _ _).alloc (By _) _).alloc (by simp) _⟩
theorem jE(ms:List Mem)(b off cap:Nat)(w:World)(hr:Row w b off ms)(hb:b<w.heap.size)(hn:ms.length<=20) :
 Calls be 176 #[U (Z ⟨b,off,Y⟩) ms.length cap,I7 (.func 177) #[] #[]] w λe w'=>e=sh (AT (aC ms))/\Below w.heap.size w w':=by
 have HR:Hid (Row w b off ms):=hr;clear hr;have H4:Hid (∀k,k+1<ms.length->0<=bl (ms.getD k dm).name (ms.getD (k+1) dm).name->aC ms=false):=λk hk hl=>by
  rcases h:aC ms with _|_
  .rfl
  .have:=dL ms h k hk;omega
 have H0:Hid ((∀j,j+1<ms.length->bl (ms.getD j dm).name (ms.getD (j+1) dm).name<0)->aC ms=true):=dM ms;generalize hN:ms.length=n at *;have HN:Hid (ms.length=n):=hN;clear hN;generalize hC:aC ms=res at *;have HC:Hid (aC ms=res):=hC;clear hC;go_enter Tryz.func176,Tryz.ntmps176;go_wp2_with fail;go_loopw [5] (λi w'=>∃k:Nat,(k+1<=n\/k=0)/\i=O J (k+1)/\Below w.heap.size w w'/\Hid (∀j,j<k->bl (ms.getD j dm).name (ms.getD (j+1) dm).name<0)) (λi _=>n-(intOf i).toNat)
 case atStart=>exact⟨0,.inr rfl,rfl,Ia _ _,λj h=>absurd h (IP _)⟩
 case round=>
  obtain⟨q,hq,rfl,aL,hz⟩:=hrel;obtain⟨dJ,k8⟩:=cD aL;have bb:=aL.size;by_cases aB:q+1<n
  .have F:=((HR.out q (by rw[HN.out];omega)).eq (λo=>dJ b o hb)).re
   have G:=((HR.out (q+1) (by rw[HN.out];exact aB)).eq (λo=>dJ b o hb)).re;have HK:Hid (0<=bl (ms.getD q dm).name (ms.getD (q+1) dm).name->res=false):=λh=>H4.out q aB h;have HZ:Hid (bl (ms.getD q dm).name (ms.getD (q+1) dm).name<0->∀j,j<q+1->bl (ms.getD j dm).name (ms.getD (j+1) dm).name<0):=λh j hj=>by
    rcases II.1 hj with h2|rfl
    .exact hz.out j h2
    .exact h
   generalize ms.getD q dm=m1 at *;generalize ms.getD (q+1) dm=m2 at *;have hN:∀d os,Calls be 177 #[Ip #[I m1.name,O J m1.state,O J m1.aP,O J m1.addr,AT m1.server],Ip #[I m2.name,O J m2.state,O J m2.aP,O J m2.addr,AT m2.server]] (Im (Ix wr d) os) λe kE=>e=sh (O J (bl m1.name m2.name))/\∃p:Qe,kE=Im (Ix wr p.d) p.os:=λd os=>Calls.regrown_of (eO m1 m2 _);simp only[As] at F G;clear dJ k8;generalize bl m1.name m2.name=r at *;have uR:IntKind.i64.wrap (q:Int)=(q:Int):=by rw[IntKind.wrap_i64];omega
   have TA:q<n:=by omega
   have gU:(q:Int)+1<(n:Int):=by omega
   have hq0:(0:Int)<=(q:Int)+1:=by omega
   have Xo:((q:Int)+1).toNat=q+1:=by omega
   go_wp2_with fail;refine IT (by kernel_rfl) (by kernel_rfl) ?_;repeat(quiet_step (exact hN _ _))
   refine cA λdq oN gC=>?_;clear hN F G;by_cases hl:r<0
   .have dK:¬ (0<=r):=by omega
    go_wp2_with fail;go_roundw
    case rel=>exact⟨q+1,.inl (by omega),by go_num,aL.trans (gC.out.mono bb),HZ.out hl⟩
    case measure=>simp[intOf];omega
   .have dK:0<=r:=by omega
    have h4:Hid (res=false):=HK.out dK;go_wp2_with fail;go_ret;exact⟨az h4.out.symm,aL.trans (gC.out.mono bb)⟩
  .have h0:Hid (res=true):=H0.out λj hj=>hz.out j (by omega)
   go_wp2_with fail;go_ret;exact⟨az h0.out.symm,aL⟩
theorem fq(a:Option Addr)(cap:Nat)(fv:Value)(w:World) :
 Calls be 176 #[U a 0 cap,fv] w λe w'=>e=sh (AT true)/\w'=w:=by
 go_enter Tryz.func176,Tryz.ntmps176;go_wp2_with fail;go_loop [5] (λi=>i=O J 1) (λ_=>0)
 case atStart=>rfl
 case round=>
  subst hrel;go_wp2_with fail;go_ret;exact⟨rfl,rfl⟩
theorem mV(ms:List Mem)(b off cap:Nat)(lk:Mem)(w:World)(hr:Row w b off ms)(hb:b<w.heap.size)(hn:ms.length<=40)(nN:∀i j,i<=j->j<ms.length->bl (ms.getD j dm).name lk.name<0->bl (ms.getD i dm).name lk.name<0) :
 Calls be 271 #[U (Z ⟨b,off,Y⟩) ms.length cap,Ip #[I lk.name,O J lk.state,O J lk.aP,O J lk.addr,AT lk.server],I7 (.func 177) #[] #[]] w λe w'=>∃(p:Nat) (f:Bool),e=sh (Il #[O J p,AT f])/\Below w.heap.size w w' /\
  p<=ms.length/\(∀j,j<p->bl (ms.getD j dm).name lk.name<0)/\(∀j,p<=j->j<ms.length->0<=bl (ms.getD j dm).name lk.name)/\(f=true↔p<ms.length/\bl (ms.getD p dm).name lk.name=0):=by
 have HR:Hid (Row w b off ms):=hr;clear hr;have HM:Hid _:=nN;clear nN;generalize hN:ms.length=n at *;have HN:Hid (ms.length=n):=hN;clear hN;go_enter Tryz.func271,Tryz.ntmps271;go_wp2_with fail;obtain⟨W0,eu,eN,r8,eo⟩:=eC w #[I lk.name,O J lk.state,O J lk.aP,O J lk.addr,AT lk.server] 70;have RV:Hid (Row W0 b off ms):=HR.out.later eN hb;have HT:Hid (As W0 w.heap.size 0 lk):=⟨af eo 0,af eo 1,af eo 2,af eo 3,af eo 4⟩;have dB:Hid (Below w.heap.size w W0):=eN;have Xp:Hid (W0=w.alloc (.cells #[I lk.name,O J lk.state,O J lk.aP,O J lk.addr,AT lk.server] 70)):=eu;clear eo eN HR eu;have Hi:b<w.heap.size+1:=by omega
 go_loopw [9,10] (λi j w'=>∃k l:Nat,k<=l/\l<=n/\i=O J k/\j=O J l/\Below (w.heap.size+1) W0 w'/\Hid (∀j,j<k->bl (ms.getD j dm).name lk.name<0)/\Hid (∀j,l<=j->j<n->0<=bl (ms.getD j dm).name lk.name)) (λi j _=>(intOf j).toNat-(intOf i).toNat)
 case atStart=>exact⟨0,n,IF _,By _,rfl,rfl,by rw[Xp.out];exact Ia _ _,λj h=>absurd h (IP _),λj h1 h2=>by omega⟩
 case round=>
  obtain⟨k,l,Ap,RW,rfl,rfl,aL,MT,MU⟩:=hrel;have bb:=aL.size;have dJ:∀b o,b<w.heap.size+1->wr.cell? ⟨b,o,Y⟩=W0.cell? ⟨b,o,Y⟩:=λb o h=>aL.cell (p:=⟨b,o,Y⟩) h;have G:=(HT.out.eq (λo=>dJ w.heap.size o (by omega))).re;simp only[As,I3] at G;by_cases aB:k<l
  .obtain⟨h,hh,h1,h2⟩:∃h:Nat,((k:Int)+(l:Int))/2=(h:Int)/\k<=h/\h<l:=⟨(k+l)/2,by omega,by omega,by omega⟩
   have F:=((RV.out h (by rw[HN.out];omega)).eq (λo=>dJ b o Hi)).re;have mW:=HM.out;have HK:Hid (bl (ms.getD h dm).name lk.name<0->∀j,j<h+1->bl (ms.getD j dm).name lk.name<0):=λhx j hj=>mW j h (by omega) (by omega) hx;have HL:Hid (0<=bl (ms.getD h dm).name lk.name->∀j,h<=j->j<n->0<=bl (ms.getD j dm).name lk.name):=λhx j hj RX=>by
    apply Int.not_lt.1;intro hq;have:=mW h j hj RX hq;omega
   clear mW;have hhn:h<n:=by omega
   generalize ms.getD h dm=m at *;have hO:∀d os,Calls be 177 #[Ip #[I m.name,O J m.state,O J m.aP,O J m.addr,AT m.server],Ip #[I lk.name,O J lk.state,O J lk.aP,O J lk.addr,AT lk.server]] (Im (Ix wr d) os) λe kE=>e=sh (O J (bl m.name lk.name))/\∃p:Qe,kE=Im (Ix wr p.d) p.os:=λd os=>Calls.regrown_of (eO m lk _);simp only[As] at F;clear dJ;generalize bl m.name lk.name=r at *;go_wp2_with fail;refine IT (by kernel_rfl) (by kernel_rfl) ?_;repeat(quiet_step (exact hO _ _))
   refine cA λdq oN gC=>?_;clear hO F G;by_cases xH:r<0
   .go_wp2_with fail
    exact⟨⟨h+1,l,by omega,by omega,by go_num,rfl,aL.trans (gC.out.mono (by omega)),HK.out xH,MU⟩,by simp[intOf];omega⟩
   .have NA:0<=r:=by omega
    go_wp2_with fail;exact⟨⟨k,h,by omega,by omega,rfl,rfl,aL.trans (gC.out.mono (by omega)),MT,HL.out NA⟩,by simp[intOf];omega⟩
  .have TB:l=k:=by omega
   subst TB;by_cases gj:l<n
   .have F:=((RV.out l (by rw[HN.out];omega)).eq (λo=>dJ b o Hi)).re
    generalize hm:ms.getD l dm=m at *;have Hm:Hid (ms.getD l dm=m):=hm;clear hm;have hO:∀d os,Calls be 177 #[Ip #[I m.name,O J m.state,O J m.aP,O J m.addr,AT m.server],Ip #[I lk.name,O J lk.state,O J lk.aP,O J lk.addr,AT lk.server]] (Im (Ix wr d) os) λe kE=>e=sh (O J (bl m.name lk.name))/\∃p:Qe,kE=Im (Ix wr p.d) p.os:=λd os=>Calls.regrown_of (eO m lk _);simp only[As] at F;clear dJ;generalize Cn:bl m.name lk.name=r at *;have Hr:Hid (bl m.name lk.name=r):=Cn;clear Cn;go_wp2_with fail;refine IT (by kernel_rfl) (by kernel_rfl) ?_;repeat(quiet_step (exact hO _ _))
    refine cA λdq oN gC=>?_;clear hO F G;go_wp2_with fail;go_ret2;refine⟨l,_,rfl,dB.out.trans ((aL.trans (gC.out.mono (by omega))).mono (by omega)),by omega,MT.out,MU.out,?_⟩;rw[Hm.out,Hr.out];simp[gj]
   .clear G
    have hkd:decide ((l:Int)<(n:Int))=false:=by simp;omega
    go_wp2_with fail;go_quiet (fail)
    go_wp2_with fail;go_ret2;refine⟨l,_,rfl,dB.out.trans ((below_drewN aL _).mono (by omega)),by omega,MT.out,MU.out,?_⟩;simp[gj]
theorem lg(a:Option Addr)(cap:Nat)(lk:Mem)(fv:Value)(w:World) :
 Calls be 271 #[U a 0 cap,Ip #[I lk.name,O J lk.state,O J lk.aP,O J lk.addr,AT lk.server],fv] w λe w'=>e=sh (Il #[O J 0,AT false])/\Below w.heap.size w w':=by
 go_enter Tryz.func271,Tryz.ntmps271;go_wp2_with fail;go_loop [9,10] (λi j=>i=O J 0/\j=O J 0) (λ_ _=>0)
 case atStart=>exact⟨rfl,rfl⟩
 case round=>
  obtain⟨rfl,rfl⟩:=hrel;go_wp2_with fail;go_quiet (fail)
  go_wp2_with fail;go_ret2;exact⟨rfl,below_drewN ((Ia _ _).alloc (By _) _) _⟩
theorem lh(ms:List Mem)(v:Value)(lk:Mem)(w:World)(h:Sl w v ms)(hn:ms.length<=40)(nN:∀i j,i<=j->j<ms.length->bl (ms.getD j dm).name lk.name<0->bl (ms.getD i dm).name lk.name<0) :
 Calls be 271 #[v,Ip #[I lk.name,O J lk.state,O J lk.aP,O J lk.addr,AT lk.server],I7 (.func 177) #[] #[]] w λe w'=>∃(p:Nat) (f:Bool),e=sh (Il #[O J p,AT f])/\Below w.heap.size w w'/\At ms lk.name p f:=by
 obtain⟨a,cap,rfl,hs,h⟩:=h;rcases h with rfl|⟨b,off,rfl,hb,hr⟩
 .refine(lg a cap lk _ w).mono ?_
  rintro e w' ⟨rfl,hb⟩;exact⟨0,false,rfl,hb,⟨by simp,λj h=>by omega,λj h h2=>by simp at h2,by simp⟩⟩
 .refine(mV ms b off cap lk w hr hb hn nN).mono ?_
  rintro e w' ⟨p,f,rfl,aL,g1,g2,g3,g4⟩;exact⟨p,f,rfl,aL,⟨g1,g2,g3,g4⟩⟩
theorem nO(ms:List Mem)(v:Value)(lk:Mem)(w:World)(h:Sl w v ms)(hn:ms.length<=40)(hr:dt ms) :
 Calls be 247 #[v,Ip #[I lk.name,O J lk.state,O J lk.aP,O J lk.addr,AT lk.server],I7 (.func 177) #[] #[]] w λe w'=>∃(p:Nat) (f:Bool),e=sh (Il #[O J p,AT f])/\Below w.heap.size w w'/\At ms lk.name p f:=by
 have HC:Hid (∀w',Below w.heap.size w w'->Calls be 271 #[v,Ip #[I lk.name,O J lk.state,O J lk.aP,O J lk.addr,AT lk.server],I7 (.func 177) #[] #[]] w' λe kE=>∃(p:Nat) (f:Bool),e=sh (Il #[O J p,AT f])/\Below w'.heap.size w' kE/\At ms lk.name p f):=
  λw' hb=>lh ms v lk w' (h.below hb) hn (gk hr lk.name)
 clear h hn hr;go_enter Tryz.func247,Tryz.ntmps247;go_wp2_with (go_at_call 271;refine(HC.out _ ?hb).mono ?_)
 case hb=>exact(Ia _ _).alloc (By _) _
 rintro e w' ⟨p,f,rfl,aL,cG⟩;have hY:Hid (At ms lk.name p f):=cG;clear cG;go_wp2_with fail;go_ret2;exact⟨p,f,rfl,((Ia _ _).alloc (By _) _).trans (aL.mono (by simp)),hY.out⟩
theorem NB{a b:List Mem}(Eb:a.length<=20)(GG:b.length<=20)(k:Nat):(qJ a b k).length<=40:=by
 unfold qJ;split
 .simp
 .split
  .omega
  .have:=lS b a;omega
structure Kth(w:World)(pb:Nat)(a b:List Mem)(k:Nat)(l:List Mem)(pk:Option Addr)(ck:Nat):Prop where
 cell:w.cell? ⟨pb,k,Y⟩=Z (U pk l.length ck)
 row:l=[]\/∃b off,pk=Z ⟨b,off,Y⟩/\b<w.heap.size/\Row w b off l
 oks:∀m∈l,(m).name.size<=Ii
 len:l.length<=20
 aet:(qJ a b k).length<=20
 XJ:dt (qJ a b k)
 aeu:∀m∈qJ a b k,(m).name.size<=Ii
 step:qJ a b (k+1)=aZ (qJ a b k) l
theorem TC{a b:List Mem}{va vb:Value}{pb:Nat}{w:World}(ha:Sl w va a)(hb:Sl w vb b)(mJ:w.cell? ⟨pb,0,Y⟩=Z va)(kM:w.cell? ⟨pb,1,Y⟩=Z vb)(Eb:a.length<=20)(GG:b.length<=20)(ra:dt a)(k:Nat)(hk:k<2) :
 ∃l pk ck,Kth w pb a b k l pk ck:=by
 obtain⟨pa,ca,rfl,nsa,ha⟩:=ha;obtain⟨pv,cb,rfl,nsb,hb⟩:=hb;have j3:k=0\/k=1:=by omega
 rcases j3 with rfl|rfl
 .exact⟨a,pa,ca,mJ,ha,eK nsa,Eb,by simp[qJ],by simp[qJ],by simp[qJ],(Ec a ra).symm⟩
 .exact⟨b,pv,cb,kM,hb,eK nsb,GG,Eb,ra,eK nsa,rfl⟩
theorem Ed(a b:List Mem)(va vb:Value)(pb cap:Nat)(w:World)(ha:Sl w va a)(hb:Sl w vb b)(uj:pb<w.heap.size)(mJ:w.cell? ⟨pb,0,Y⟩=Z va)(kM:w.cell? ⟨pb,1,Y⟩=Z vb)(Eb:a.length<=20)(GG:b.length<=20)(ra:dt a) :
 Calls be 245 #[I7 (.func 177) #[] #[],I7 (.func 239) #[] #[],U (Z ⟨pb,0,Y⟩) 2 cap] w λe w'=>∃v',e=sh v'/\Own w.heap.size w' v' (aZ a b)/\Below w.heap.size w w':=by
 have HK:Hid (∀k,k<2->∃l pk ck,Kth w pb a b k l pk ck):=λk hk=>TC ha hb mJ kM Eb GG ra k hk;have HL2:Hid (∀k,(qJ a b k).length<=40):=NB Eb GG;clear ha hb mJ kM Eb GG ra;go_enter Tryz.func245,Tryz.ntmps245;go_wp2_with fail;go_loopw [7,16] (λkn i w'=>∃k:Nat,k<=2/\i=O J k/\Below w.heap.size w w'/\Hid (Own w.heap.size w' kn (qJ a b k))) (λ_ i _=>2-(intOf i).toNat)
 case atStart=>exact⟨0,by omega,rfl,Ia _ _,bz _ _⟩
 case round=>
  obtain⟨k,hk,rfl,aL,HO⟩:=hrel;obtain⟨dJ,k8⟩:=cD aL;have bb:=aL.size;by_cases rD:k<2
  .obtain⟨l,pk,ck,TD⟩:=HK.out k rD
   have TE:Hid (Kth w pb a b k l pk ck):=TD;have bj:=TD.cell;clear TD;generalize Xq:l.length=nl at *;have TF:Hid (l.length=nl):=Xq;clear Xq;have ahJ:nl<=20:=by have:=TE.out.len;have:=TF.out;omega
   have akn:(k:Int)<2:=by omega
   go_wp2_with fail;go_loopw [7,22] (λkn j w'=>∃q:Nat,q<=nl/\j=O J q/\Below w.heap.size w w'/\Hid (Own w.heap.size w' kn (aZ (qJ a b k) (l.take q)))) (λ_ j _=>nl-(intOf j).toNat)
   case atStart=>exact⟨0,IF _,rfl,aL,HO⟩
   case round=>
    clear dJ k8 bb aL HO bj;obtain⟨q,hq,rfl,aL,HO⟩:=hrel;obtain⟨dJ,k8⟩:=cD aL;have bb:=aL.size;by_cases aB:q<nl
    .obtain⟨b2,off,aev,MV,dP⟩:∃TG off,pk=Z ⟨TG,off,Y⟩/\TG<w.heap.size/\Row w TG off l:=by
      rcases TE.out.row with h|h
      .have:=TF.out;rw[h] at this;simp at this;omega
      .exact h
     subst aev;obtain⟨c0,c1,c2,c3,c4⟩:=dP q (by rw[TF.out];exact aB);clear dP;have HJ:Hid (aZ (qJ a b k) (l.take (q+1))=bB (aZ (qJ a b k) (l.take q)) (l.getD q dm)):=Ar (qJ a b k) l q (by rw[TF.out];exact aB);have HR:Hid (dt (aZ (qJ a b k) (l.take q))):=sd _ _ TE.out.XJ;have HNs:Hid (∀j,((aZ (qJ a b k) (l.take q)).getD j dm).name.size<=Ii):=bN (Co _ _ TE.out.aeu (λx hx=>TE.out.oks x (List.mem_of_mem_take hx)));have HL:Hid ((aZ (qJ a b k) (l.take q)).length<=40):=by
      have h1:=lS (l.take q) (qJ a b k);have h2:(l.take q).length<=q:=List.length_take_le _ _;have h3:=TE.out.aet;show(aZ (qJ a b k) (l.take q)).length<=40;omega
     generalize l.getD q dm=m at *;generalize aZ (qJ a b k) (l.take q)=known at *;have aex:known.length<=40:=HL.out;obtain⟨W1,gA,an,gi,bf⟩:=eC wr #[I m.name,O J m.state,O J m.aP,O J m.addr,AT m.server] 70;have lT:Hid (Own w.heap.size W1 u7 known):=HO.out.below an;have HF:Hid (Calls be 247 #[u7,Ip #[I m.name,O J m.state,O J m.aP,O J m.addr,AT m.server],I7 (.func 177) #[] #[]] W1 λe w'=>∃(p:Nat) (f:Bool),e=sh (Il #[O J p,AT f])/\Below W1.heap.size W1 w'/\At known m.name p f):=
      nO known u7 m W1 (lT.out.sl HNs.out) HL.out HR.out
     have aK:Hid (Below w.heap.size w W1):=aL.trans (an.mono bb);have HT:Hid (As W1 wr.heap.size 0 m):=⟨af bf 0,af bf 1,af bf 2,af bf 3,af bf 4⟩;have tU:Hid _:=gA;have TH:w.heap.size<=W1.heap.size:=by omega
     clear bf an HO HL HR gA;go_wp2_with fail;rw[<- tU.out];refine HF.out.mono ?_;rintro e w2 ⟨p,f,rfl,aD,cG⟩;have hY:Hid _:=cG;have ako:=cG.le;have Ka:=aD.size;have jF:Hid (Own _ _ _ _):=lT.out.below aD;have bD:Hid _:=aK.out.trans (aD.mono TH);have xI:Hid (As w2 wr.heap.size 0 m):=HT.out.eq (λo=>aD.cell (p:=⟨wr.heap.size,o,Y⟩) (by show wr.heap.size<W1.heap.size;omega));obtain⟨t0,t1,t2,t3,t4⟩:w2.cell? ⟨wr.heap.size,0,Y⟩=Z (I m.name)/\w2.cell? ⟨wr.heap.size,1,Y⟩=Z (O J m.state)/\w2.cell? ⟨wr.heap.size,2,Y⟩=Z (O J m.aP)/\w2.cell? ⟨wr.heap.size,3,Y⟩=Z (O J m.addr)/\w2.cell? ⟨wr.heap.size,4,Y⟩=Z (AT m.server):=xI.out;have nP:w.heap.size<=w2.heap.size:=by omega
     have aey:wr.heap.size<w2.heap.size:=by omega
     clear cG HF dJ k8 c0 c1 c2 c3 c4 aD lT aK HT;cases f
     .have bE:Hid (u7.ownBlock≠Z w2.heap.size):=λe=>by have:=jF.out.lt _ e;omega
      have gI:Hid (Own w.heap.size (w2.alloc (.cells #[I m.name,O J m.state,O J m.aP,O J m.addr,AT m.server] 70)) u7 known):=jF.out.below ((Ia _ _).alloc (By _) _);have RQ:Hid ((w2.alloc (.cells #[I m.name,O J m.state,O J m.aP,O J m.addr,AT m.server] 70)).heap[w2.heap.size]?=Z (.cells m.cs.toArray 70 (0,0))):=heap_alloc_new w2 _;go_wp2_with (go_at_call 270;refine(Au w.heap.size p w2.heap.size u7 known m _ gI.out hY.out.le (by omega) (by simp;omega) RQ.out bE.out).mono ?_;rintro e w4 ⟨v',rfl,g1,g2⟩);go_roundw
      case rel=>
       have Av:∃TI:Nat,TI<=nl/\Value.int J ((q:Int)+1)=O J TI/\Below w.heap.size w w4/\Hid (Own w.heap.size w4 v' (aZ (qJ a b k) (l.take TI))):=⟨q+1,by omega,by go_num,below_grown (bD.out.alloc nP _) gI.out g2 (by simp;omega),by rw[HJ.out,lj known m p false hY.out];exact g1⟩;first|exact Av|((repeat apply Exists.intro);exact⟨Av,rfl⟩)
      case measure=>simp[intOf];omega
     .have hp:p<known.length:=(hY.out.is.1 rfl).1
      obtain⟨g,c,hu⟩:=jG jF.out p hp;subst hu;have F:=(lU jF.out p hp).re;have oU:=jF.out.lt g rfl;have aez:g<w2.heap.size:=oU.2;generalize hm:known.getD p dm=m2 at *;have Hm:Hid _:=hm;clear hm;have hN:∀d os,Calls be 239 #[Ip #[I m.name,O J m.state,O J m.aP,O J m.addr,AT m.server],Ip #[I m2.name,O J m2.state,O J m2.aP,O J m2.addr,AT m2.server]] (Im (Ix w2 d) os) λe kE=>e=sh (AT (ik m m2))/\∃p:Qe,kE=Im (Ix w2 p.d) p.os:=λd os=>Calls.regrown_of (Aq m m2 _);have G:=xI.out.re;simp only[As,I3] at F G;have iz:∀o,w2.frozen? ⟨g,o,Y⟩=false:=λo=>World.ownsRow.frozenAt jF.out o;have HFZ:Hid _:=iz;clear iz t0 t1 t2 t3 t4;generalize Xr:ik m m2=nw at *;have Hnw:Hid _:=Xr;clear Xr;go_wp2_with fail;refine IT (by kernel_rfl) (by kernel_rfl) ?_;repeat(quiet_step (exact hN _ _))
      refine cA λdq oN gC=>?_;clear hN F G;cases nw
      .go_wp2_with fail
       go_roundw
       case rel=>
        have Av:∃TI:Nat,TI<=nl/\Value.int J ((q:Int)+1)=O J TI/\Below w.heap.size w (Im (Ix w2 dq) oN)/\Hid (Own w.heap.size (Im (Ix w2 dq) oN) (U (Z ⟨g,0,Y⟩) known.length c) (aZ (qJ a b k) (l.take TI))):=⟨q+1,by omega,by go_num,bD.out.trans (gC.out.mono nP),by rw[HJ.out,lj known m p true hY.out,if_pos rfl,Hm.out,if_neg (λh=>Bool.false_ne_true (Hnw.out.symm.trans h))];exact jF.out.below gC.out⟩;first|exact Av|((repeat apply Exists.intro);exact⟨Av,rfl⟩)
       case measure=>simp[intOf];omega
      .generalize Im (Ix w2 dq) oN=w3 at *
       have gI:Hid (Own _ _ _ _):=jF.out.below gC.out;obtain⟨c0,c1,c2,c3,c4⟩:=lU gI.out p hp;rw[Hm.out] at c0 c1 c2 c3 c4;have xJ:=(gI.out.lt g rfl).2;have iz:∀o,w3.frozen? ⟨g,o,Y⟩=false:=λo=>World.ownsRow.frozenAt gI.out o;obtain⟨s0,s1,s2,s3,s4⟩:w3.cell? ⟨wr.heap.size,0,Y⟩=Z (I m.name)/\w3.cell? ⟨wr.heap.size,1,Y⟩=Z (O J m.state)/\w3.cell? ⟨wr.heap.size,2,Y⟩=Z (O J m.aP)/\w3.cell? ⟨wr.heap.size,3,Y⟩=Z (O J m.addr)/\w3.cell? ⟨wr.heap.size,4,Y⟩=Z (AT m.server):=xI.out.eq (λo=>gC.out.cell (p:=⟨wr.heap.size,o,Y⟩) aey);go_wp2_with fail;refine⟨⟨q+1,by omega,by go_num,?_,?_⟩,by simp[intOf];omega⟩
       .exact((((((bD.out.trans (gC.out.mono nP)).setCell (p:=⟨g,p*5,Y⟩) oU.1 (I m.name)).setCell (p:=⟨g,p*5+1,Y⟩) oU.1 (O J m.state)).setCell (p:=⟨g,p*5+2,Y⟩) oU.1 (O J m.aP)).setCell (p:=⟨g,p*5+3,Y⟩) oU.1 (O J m.addr)).setCell (p:=⟨g,p*5+4,Y⟩) oU.1 (AT m.server))
       .rw[HJ.out,lj known m p true hY.out,if_pos rfl,Hm.out,if_pos Hnw.out]
        exact NC gI.out hp m
    .have TA:q=nl:=by omega
     subst TA;have gI:Hid (Own w.heap.size wr u7 (qJ a b (k+1))):=by
      have h:=HO.out;rw[List.take_of_length_le (by rw[TF.out];exact By _)] at h;rw[TE.out.step];exact h
     go_wp2_with fail;go_roundw
     case rel=>exact⟨k+1,by omega,by go_num,aL,gI⟩
     case measure=>simp[intOf];omega
  .have hk3:k=2:=by omega
   subst hk3;go_wp2_with fail;go_ret;exact⟨_,rfl,HO.out,aL⟩
theorem fc(m:Mem)(w:World)(hm:m.name.size<=Ii) :
 Calls be 175 #[Ip #[I m.name,O J m.state,O J m.aP,O J m.addr,AT m.server]] w λe w'=>e=sh (O J m.e)/\Below w.heap.size w w':=by
 refine(wo m.name m.state m.aP m.addr m.server w hm).mono ?_;rintro e w' ⟨rfl,rfl⟩;exact⟨rfl,(Ia _ _).alloc (By _) _⟩
theorem gl(ms:List Mem)(b off cap:Nat)(w:World)(hr:Row w b off ms)(hb:b<w.heap.size)(hn:ms.length<=20)(hs:∀j,(ms.getD j dm).name.size<=Ii) :
 Calls be 127 #[U (Z ⟨b,off,Y⟩) ms.length cap] w λe w'=>e=sh (O J (aM ms))/\Below w.heap.size w w':=by
 have HR:Hid (Row w b off ms):=hr;have HE:Hid (∀k,k<ms.length->(∀j,j<k->(ms.getD j dm).e=0)->(ms.getD k dm).e≠0->aM ms=(ms.getD k dm).e):=λk h1 h2 h3=>ll ms k hn h1 h2 h3;have H4:Hid ((∀j,j<ms.length->(ms.getD j dm).e=0)->aM ms=if aC ms=true then 0 else 4):=λh1=>ja ms hn h1;have Kb:Hid (∀w',Below w.heap.size w w'->Calls _ _ _ _ _):=λw' pX=>jE ms b off cap w' (hr.later pX hb) (Iu hb pX.size) hn;clear hr;generalize hN:ms.length=n at *;have HN:Hid _:=hN;clear hN;have HS:Hid _:=hs;clear hs;generalize hC:aM ms=res at *;have HC:Hid _:=hC;clear hC;generalize Kc:aC ms=rb at *;have TJ:Hid _:=Kc;clear Kc;go_enter Tryz.func127,Tryz.ntmps127;go_wp2_with fail;go_loopw [11] (λi w'=>∃k:Nat,k<=n/\i=O J k/\Below w.heap.size w w'/\Hid (∀j,j<k->(ms.getD j dm).e=0)) (λi _=>n-(intOf i).toNat)
 case atStart=>exact⟨0,IF _,rfl,Ia _ _,λj h=>absurd h (IP _)⟩
 case round=>
  obtain⟨k,hk,rfl,aL,hz⟩:=hrel;obtain⟨dJ,k8⟩:=cD aL;have bb:=aL.size;by_cases aB:k<n
  .obtain⟨c0,c1,c2,c3,c4⟩:=HR.out k (by rw[HN.out];exact aB)
   have GH:Hid _:=HS.out k;have HK:Hid ((ms.getD k dm).e≠0->res=(ms.getD k dm).e):=λh=>HE.out k aB hz.out h;have HZ:Hid ((ms.getD k dm).e=0->∀j,j<k+1->(ms.getD j dm).e=0):=λh j hj=>by
    rcases II.1 hj with h2|rfl
    .exact hz.out j h2
    .exact h
   generalize ms.getD k dm=m at *;have HO:Hid (∀w,Calls _ _ _ _ _):=λw=>fc m w GH.out;generalize m.e=me at *;rcases he:decide (me=0) with _|_
   .have gJ:(me !=0)=true:=by simpa using he
    clear he;go_wp2_with (go_at_call 175;refine(HO.out _).mono ?_;rintro e w' ⟨rfl,aD⟩);go_ret;have bE:me≠0:=by simpa using gJ
    have iS:=HK.out bE;exact⟨aj iS.symm,(aL.alloc bb _).trans (aD.mono (by simp;omega))⟩
   .have gJ:(me !=0)=false:=by simpa using he
    clear he;go_wp2_with (go_at_call 175;refine(HO.out _).mono ?_;rintro e w' ⟨rfl,aD⟩);go_roundw
    case rel=>
     have Kd:me=0:=by simpa using gJ
     exact⟨k+1,by omega,by go_num,(aL.alloc bb _).trans (aD.mono (by simp;omega)),HZ.out Kd⟩
    case measure=>simp[intOf];omega
  .have cX:Hid (∀j,j<n->(ms.getD j dm).e=0):=λj hj=>hz.out j (by omega)
   have gW:Hid _:=H4.out cX.out;clear hz cX H4 HE HC TJ;cases rb
   .go_wp2_with (go_at_call 176;refine(Kb.out _ aL).mono ?_;rintro e w' ⟨rfl,aD⟩)
    go_ret;exact⟨aj (by rw[gW.out];rfl),aL.trans (aD.mono bb)⟩
   .go_wp2_with (go_at_call 176;refine(Kb.out _ aL).mono ?_;rintro e w' ⟨rfl,aD⟩)
    go_ret;exact⟨aj (by rw[gW.out];rfl),aL.trans (aD.mono bb)⟩
theorem fs(a:Option Addr)(n cap:Nat)(w:World)(hn:20<n) :
 Calls be 127 #[U a n cap] w λe w'=>e=sh (O J 2)/\w'=w:=by
 go_enter Tryz.func127,Tryz.ntmps127;go_wp2_with fail;go_ret;exact⟨rfl,rfl⟩
theorem ft(a:Option Addr)(cap:Nat)(w:World) :
 Calls be 127 #[U a 0 cap] w λe w'=>e=sh (O J 0)/\w'=w:=by
 go_enter Tryz.func127,Tryz.ntmps127;go_wp2_with fail;go_loop [11] (λi=>i=O J 0) (λ_=>0)
 case atStart=>rfl
 case round=>
  subst hrel;go_wp2_with (go_at_call 176;refine(fq _ _ _ _).mono ?_;rintro e w' ⟨rfl,rfl⟩);go_ret;exact⟨rfl,rfl⟩
theorem aR(ms:List Mem)(v:Value)(w:World)(h:Sl w v ms) :
 Calls be 127 #[v] w λe w'=>e=sh (O J (aM ms))/\Below w.heap.size w w':=by
 obtain⟨a,cap,rfl,hs,h⟩:=h;by_cases hn:20<ms.length
 .refine(fs a ms.length cap w hn).mono ?_
  rintro e w' ⟨rfl,rfl⟩;exact⟨aj (by rw[aM,if_pos hn]),Ia _ _⟩
 .rcases h with rfl|⟨b,off,rfl,hb,hr⟩
  .refine(ft a cap w).mono ?_
   rintro e w' ⟨rfl,rfl⟩;exact⟨rfl,Ia _ _⟩
  .exact gl ms b off cap w hr hb (by omega) hs
theorem ee(a b:List Mem)(va vb:Value)(pb cap:Nat)(w:World)(ha:Sl w va a)(hb:Sl w vb b)(uj:pb<w.heap.size)(mJ:w.cell? ⟨pb,0,Y⟩=Z va)(kM:w.cell? ⟨pb,1,Y⟩=Z vb) :
 Calls be 238 #[U (Z ⟨pb,0,Y⟩) 2 cap] w λe w'=>e=sh (O J (aY a b))/\Below w.heap.size w w':=by
 have HA:Hid (Sl w va a):=ha;have HB:Hid (Sl w vb b):=hb;clear ha hb;go_enter Tryz.func238,Tryz.ntmps238;go_wp2_with fail;go_loopw [8] (λi w'=>∃k:Nat,k<=2/\i=O J k/\Below w.heap.size w w'/\Hid (0<k->aM a=0)/\Hid (1<k->aM b=0)) (λi _=>2-(intOf i).toNat)
 case atStart=>exact⟨0,by omega,rfl,Ia _ _,λh=>by omega,λh=>by omega⟩
 case round=>
  obtain⟨k,hk,rfl,aL,cE,cP⟩:=hrel;obtain⟨dJ,k8⟩:=cD aL;have bb:=aL.size;have RY:Hid (Sl wr va a):=HA.out.below aL;have RZ:Hid (Sl wr vb b):=HB.out.below aL;have j3:k=0\/k=1\/k=2:=by omega
  rcases j3 with rfl|rfl|rfl
  .rcases he:decide (aM a=0) with _|_
   .have gJ:(aM a !=0)=true:=by simpa using he
    clear he;go_wp2_with (go_at_call 127;refine(aR a _ _ RY.out).mono ?_;rintro e w' ⟨rfl,aD⟩);go_ret;exact⟨aj (by have h0:aM a≠0:=(by simpa using gJ);rw[aY,if_neg h0]),aL.trans (aD.mono bb)⟩
   .have gJ:(aM a !=0)=false:=by simpa using he
    clear he;go_wp2_with (go_at_call 127;refine(aR a _ _ RY.out).mono ?_;rintro e w' ⟨rfl,aD⟩);go_roundw
    case rel=>exact⟨1,by omega,by go_num,aL.trans (aD.mono bb),λ_=>(by simpa using gJ),λh=>by omega⟩
    case measure=>simp[intOf]
  .have h0:Hid _:=cE.out (by omega)
   rcases he:decide (aM b=0) with _|_
   .have gJ:(aM b !=0)=true:=by simpa using he
    clear he;go_wp2_with (go_at_call 127;refine(aR b _ _ RZ.out).mono ?_;rintro e w' ⟨rfl,aD⟩);go_ret;exact⟨aj (by rw[aY,if_pos h0.out]),aL.trans (aD.mono bb)⟩
   .have gJ:(aM b !=0)=false:=by simpa using he
    clear he;go_wp2_with (go_at_call 127;refine(aR b _ _ RZ.out).mono ?_;rintro e w' ⟨rfl,aD⟩);go_roundw
    case rel=>exact⟨2,by omega,by go_num,aL.trans (aD.mono bb),λ_=>h0.out,λ_=>(by simpa using gJ)⟩
    case measure=>simp[intOf]
  .go_wp2_with fail
   go_ret;exact⟨aj (by rw[aY,if_pos (cE.out (by omega)),cP.out (by omega)]),aL⟩
theorem Ke(a b:List Mem)(va vb:Value)(pb cap:Nat)(w:World)(ha:Sl w va a)(hb:Sl w vb b)(uj:pb<w.heap.size)(mJ:w.cell? ⟨pb,0,Y⟩=Z va)(kM:w.cell? ⟨pb,1,Y⟩=Z vb)(bE:aY a b≠0) :
 Calls be 200 #[U (Z ⟨pb,0,Y⟩) 2 cap] w λe w'=>e=sh (Il #[U Y 0 0,O J (aX a b)])/\Below w.heap.size w w':=by
 have he:(aY a b !=0)=true:=by simpa using bE
 have HE:Hid (aX a b=aY a b):=if_neg bE;have mC:=ee a b va vb pb cap w ha hb uj mJ kM;have HC:Hid (Calls _ _ _ _ _):=mC;clear mC ha hb bE;go_enter Tryz.func200,Tryz.ntmps200;go_wp2_with (go_at_call 238;refine HC.out.mono ?_;rintro e w' ⟨rfl,aD⟩);go_ret2;exact⟨by rw[HE.out];rfl,aD⟩
theorem Ee(a b:List Mem)(va vb:Value)(pb cap:Nat)(w:World)(ha:Sl w va a)(hb:Sl w vb b)(uj:pb<w.heap.size)(mJ:w.cell? ⟨pb,0,Y⟩=Z va)(kM:w.cell? ⟨pb,1,Y⟩=Z vb)(h0:aY a b=0) :
 Calls be 200 #[U (Z ⟨pb,0,Y⟩) 2 cap] w λe w'=>∃v',e=sh (Il #[v',O J (aX a b)])/\Below w.heap.size w w' /\
  (20<(aZ a b).length->v'=U Y 0 0)/\((aZ a b).length<=20->Own w.heap.size w' v' (aZ a b)):=by
 have he:(aY a b !=0)=false:=by simpa using h0
 have hca:aM a=0:=by unfold aY at h0;split at h0<;>assumption
 have hcb:aM b=0:=by unfold aY at h0;rw[if_pos hca] at h0;exact h0
 have za:=aI hca;have zb:=aI hcb;have HE:Hid (aX a b=if 20<(aZ a b).length then 2 else 0):=if_pos h0;have HC:Hid (Calls _ _ _ _ _):=ee a b va vb pb cap w ha hb uj mJ kM;have HJ:Hid (∀w1,Below w.heap.size w w1->Calls be 245 #[I7 (.func 177) #[] #[],I7 (.func 239) #[] #[],U (Z ⟨pb,0,Y⟩) 2 cap] w1 λe w'=>∃v',e=sh v'/\Own w1.heap.size w' v' (aZ a b)/\Below w1.heap.size w1 w'):=λw1 an=>
  Ed a b va vb pb cap w1 (ha.below an) (hb.below an) (Iu uj an.size) ((cD an).1 pb 0 uj |>.trans mJ) ((cD an).1 pb 1 uj |>.trans kM) za.1 zb.1 za.2.1
 have aex:(aZ a b).length<=40:=by have h1:=lS b a;have h2:=za.1;have h3:=zb.1;omega
 clear h0 hca hcb za zb ha hb mJ kM;generalize aZ a b=jl at *;generalize hgn:jl.length=n at *;have HGN:Hid _:=hgn;clear hgn;go_enter Tryz.func200,Tryz.ntmps200;go_wp2_with (go_at_call 238;refine HC.out.mono ?_;rintro e w1 ⟨rfl,an⟩);refine(HJ.out w1 an).mono ?_;rintro e w2 ⟨v',rfl,ho,aD⟩;have Cp:∃p c,v'=U p n c:=by
  have hn:=HGN.out;rcases ho.2 with⟨h,h0⟩|⟨g,c,cur,h,_⟩
  .exact⟨Y,0,by rw[h];congr 1;omega⟩
  .exact⟨_,c,by rw[h,hn]⟩
 obtain⟨p,c,rfl⟩:=Cp;have HBx:Hid _:=an.trans (aD.mono an.size);have gI:Hid (Own _ _ _ _):=ho.mono an.size;clear ho an aD HC HJ;by_cases aB:20<n
 .go_wp2_with fail
  go_ret2;refine⟨_,by rw[HE.out,if_pos aB];rfl,HBx.out,λ_=>rfl,λh=>by omega⟩
 .go_wp2_with fail
  go_ret2;refine⟨U p n c,by rw[HE.out,if_neg aB];rfl,HBx.out,λh=>by omega,λ_=>gI.out⟩
end Go.Proofs.YtfidjlcdlakceaaGreatDoor
