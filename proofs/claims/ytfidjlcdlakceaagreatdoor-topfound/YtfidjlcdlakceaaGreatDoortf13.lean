import Derived.Test.YtfidjlcdlakceaaGreatDoortf12
set_option maxHeartbeats 4000000
set_option maxRecDepth 100000
open Go.Value renaming slice→U,func→IZ,bool→AI,int→O,agg→Im,string→I,tuple→Il
open Go.Ending renaming returned→sh
open Option renaming some→Z,none→Y
open Go.Proofs.Tryz renaming prog→be
open Go.IntKind renaming i64→J
open Go.RowKit.Below renaming refl→Ib
open Nat renaming not_lt_zero→Ji,lt_succ_iff_lt_or_eq→Jj,zero_le→II,le_refl→By,zero_add→IM,lt_of_lt_of_le→Iv
open Go.Sort renaming grow→Ip
open Go renaming redrawn→IA,Regrown→Om,wp_region_quiet_below→IL,heap_alloc_new→Ie
open Go.Obj renaming cells→AT
namespace Go.Proofs.YtfidjlcdlakceaaGreatDoor
namespace Sv
open Go.RowKit
theorem iT(ms:List aI)(b off cap:Nat)(w:World)(hr:Row w b off ms)(hb:b<w.heap.size)(hn:ms.length<=40) :
 Calls be 181 #[U (Z ⟨b,off,Y⟩) ms.length cap,IZ (.func 182) #[] #[]] w λe w'=>e=sh (AI (aE ms))/\Below w.heap.size w w':=by
 have HR:Hid (Row w b off ms):=hr;clear hr;have H4:Hid (∀k,k+1<ms.length->0<=ord (ms.getD k dm) (ms.getD (k+1) dm)->aE ms=false):=λk hk hl=>by
  rcases h:aE ms with _|_
  .rfl
  .have:=fc ms h k hk;omega
 have H0:Hid ((∀j,j+1<ms.length->ord (ms.getD j dm) (ms.getD (j+1) dm)<0)->aE ms=true):=fe ms;generalize hN:ms.length=n at *;have HN:Hid (ms.length=n):=hN;clear hN;generalize hC:aE ms=res at *;have HC:Hid (aE ms=res):=hC;clear hC;go_enter Tryz.func181,Tryz.ntmps181;go_wp2_with fail;go_loopw [5] (λi w'=>∃k:Nat,(k+1<=n\/k=0)/\i=O J (k+1)/\Below w.heap.size w w'/\Hid (∀j,j<k->ord (ms.getD j dm) (ms.getD (j+1) dm)<0)) (λi _=>n-(intOf i).toNat)
 case atStart=>exact⟨0,.inr rfl,rfl,Ib _ _,λj h=>absurd h (Ji _)⟩
 case round=>
  obtain⟨q,hq,rfl,aU,hz⟩:=hrel;obtain⟨eA,nO⟩:=cH aU;have bA:=aU.size;by_cases aL:q+1<n
  .have F:=((HR.out q (by rw[HN.out];omega)).eq (λo=>eA b o hb)).re
   have G:=((HR.out (q+1) (by rw[HN.out];exact aL)).eq (λo=>eA b o hb)).re;have HK:Hid (0<=ord (ms.getD q dm) (ms.getD (q+1) dm)->res=false):=λh=>H4.out q aL h;have HZ:Hid (ord (ms.getD q dm) (ms.getD (q+1) dm)<0->∀j,j<q+1->ord (ms.getD j dm) (ms.getD (j+1) dm)<0):=λh j hj=>by
    rcases Jj.1 hj with h2|rfl
    .exact hz.out j h2
    .exact h
   generalize ms.getD q dm=m1 at *;generalize ms.getD (q+1) dm=m2 at *;have hN:∀d os,Calls be 182 #[Im #[I m1.node,I m1.bF,I m1.name,I m1.tag,O J m1.addr,O J m1.port,AI m1.au,O J m1.version,AI m1.gone],Im #[I m2.node,I m2.bF,I m2.name,I m2.tag,O J m2.addr,O J m2.port,AI m2.au,O J m2.version,AI m2.gone]] (Ip (IA wr d) os) λe gO=>e=sh (O J (ord m1 m2))/\∃p:Om,gO=Ip (IA wr p.d) p.os:=λd os=>Calls.regrown_of (cW m1 m2 _);simp only[As] at F G;clear eA nO;generalize ord m1 m2=r at *;have xb:IntKind.i64.wrap (q:Int)=(q:Int):=by rw[IntKind.wrap_i64];omega
   have MA:q<n:=by omega
   have iw:(q:Int)+1<(n:Int):=by omega
   have hq0:(0:Int)<=(q:Int)+1:=by omega
   have L3:((q:Int)+1).toNat=q+1:=by omega
   go_wp2_with fail;refine IL (by kernel_rfl) (by kernel_rfl) ?_;repeat(quiet_step (exact hN _ _))
   refine bK λdq j8 eR=>?_;clear hN F G;by_cases hl:r<0
   .have fG:¬ (0<=r):=by omega
    go_wp2_with fail;go_roundw
    case rel=>exact⟨q+1,.inl (by omega),by go_num,aU.trans (eR.out.mono bA),HZ.out hl⟩
    case measure=>simp[intOf];omega
   .have fG:0<=r:=by omega
    have h4:Hid (res=false):=HK.out fG;go_wp2_with fail;go_ret;exact⟨aD h4.out.symm,aU.trans (eR.out.mono bA)⟩
  .have h0:Hid (res=true):=H0.out λj hj=>hz.out j (by omega)
   go_wp2_with fail;go_ret;exact⟨aD h0.out.symm,aU⟩
theorem fO(a:Option Addr)(cap:Nat)(fv:Value)(w:World) :
 Calls be 181 #[U a 0 cap,fv] w λe w'=>e=sh (AI true)/\w'=w:=by
 go_enter Tryz.func181,Tryz.ntmps181;go_wp2_with fail;go_loop [5] (λi=>i=O J 1) (λ_=>0)
 case atStart=>rfl
 case round=>
  subst hrel;go_wp2_with fail;go_ret;exact⟨rfl,rfl⟩
theorem fP(ms:List aI)(b off cap:Nat)(lk:aI)(w:World)(hr:Row w b off ms)(hb:b<w.heap.size)(hn:ms.length<=80)(gu:∀i j,i<=j->j<ms.length->ord (ms.getD j dm) lk<0->ord (ms.getD i dm) lk<0) :
 Calls be 244 #[U (Z ⟨b,off,Y⟩) ms.length cap,Im #[I lk.node,I lk.bF,I lk.name,I lk.tag,O J lk.addr,O J lk.port,AI lk.au,O J lk.version,AI lk.gone],IZ (.func 182) #[] #[]] w λe w'=>∃(p:Nat) (f:Bool),e=sh (Il #[O J p,AI f])/\Below w.heap.size w w' /\
  p<=ms.length/\(∀j,j<p->ord (ms.getD j dm) lk<0)/\(∀j,p<=j->j<ms.length->0<=ord (ms.getD j dm) lk)/\(f=true↔p<ms.length/\ord (ms.getD p dm) lk=0):=by
 have HR:Hid (Row w b off ms):=hr;clear hr;have HM:Hid _:=gu;clear gu;generalize hN:ms.length=n at *;have HN:Hid (ms.length=n):=hN;clear hN;go_enter Tryz.func244,Tryz.ntmps244;go_wp2_with fail;obtain⟨W0,dK,df,nP,dt⟩:=cR w #[I lk.node,I lk.bF,I lk.name,I lk.tag,O J lk.addr,O J lk.port,AI lk.au,O J lk.version,AI lk.gone] 52;have yj:Hid (Row W0 b off ms):=HR.out.later df hb;have HT:Hid (As W0 w.heap.size 0 lk):=⟨af dt 0,af dt 1,af dt 2,af dt 3,af dt 4,af dt 5,af dt 6,af dt 7,af dt 8⟩;have dy:Hid (Below w.heap.size w W0):=df;have Gj:Hid (W0=w.alloc (AT #[I lk.node,I lk.bF,I lk.name,I lk.tag,O J lk.addr,O J lk.port,AI lk.au,O J lk.version,AI lk.gone] 52)):=dK;clear dt df HR dK;have zT:b<w.heap.size+1:=by omega
 go_loopw [9,10] (λi j w'=>∃k l:Nat,k<=l/\l<=n/\i=O J k/\j=O J l/\Below (w.heap.size+1) W0 w'/\Hid (∀j,j<k->ord (ms.getD j dm) lk<0)/\Hid (∀j,l<=j->j<n->0<=ord (ms.getD j dm) lk)) (λi j _=>(intOf j).toNat-(intOf i).toNat)
 case atStart=>exact⟨0,n,II _,By _,rfl,rfl,by rw[Gj.out];exact Ib _ _,λj h=>absurd h (Ji _),λj h1 h2=>by omega⟩
 case round=>
  obtain⟨k,l,sO,Si,rfl,rfl,aU,zE,zF⟩:=hrel;have bA:=aU.size;have eA:∀b o,b<w.heap.size+1->wr.cell? ⟨b,o,Y⟩=W0.cell? ⟨b,o,Y⟩:=λb o h=>aU.cell (p:=⟨b,o,Y⟩) h;have G:=(HT.out.eq (λo=>eA w.heap.size o (by omega))).re;simp only[As,IM] at G;by_cases aL:k<l
  .obtain⟨h,hh,h1,h2⟩:∃h:Nat,((k:Int)+(l:Int))/2=(h:Int)/\k<=h/\h<l:=⟨(k+l)/2,by omega,by omega,by omega⟩
   have F:=((yj.out h (by rw[HN.out];omega)).eq (λo=>eA b o zT)).re;have oO:=HM.out;have HK:Hid (ord (ms.getD h dm) lk<0->∀j,j<h+1->ord (ms.getD j dm) lk<0):=λhx j hj=>oO j h (by omega) (by omega) hx;have HL:Hid (0<=ord (ms.getD h dm) lk->∀j,h<=j->j<n->0<=ord (ms.getD j dm) lk):=λhx j hj L4=>by
    apply Int.not_lt.1;intro hq;have:=oO h j hj L4 hq;omega
   clear oO;have hhn:h<n:=by omega
   generalize ms.getD h dm=m at *;have hO:∀d os,Calls be 182 #[Im #[I m.node,I m.bF,I m.name,I m.tag,O J m.addr,O J m.port,AI m.au,O J m.version,AI m.gone],Im #[I lk.node,I lk.bF,I lk.name,I lk.tag,O J lk.addr,O J lk.port,AI lk.au,O J lk.version,AI lk.gone]] (Ip (IA wr d) os) λe gO=>e=sh (O J (ord m lk))/\∃p:Om,gO=Ip (IA wr p.d) p.os:=λd os=>Calls.regrown_of (cW m lk _);simp only[As] at F;clear eA;generalize ord m lk=r at *;go_wp2_with fail;refine IL (by kernel_rfl) (by kernel_rfl) ?_;repeat(quiet_step (exact hO _ _))
   refine bK λdq j8 eR=>?_;clear hO F G;by_cases sf:r<0
   .go_wp2_with fail
    exact⟨⟨h+1,l,by omega,by omega,by go_num,rfl,aU.trans (eR.out.mono (by omega)),HK.out sf,zF⟩,by simp[intOf];omega⟩
   .have zZ:0<=r:=by omega
    go_wp2_with fail;exact⟨⟨k,h,by omega,by omega,rfl,rfl,aU.trans (eR.out.mono (by omega)),zE,HL.out zZ⟩,by simp[intOf];omega⟩
  .have CH:l=k:=by omega
   subst CH;by_cases fM:l<n
   .have F:=((yj.out l (by rw[HN.out];omega)).eq (λo=>eA b o zT)).re
    generalize hm:ms.getD l dm=m at *;have Hm:Hid (ms.getD l dm=m):=hm;clear hm;have hO:∀d os,Calls be 182 #[Im #[I m.node,I m.bF,I m.name,I m.tag,O J m.addr,O J m.port,AI m.au,O J m.version,AI m.gone],Im #[I lk.node,I lk.bF,I lk.name,I lk.tag,O J lk.addr,O J lk.port,AI lk.au,O J lk.version,AI lk.gone]] (Ip (IA wr d) os) λe gO=>e=sh (O J (ord m lk))/\∃p:Om,gO=Ip (IA wr p.d) p.os:=λd os=>Calls.regrown_of (cW m lk _);simp only[As] at F;clear eA;generalize zG:ord m lk=r at *;have Hr:Hid (ord m lk=r):=zG;clear zG;go_wp2_with fail;refine IL (by kernel_rfl) (by kernel_rfl) ?_;repeat(quiet_step (exact hO _ _))
    refine bK λdq j8 eR=>?_;clear hO F G;go_wp2_with fail;go_ret2;refine⟨l,_,rfl,dy.out.trans ((aU.trans (eR.out.mono (by omega))).mono (by omega)),by omega,zE.out,zF.out,?_⟩;rw[Hm.out,Hr.out];simp[fM]
   .clear G
    have hkd:decide ((l:Int)<(n:Int))=false:=by simp;omega
    go_wp2_with fail;go_quiet (fail)
    go_wp2_with fail;go_ret2;refine⟨l,_,rfl,dy.out.trans ((below_drewN aU _).mono (by omega)),by omega,zE.out,zF.out,?_⟩;simp[fM]
theorem ff(a:Option Addr)(cap:Nat)(lk:aI)(fv:Value)(w:World) :
 Calls be 244 #[U a 0 cap,Im #[I lk.node,I lk.bF,I lk.name,I lk.tag,O J lk.addr,O J lk.port,AI lk.au,O J lk.version,AI lk.gone],fv] w λe w'=>e=sh (Il #[O J 0,AI false])/\Below w.heap.size w w':=by
 go_enter Tryz.func244,Tryz.ntmps244;go_wp2_with fail;go_loop [9,10] (λi j=>i=O J 0/\j=O J 0) (λ_ _=>0)
 case atStart=>exact⟨rfl,rfl⟩
 case round=>
  obtain⟨rfl,rfl⟩:=hrel;go_wp2_with fail;go_quiet (fail)
  go_wp2_with fail;go_ret2;exact⟨rfl,below_drewN ((Ib _ _).alloc (By _) _) _⟩
theorem fh(ms:List aI)(v:Value)(lk:aI)(w:World)(h:Sl w v ms)(hn:ms.length<=80)(gu:∀i j,i<=j->j<ms.length->ord (ms.getD j dm) lk<0->ord (ms.getD i dm) lk<0) :
 Calls be 244 #[v,Im #[I lk.node,I lk.bF,I lk.name,I lk.tag,O J lk.addr,O J lk.port,AI lk.au,O J lk.version,AI lk.gone],IZ (.func 182) #[] #[]] w λe w'=>∃(p:Nat) (f:Bool),e=sh (Il #[O J p,AI f])/\Below w.heap.size w w'/\At ms lk p f:=by
 obtain⟨a,cap,rfl,hs,h⟩:=h;rcases h with rfl|⟨b,off,rfl,hb,hr⟩
 .refine(ff a cap lk _ w).mono ?_
  rintro e w' ⟨rfl,hb⟩;exact⟨0,false,rfl,hb,⟨by simp,λj h=>by omega,λj h h2=>by simp at h2,by simp⟩⟩
 .refine(fP ms b off cap lk w hr hb hn gu).mono ?_
  rintro e w' ⟨p,f,rfl,aU,g1,g2,g3,g4⟩;exact⟨p,f,rfl,aU,⟨g1,g2,g3,g4⟩⟩
theorem fH(ms:List aI)(v:Value)(lk:aI)(w:World)(h:Sl w v ms)(hn:ms.length<=80)(hr:bO ms) :
 Calls be 196 #[v,Im #[I lk.node,I lk.bF,I lk.name,I lk.tag,O J lk.addr,O J lk.port,AI lk.au,O J lk.version,AI lk.gone],IZ (.func 182) #[] #[]] w λe w'=>∃(p:Nat) (f:Bool),e=sh (Il #[O J p,AI f])/\Below w.heap.size w w'/\At ms lk p f:=by
 have HC:Hid (∀w',Below w.heap.size w w'->Calls be 244 #[v,Im #[I lk.node,I lk.bF,I lk.name,I lk.tag,O J lk.addr,O J lk.port,AI lk.au,O J lk.version,AI lk.gone],IZ (.func 182) #[] #[]] w' λe gO=>∃(p:Nat) (f:Bool),e=sh (Il #[O J p,AI f])/\Below w'.heap.size w' gO/\At ms lk p f):=
  λw' hb=>fh ms v lk w' (h.below hb) hn (dG hr lk)
 clear h hn hr;go_enter Tryz.func196,Tryz.ntmps196;go_wp2_with (go_at_call 244;refine(HC.out _ ?hb).mono ?_)
 case hb=>exact(Ib _ _).alloc (By _) _
 rintro e w' ⟨p,f,rfl,aU,cA⟩;have fw:Hid (At ms lk p f):=cA;clear cA;go_wp2_with fail;go_ret2;exact⟨p,f,rfl,((Ib _ _).alloc (By _) _).trans (aU.mono (by simp)),fw.out⟩
end Sv
namespace Sv
open Go.RowKit
theorem oU{a b:List aI}(oV:a.length<=40)(rB:b.length<=40)(k:Nat):(eK a b k).length<=80:=by
 unfold eK;split
 .simp
 .split
  .omega
  .have:=dY b a;omega
structure MB(w:World)(pb:Nat)(a b:List aI)(k:Nat)(l:List aI)(pk:Option Addr)(ck:Nat):Prop where
 cell:w.cell? ⟨pb,k,Y⟩=Z (U pk l.length ck)
 row:l=[]\/∃b off,pk=Z ⟨b,off,Y⟩/\b<w.heap.size/\Row w b off l
 Td:∀m∈l,(m).ok
 len:l.length<=40
 MC:(eK a b k).length<=40
 Aa:bO (eK a b k)
 MD:∀m∈eK a b k,(m).ok
 step:eK a b (k+1)=ay (eK a b k) l
theorem tv{a b:List aI}{va vb:Value}{pb:Nat}{w:World}(ha:Sl w va a)(hb:Sl w vb b)(hc0:w.cell? ⟨pb,0,Y⟩=Z va)(hc1:w.cell? ⟨pb,1,Y⟩=Z vb)(oV:a.length<=40)(rB:b.length<=40)(ra:bO a)(k:Nat)(hk:k<2) :
 ∃l pk ck,MB w pb a b k l pk ck:=by
 obtain⟨pa,ca,rfl,Wo,ha⟩:=ha;obtain⟨pv,cb,rfl,nsb,hb⟩:=hb;have gP:k=0\/k=1:=by omega
 rcases gP with rfl|rfl
 .exact⟨a,pa,ca,hc0,ha,cZ Wo,oV,by simp[eK],by simp[eK],by simp[eK],(j9 a ra).symm⟩
 .exact⟨b,pv,cb,hc1,hb,cZ nsb,rB,oV,ra,cZ Wo,rfl⟩
theorem kd(a b:List aI)(va vb:Value)(pb cap:Nat)(w:World)(ha:Sl w va a)(hb:Sl w vb b)(hpb:pb<w.heap.size)(hc0:w.cell? ⟨pb,0,Y⟩=Z va)(hc1:w.cell? ⟨pb,1,Y⟩=Z vb)(oV:a.length<=40)(rB:b.length<=40)(ra:bO a) :
 Calls be 206 #[IZ (.func 182) #[] #[],IZ (.func 207) #[] #[],U (Z ⟨pb,0,Y⟩) 2 cap] w λe w'=>∃v',e=sh v'/\Own w.heap.size w' v' (ay a b)/\Below w.heap.size w w':=by
 have HK:Hid (∀k,k<2->∃l pk ck,MB w pb a b k l pk ck):=λk hk=>tv ha hb hc0 hc1 oV rB ra k hk;have HL2:Hid (∀k,(eK a b k).length<=80):=oU oV rB;clear ha hb hc0 hc1 oV rB ra;go_enter Tryz.func206,Tryz.ntmps206;go_wp2_with fail;go_loopw [7,16] (λkn i w'=>∃k:Nat,k<=2/\i=O J k/\Below w.heap.size w w'/\Hid (Own w.heap.size w' kn (eK a b k))) (λ_ i _=>2-(intOf i).toNat)
 case atStart=>exact⟨0,by omega,rfl,Ib _ _,bj _ _⟩
 case round=>
  obtain⟨k,hk,rfl,aU,HO⟩:=hrel;obtain⟨eA,nO⟩:=cH aU;have bA:=aU.size;by_cases sg:k<2
  .obtain⟨l,pk,ck,tz⟩:=HK.out k sg
   have tA:Hid (MB w pb a b k l pk ck):=tz;have ej:=tz.cell;clear tz;generalize L5:l.length=nl at *;have yk:Hid (l.length=nl):=L5;clear L5;have Wp:nl<=40:=by have:=tA.out.len;have:=yk.out;omega
   have acq:(k:Int)<2:=by omega
   go_wp2_with fail;go_loopw [7,22] (λkn j w'=>∃q:Nat,q<=nl/\j=O J q/\Below w.heap.size w w'/\Hid (Own w.heap.size w' kn (ay (eK a b k) (l.take q)))) (λ_ j _=>nl-(intOf j).toNat)
   case atStart=>exact⟨0,II _,rfl,aU,HO⟩
   case round=>
    clear eA nO bA aU HO ej;obtain⟨q,hq,rfl,aU,HO⟩:=hrel;obtain⟨eA,nO⟩:=cH aU;have bA:=aU.size;by_cases aL:q<nl
    .obtain⟨b2,off,ME,Gk,dL⟩:∃CI off,pk=Z ⟨CI,off,Y⟩/\CI<w.heap.size/\Row w CI off l:=by
      rcases tA.out.row with h|h
      .have:=yk.out;rw[h] at this;simp at this;omega
      .exact h
     subst ME;obtain⟨c0,c1,c2,c3,c4,c5,c6,c7,c8⟩:=dL q (by rw[yk.out];exact aL);clear dL;have HJ:Hid (ay (eK a b k) (l.take (q+1))=aZ (ay (eK a b k) (l.take q)) (l.getD q dm)):=jb (eK a b k) l q (by rw[yk.out];exact aL);have HR:Hid (bO (ay (eK a b k) (l.take q))):=gQ _ _ tA.out.Aa;have XG:Hid (∀j,((ay (eK a b k) (l.take q)).getD j dm).ok):=cB (jR _ _ tA.out.MD (λx hx=>tA.out.Td x (List.mem_of_mem_take hx)));have HL:Hid ((ay (eK a b k) (l.take q)).length<=80):=by
      have h1:=dY (l.take q) (eK a b k);have h2:(l.take q).length<=q:=List.length_take_le _ _;have h3:=tA.out.MC;show(ay (eK a b k) (l.take q)).length<=80;omega
     generalize l.getD q dm=m at *;generalize ay (eK a b k) (l.take q)=known at *;have MF:known.length<=80:=HL.out;obtain⟨W1,e9,al,gI,bb⟩:=cR wr #[I m.node,I m.bF,I m.name,I m.tag,O J m.addr,O J m.port,AI m.au,O J m.version,AI m.gone] 52;have j7:Hid (Own w.heap.size W1 u7 known):=HO.out.below al;have HF:Hid (Calls be 196 #[u7,Im #[I m.node,I m.bF,I m.name,I m.tag,O J m.addr,O J m.port,AI m.au,O J m.version,AI m.gone],IZ (.func 182) #[] #[]] W1 λe w'=>∃(p:Nat) (f:Bool),e=sh (Il #[O J p,AI f])/\Below W1.heap.size W1 w'/\At known m p f):=
      fH known u7 m W1 (j7.out.sl XG.out) HL.out HR.out
     have aR:Hid (Below w.heap.size w W1):=aU.trans (al.mono bA);have HT:Hid (As W1 wr.heap.size 0 m):=⟨af bb 0,af bb 1,af bb 2,af bb 3,af bb 4,af bb 5,af bb 6,af bb 7,af bb 8⟩;have rC:Hid _:=e9;have Gl:w.heap.size<=W1.heap.size:=by omega
     clear bb al HO HL HR e9;go_wp2_with fail;rw[<- rC.out];refine HF.out.mono ?_;rintro e w2 ⟨p,f,rfl,aC,cA⟩;have fw:Hid _:=cA;have acr:=cA.le;have CJ:=aC.size;have gv:Hid (Own _ _ _ _):=j7.out.below aC;have bw:Hid _:=aR.out.trans (aC.mono Gl);have si:Hid (As w2 wr.heap.size 0 m):=HT.out.eq (λo=>aC.cell (p:=⟨wr.heap.size,o,Y⟩) (by show wr.heap.size<W1.heap.size;omega));obtain⟨t0,t1,t2,t3,t4,t5,t6,t7,t8⟩:w2.cell? ⟨wr.heap.size,0,Y⟩=Z (I m.node)/\w2.cell? ⟨wr.heap.size,1,Y⟩=Z (I m.bF)/\w2.cell? ⟨wr.heap.size,2,Y⟩=Z (I m.name)/\w2.cell? ⟨wr.heap.size,3,Y⟩=Z (I m.tag)/\w2.cell? ⟨wr.heap.size,4,Y⟩=Z (O J m.addr)/\w2.cell? ⟨wr.heap.size,5,Y⟩=Z (O J m.port)/\w2.cell? ⟨wr.heap.size,6,Y⟩=Z (AI m.au)/\w2.cell? ⟨wr.heap.size,7,Y⟩=Z (O J m.version)/\w2.cell? ⟨wr.heap.size,8,Y⟩=Z (AI m.gone):=si.out;have iZ:w.heap.size<=w2.heap.size:=by omega
     have MG:wr.heap.size<w2.heap.size:=by omega
     clear cA HF eA nO c0 c1 c2 c3 c4 c5 c6 c7 c8 aC j7 aR HT;cases f
     .have bu:Hid (u7.ownBlock≠Z w2.heap.size):=λe=>by have:=gv.out.lt _ e;omega
      have eB:Hid (Own w.heap.size (w2.alloc (AT #[I m.node,I m.bF,I m.name,I m.tag,O J m.addr,O J m.port,AI m.au,O J m.version,AI m.gone] 52)) u7 known):=gv.out.below ((Ib _ _).alloc (By _) _);have qa:Hid ((w2.alloc (AT #[I m.node,I m.bF,I m.name,I m.tag,O J m.addr,O J m.port,AI m.au,O J m.version,AI m.gone] 52)).heap[w2.heap.size]?=Z (AT m.cs.toArray 52 (0,0))):=Ie w2 _;go_wp2_with (go_at_call 249;refine(fQ w.heap.size p w2.heap.size u7 known m _ eB.out fw.out.le (by omega) (by simp;omega) qa.out bu.out).mono ?_;rintro e w4 ⟨v',rfl,g1,g2⟩);go_roundw
      case rel=>
       have kW:∃tB:Nat,tB<=nl/\Value.int J ((q:Int)+1)=O J tB/\Below w.heap.size w w4/\Hid (Own w.heap.size w4 v' (ay (eK a b k) (l.take tB))):=⟨q+1,by omega,by go_num,below_grown (bw.out.alloc iZ _) eB.out g2 (by simp;omega),by rw[HJ.out,dM known m p false fw.out];exact g1⟩;first|exact kW|((repeat apply Exists.intro);exact⟨kW,rfl⟩)
      case measure=>simp[intOf];omega
     .have hp:p<known.length:=(fw.out.is.1 rfl).1
      obtain⟨g,c,hu⟩:=eL gv.out p hp;subst hu;have F:=(dH gv.out p hp).re;have jZ:=gv.out.lt g rfl;have XH:g<w2.heap.size:=jZ.2;generalize hm:known.getD p dm=m2 at *;have Hm:Hid _:=hm;clear hm;have hN:∀d os,Calls be 207 #[Im #[I m.node,I m.bF,I m.name,I m.tag,O J m.addr,O J m.port,AI m.au,O J m.version,AI m.gone],Im #[I m2.node,I m2.bF,I m2.name,I m2.tag,O J m2.addr,O J m2.port,AI m2.au,O J m2.version,AI m2.gone]] (Ip (IA w2 d) os) λe gO=>e=sh (AI (cP m m2))/\∃p:Om,gO=Ip (IA w2 p.d) p.os:=λd os=>Calls.regrown_of (ja m m2 _);have G:=si.out.re;simp only[As,IM] at F G;have gF:∀o,w2.frozen? ⟨g,o,Y⟩=false:=λo=>World.ownsRow.frozenAt gv.out o;have HFZ:Hid _:=gF;clear gF t0 t1 t2 t3 t4 t5 t6 t7 t8;generalize L6:cP m m2=nw at *;have Wq:Hid _:=L6;clear L6;go_wp2_with fail;refine IL (by kernel_rfl) (by kernel_rfl) ?_;repeat(quiet_step (exact hN _ _))
      refine bK λdq j8 eR=>?_;clear hN F G;cases nw
      .go_wp2_with fail
       go_roundw
       case rel=>
        have kW:∃tB:Nat,tB<=nl/\Value.int J ((q:Int)+1)=O J tB/\Below w.heap.size w (Ip (IA w2 dq) j8)/\Hid (Own w.heap.size (Ip (IA w2 dq) j8) (U (Z ⟨g,0,Y⟩) known.length c) (ay (eK a b k) (l.take tB))):=⟨q+1,by omega,by go_num,bw.out.trans (eR.out.mono iZ),by rw[HJ.out,dM known m p true fw.out,if_pos rfl,Hm.out,if_neg (λh=>Bool.false_ne_true (Wq.out.symm.trans h))];exact gv.out.below eR.out⟩;first|exact kW|((repeat apply Exists.intro);exact⟨kW,rfl⟩)
       case measure=>simp[intOf];omega
      .generalize Ip (IA w2 dq) j8=w3 at *
       have eB:Hid (Own _ _ _ _):=gv.out.below eR.out;obtain⟨c0,c1,c2,c3,c4,c5,c6,c7,c8⟩:=dH eB.out p hp;rw[Hm.out] at c0 c1 c2 c3 c4 c5 c6 c7 c8;have vt:=(eB.out.lt g rfl).2;have gF:∀o,w3.frozen? ⟨g,o,Y⟩=false:=λo=>World.ownsRow.frozenAt eB.out o;obtain⟨s0,s1,s2,s3,s4,s5,s6,s7,s8⟩:w3.cell? ⟨wr.heap.size,0,Y⟩=Z (I m.node)/\w3.cell? ⟨wr.heap.size,1,Y⟩=Z (I m.bF)/\w3.cell? ⟨wr.heap.size,2,Y⟩=Z (I m.name)/\w3.cell? ⟨wr.heap.size,3,Y⟩=Z (I m.tag)/\w3.cell? ⟨wr.heap.size,4,Y⟩=Z (O J m.addr)/\w3.cell? ⟨wr.heap.size,5,Y⟩=Z (O J m.port)/\w3.cell? ⟨wr.heap.size,6,Y⟩=Z (AI m.au)/\w3.cell? ⟨wr.heap.size,7,Y⟩=Z (O J m.version)/\w3.cell? ⟨wr.heap.size,8,Y⟩=Z (AI m.gone):=si.out.eq (λo=>eR.out.cell (p:=⟨wr.heap.size,o,Y⟩) MG);go_wp2_with fail;refine⟨⟨q+1,by omega,by go_num,?_,?_⟩,by simp[intOf];omega⟩
       .exact((((((((((bw.out.trans (eR.out.mono iZ)).setCell (p:=⟨g,p*9,Y⟩) jZ.1 (I m.node)).setCell (p:=⟨g,p*9+1,Y⟩) jZ.1 (I m.bF)).setCell (p:=⟨g,p*9+2,Y⟩) jZ.1 (I m.name)).setCell (p:=⟨g,p*9+3,Y⟩) jZ.1 (I m.tag)).setCell (p:=⟨g,p*9+4,Y⟩) jZ.1 (O J m.addr)).setCell (p:=⟨g,p*9+5,Y⟩) jZ.1 (O J m.port)).setCell (p:=⟨g,p*9+6,Y⟩) jZ.1 (AI m.au)).setCell (p:=⟨g,p*9+7,Y⟩) jZ.1 (O J m.version)).setCell (p:=⟨g,p*9+8,Y⟩) jZ.1 (AI m.gone))
       .rw[HJ.out,dM known m p true fw.out,if_pos rfl,Hm.out,if_pos Wq.out]
        exact oW eB.out hp m
    .have MA:q=nl:=by omega
     subst MA;have eB:Hid (Own w.heap.size wr u7 (eK a b (k+1))):=by
      have h:=HO.out;rw[List.take_of_length_le (by rw[yk.out];exact By _)] at h;rw[tA.out.step];exact h
     go_wp2_with fail;go_roundw
     case rel=>exact⟨k+1,by omega,by go_num,aU,eB⟩
     case measure=>simp[intOf];omega
  .have Wr:k=2:=by omega
   subst Wr;go_wp2_with fail;go_ret;exact⟨_,rfl,HO.out,aU⟩
end Sv
namespace Sv
open Go.RowKit
theorem EW(t:ByteArray)(W:World)(g:Nat)(hs:t.size<=maxLen)(hg:W.heap[g]?=Z (AT #[I t] 9 (0,0))) :
 Calls be 59 #[U (Z ⟨g,0,Y⟩) 1 1] W λe w'=>e=sh (AI (tJ t))/\w'=W:=Mr t W g hs hg
def Gt(m:aI):Bool:=[m.node,m.bF,m.name].all aN
theorem aI.acy(m:aI):m.e=if Gt m=true then(if tJ m.tag=true then(if within m.addr 0 4294967295=true then(if within m.port 0 65535=true then(if within m.version 1 1000000=true then 0 else 3) else 3) else 3) else 1) else 1:=by
 unfold aI.e Gt;simp only[List.all_cons,List.all_nil,Bool.and_true];cases aN m.node<;>cases aN m.bF<;>cases aN m.name<;>cases tJ m.tag<;>cases within m.addr 0 4294967295<;>cases within m.port 0 65535<;>cases within m.version 1 1000000<;>rfl
theorem Ag(m:aI)(hm:m.ok)(W:World)(g:Nat)(hg:W.heap[g]?=Z (AT #[I m.node,I m.bF,I m.name] 9 (0,0))) :
 Calls be 43 #[U (Z ⟨g,0,Y⟩) 3 3] W λe w'=>e=sh (AI (Gt m))/\w'=W:=by
 refine n9 [m.node,m.bF,m.name] g 3 W (λj hj=>?_) (λj=>?_) (by simp)
 .rw[af hg]
  have:j=0\/j=1\/j=2:=by simp at hj;omega
  rcases this with rfl|rfl|rfl<;>rfl
 .obtain⟨h1,h2,h3,h4⟩:=hm
  match j with
  |0=>exact h1
  |1=>exact h2
  |2=>exact h3
  |_+3=>simp[List.getD]
theorem fI(m:aI)(w:World)(hm:m.ok) :
 Calls be 180 #[Im #[I m.node,I m.bF,I m.name,I m.tag,O J m.addr,O J m.port,AI m.au,O J m.version,AI m.gone]] w λe w'=>e=sh (O J m.e)/\Below w.heap.size w w':=by
 have hs:m.tag.size<=maxLen:=hm.2.2.2;have hB:Hid (Below w.heap.size w ((w.alloc (AT #[I m.node,I m.bF,I m.name,I m.tag,O J m.addr,O J m.port,AI m.au,O J m.version,AI m.gone] 52)).alloc (AT #[I m.node,I m.bF,I m.name] 9))):=((Ib _ _).alloc (By _) _).alloc (by simp) _;have hg:((w.alloc (AT #[I m.node,I m.bF,I m.name,I m.tag,O J m.addr,O J m.port,AI m.au,O J m.version,AI m.gone] 52)).alloc (AT #[I m.node,I m.bF,I m.name] 9)).heap[w.heap.size+1]?=Z (AT #[I m.node,I m.bF,I m.name] 9 (0,0)):=by
  have h:=Ie (w.alloc (AT #[I m.node,I m.bF,I m.name,I m.tag,O J m.addr,O J m.port,AI m.au,O J m.version,AI m.gone] 52)) (AT #[I m.node,I m.bF,I m.name] 9);simpa using h
 have HL:Hid (Calls be 43 #[U (Z ⟨w.heap.size+1,0,Y⟩) 3 3] ((w.alloc (AT #[I m.node,I m.bF,I m.name,I m.tag,O J m.addr,O J m.port,AI m.au,O J m.version,AI m.gone] 52)).alloc (AT #[I m.node,I m.bF,I m.name] 9)) λe w'=>e=sh (AI (Gt m))/\w'=(w.alloc (AT #[I m.node,I m.bF,I m.name,I m.tag,O J m.addr,O J m.port,AI m.au,O J m.version,AI m.gone] 52)).alloc (AT #[I m.node,I m.bF,I m.name] 9)):=Ag m hm _ _ hg;clear hg;have hB3:Hid (Below w.heap.size w (((w.alloc (AT #[I m.node,I m.bF,I m.name,I m.tag,O J m.addr,O J m.port,AI m.au,O J m.version,AI m.gone] 52)).alloc (AT #[I m.node,I m.bF,I m.name] 9)).alloc (AT #[I m.tag] 9))):=hB.out.alloc (by simp;omega) _;have vt:(((w.alloc (AT #[I m.node,I m.bF,I m.name,I m.tag,O J m.addr,O J m.port,AI m.au,O J m.version,AI m.gone] 52)).alloc (AT #[I m.node,I m.bF,I m.name] 9)).alloc (AT #[I m.tag] 9)).heap[w.heap.size+2]?=Z (AT #[I m.tag] 9 (0,0)):=by
  have h:=Ie ((w.alloc (AT #[I m.node,I m.bF,I m.name,I m.tag,O J m.addr,O J m.port,AI m.au,O J m.version,AI m.gone] 52)).alloc (AT #[I m.node,I m.bF,I m.name] 9)) (AT #[I m.tag] 9);simpa using h
 have HT:Hid (Calls be 59 #[U (Z ⟨w.heap.size+2,0,Y⟩) 1 1] (((w.alloc (AT #[I m.node,I m.bF,I m.name,I m.tag,O J m.addr,O J m.port,AI m.au,O J m.version,AI m.gone] 52)).alloc (AT #[I m.node,I m.bF,I m.name] 9)).alloc (AT #[I m.tag] 9)) λe w'=>e=sh (AI (tJ m.tag))/\w'=(((w.alloc (AT #[I m.node,I m.bF,I m.name,I m.tag,O J m.addr,O J m.port,AI m.au,O J m.version,AI m.gone] 52)).alloc (AT #[I m.node,I m.bF,I m.name] 9)).alloc (AT #[I m.tag] 9))):=EW m.tag _ _ hs vt;clear vt;have HD:Hid (m.e=if Gt m=true then(if tJ m.tag=true then(if within m.addr 0 4294967295=true then(if within m.port 0 65535=true then(if within m.version 1 1000000=true then 0 else 3) else 3) else 3) else 1) else 1):=m.acy;clear hm;rcases h1:Gt m with _|_
 .go_enter Tryz.func180,Tryz.ntmps180
  go_wp2_with (go_at_call 43;refine HL.out.mono ?_;rintro e w' ⟨rfl,rfl⟩;rw[h1]);go_ret;exact⟨aj (by rw[HD.out];simp[h1]),hB.out⟩
 .rcases h2:tJ m.tag with _|_
  .go_enter Tryz.func180,Tryz.ntmps180
   go_wp2_with (first|(go_at_call 43;refine HL.out.mono ?_;rintro e w' ⟨rfl,rfl⟩;rw[h1])|(go_at_call 59;refine HT.out.mono ?_;rintro e w' ⟨rfl,rfl⟩;rw[h2]));go_ret;exact⟨aj (by rw[HD.out];simp[h1,h2]),hB3.out⟩
  .rcases h3:within m.addr 0 4294967295 with _|_
   .go_enter Tryz.func180,Tryz.ntmps180
    go_wp2_with (first|(go_at_call 43;refine HL.out.mono ?_;rintro e w' ⟨rfl,rfl⟩;rw[h1])|(go_at_call 59;refine HT.out.mono ?_;rintro e w' ⟨rfl,rfl⟩;rw[h2])|(go_at_call 44;refine(ea _ _).mono ?_;rintro e w' ⟨rfl,rfl⟩;rw[h3]));go_ret;exact⟨aj (by rw[HD.out];simp[h1,h2,h3]),hB3.out⟩
   .rcases h4:within m.port 0 65535 with _|_
    .go_enter Tryz.func180,Tryz.ntmps180
     go_wp2_with (first|(go_at_call 43;refine HL.out.mono ?_;rintro e w' ⟨rfl,rfl⟩;rw[h1])|(go_at_call 59;refine HT.out.mono ?_;rintro e w' ⟨rfl,rfl⟩;rw[h2])|(go_at_call 44;refine(ea _ _).mono ?_;rintro e w' ⟨rfl,rfl⟩;rw[h3])|(go_at_call 70;refine(bD _ _ _ _).mono ?_;rintro e w' ⟨rfl,rfl⟩;rw[h4]));go_ret;exact⟨aj (by rw[HD.out];simp[h1,h2,h3,h4]),hB3.out⟩
    .rcases h5:within m.version 1 1000000 with _|_
     all_goals
      go_enter Tryz.func180,Tryz.ntmps180;go_wp2_with (first|(go_at_call 43;refine HL.out.mono ?_;rintro e w' ⟨rfl,rfl⟩;rw[h1])|(go_at_call 59;refine HT.out.mono ?_;rintro e w' ⟨rfl,rfl⟩;rw[h2])|(go_at_call 44;refine(ea _ _).mono ?_;rintro e w' ⟨rfl,rfl⟩;rw[h3])|(go_at_call 70;refine(bD _ _ _ _).mono ?_;rintro e w' ⟨rfl,rfl⟩;first|rw[h4]|rw[h5]));go_ret;exact⟨aj (by rw[HD.out];simp[h1,h2,h3,h4,h5]),hB3.out⟩
theorem gR(ms:List aI)(b off cap:Nat)(w:World)(hr:Row w b off ms)(hb:b<w.heap.size)(hn:ms.length<=40)(hs:∀j,(ms.getD j dm).ok) :
 Calls be 129 #[U (Z ⟨b,off,Y⟩) ms.length cap] w λe w'=>e=sh (O J (ba ms))/\Below w.heap.size w w':=by
 have HR:Hid (Row w b off ms):=hr;have HE:Hid (∀k,k<ms.length->(∀j,j<k->(ms.getD j dm).e=0)->(ms.getD k dm).e≠0->ba ms=(ms.getD k dm).e):=λk h1 h2 h3=>tC ms k hn h1 h2 h3;have H4:Hid ((∀j,j<ms.length->(ms.getD j dm).e=0)->ba ms=if aE ms=true then 0 else 4):=λh1=>rD ms hn h1;have MH:Hid (∀w',Below w.heap.size w w'->Calls _ _ _ _ _):=λw' rE=>iT ms b off cap w' (hr.later rE hb) (Iv hb rE.size) hn;clear hr;generalize hN:ms.length=n at *;have HN:Hid _:=hN;clear hN;have HS:Hid _:=hs;clear hs;generalize hC:ba ms=res at *;have HC:Hid _:=hC;clear hC;generalize MI:aE ms=rb at *;have XI:Hid _:=MI;clear MI;go_enter Tryz.func129,Tryz.ntmps129;go_wp2_with fail;go_loopw [11] (λi w'=>∃k:Nat,k<=n/\i=O J k/\Below w.heap.size w w'/\Hid (∀j,j<k->(ms.getD j dm).e=0)) (λi _=>n-(intOf i).toNat)
 case atStart=>exact⟨0,II _,rfl,Ib _ _,λj h=>absurd h (Ji _)⟩
 case round=>
  obtain⟨k,hk,rfl,aU,hz⟩:=hrel;obtain⟨eA,nO⟩:=cH aU;have bA:=aU.size;by_cases aL:k<n
  .obtain⟨c0,c1,c2,c3,c4,c5,c6,c7,c8⟩:=HR.out k (by rw[HN.out];exact aL)
   have Sj:Hid _:=HS.out k;have HK:Hid ((ms.getD k dm).e≠0->res=(ms.getD k dm).e):=λh=>HE.out k aL hz.out h;have HZ:Hid ((ms.getD k dm).e=0->∀j,j<k+1->(ms.getD j dm).e=0):=λh j hj=>by
    rcases Jj.1 hj with h2|rfl
    .exact hz.out j h2
    .exact h
   generalize ms.getD k dm=m at *;have HO:Hid (∀w,Calls _ _ _ _ _):=λw=>fI m w Sj.out;generalize m.e=me at *;rcases he:decide (me=0) with _|_
   .have ki:(me !=0)=true:=by simpa using he
    clear he;go_wp2_with (go_at_call 180;refine(HO.out _).mono ?_;rintro e w' ⟨rfl,aC⟩);go_ret;have bu:me≠0:=by simpa using ki
    have lF:=HK.out bu;exact⟨aj lF.symm,(aU.alloc bA _).trans (aC.mono (by simp;omega))⟩
   .have ki:(me !=0)=false:=by simpa using he
    clear he;go_wp2_with (go_at_call 180;refine(HO.out _).mono ?_;rintro e w' ⟨rfl,aC⟩);go_roundw
    case rel=>
     have Ws:me=0:=by simpa using ki
     exact⟨k+1,by omega,by go_num,(aU.alloc bA _).trans (aC.mono (by simp;omega)),HZ.out Ws⟩
    case measure=>simp[intOf];omega
  .have iC:Hid (∀j,j<n->(ms.getD j dm).e=0):=λj hj=>hz.out j (by omega)
   have oh:Hid _:=H4.out iC.out;clear hz iC H4 HE HC XI;cases rb
   .go_wp2_with (go_at_call 181;refine(MH.out _ aU).mono ?_;rintro e w' ⟨rfl,aC⟩)
    go_ret;exact⟨aj (by rw[oh.out];rfl),aU.trans (aC.mono bA)⟩
   .go_wp2_with (go_at_call 181;refine(MH.out _ aU).mono ?_;rintro e w' ⟨rfl,aC⟩)
    go_ret;exact⟨aj (by rw[oh.out];rfl),aU.trans (aC.mono bA)⟩
theorem fR(a:Option Addr)(n cap:Nat)(w:World)(hn:40<n) :
 Calls be 129 #[U a n cap] w λe w'=>e=sh (O J 2)/\w'=w:=by
 go_enter Tryz.func129,Tryz.ntmps129;go_wp2_with fail;go_ret;exact⟨rfl,rfl⟩
theorem fS(a:Option Addr)(cap:Nat)(w:World) :
 Calls be 129 #[U a 0 cap] w λe w'=>e=sh (O J 0)/\w'=w:=by
 go_enter Tryz.func129,Tryz.ntmps129;go_wp2_with fail;go_loop [11] (λi=>i=O J 0) (λ_=>0)
 case atStart=>rfl
 case round=>
  subst hrel;go_wp2_with (go_at_call 181;refine(fO _ _ _ _).mono ?_;rintro e w' ⟨rfl,rfl⟩);go_ret;exact⟨rfl,rfl⟩
theorem aW(ms:List aI)(v:Value)(w:World)(h:Sl w v ms) :
 Calls be 129 #[v] w λe w'=>e=sh (O J (ba ms))/\Below w.heap.size w w':=by
 obtain⟨a,cap,rfl,hs,h⟩:=h;by_cases hn:40<ms.length
 .refine(fR a ms.length cap w hn).mono ?_
  rintro e w' ⟨rfl,rfl⟩;exact⟨aj (by rw[ba,if_pos hn]),Ib _ _⟩
 .rcases h with rfl|⟨b,off,rfl,hb,hr⟩
  .refine(fS a cap w).mono ?_
   rintro e w' ⟨rfl,rfl⟩;exact⟨rfl,Ib _ _⟩
  .exact gR ms b off cap w hr hb (by omega) hs
theorem cQ(a b:List aI)(va vb:Value)(pb cap:Nat)(w:World)(ha:Sl w va a)(hb:Sl w vb b)(hpb:pb<w.heap.size)(hc0:w.cell? ⟨pb,0,Y⟩=Z va)(hc1:w.cell? ⟨pb,1,Y⟩=Z vb) :
 Calls be 205 #[U (Z ⟨pb,0,Y⟩) 2 cap] w λe w'=>e=sh (O J (aJ a b))/\Below w.heap.size w w':=by
 have HA:Hid (Sl w va a):=ha;have HB:Hid (Sl w vb b):=hb;clear ha hb;go_enter Tryz.func205,Tryz.ntmps205;go_wp2_with fail;go_loopw [8] (λi w'=>∃k:Nat,k<=2/\i=O J k/\Below w.heap.size w w'/\Hid (0<k->ba a=0)/\Hid (1<k->ba b=0)) (λi _=>2-(intOf i).toNat)
 case atStart=>exact⟨0,by omega,rfl,Ib _ _,λh=>by omega,λh=>by omega⟩
 case round=>
  obtain⟨k,hk,rfl,aU,bW,cS⟩:=hrel;obtain⟨eA,nO⟩:=cH aU;have bA:=aU.size;have L7:Hid (Sl wr va a):=HA.out.below aU;have L8:Hid (Sl wr vb b):=HB.out.below aU;have gP:k=0\/k=1\/k=2:=by omega
  rcases gP with rfl|rfl|rfl
  .rcases he:decide (ba a=0) with _|_
   .have ki:(ba a !=0)=true:=by simpa using he
    clear he;go_wp2_with (go_at_call 129;refine(aW a _ _ L7.out).mono ?_;rintro e w' ⟨rfl,aC⟩);go_ret;exact⟨aj (by have h0:ba a≠0:=(by simpa using ki);rw[aJ,if_neg h0]),aU.trans (aC.mono bA)⟩
   .have ki:(ba a !=0)=false:=by simpa using he
    clear he;go_wp2_with (go_at_call 129;refine(aW a _ _ L7.out).mono ?_;rintro e w' ⟨rfl,aC⟩);go_roundw
    case rel=>exact⟨1,by omega,by go_num,aU.trans (aC.mono bA),λ_=>(by simpa using ki),λh=>by omega⟩
    case measure=>simp[intOf]
  .have h0:Hid _:=bW.out (by omega)
   rcases he:decide (ba b=0) with _|_
   .have ki:(ba b !=0)=true:=by simpa using he
    clear he;go_wp2_with (go_at_call 129;refine(aW b _ _ L8.out).mono ?_;rintro e w' ⟨rfl,aC⟩);go_ret;exact⟨aj (by rw[aJ,if_pos h0.out]),aU.trans (aC.mono bA)⟩
   .have ki:(ba b !=0)=false:=by simpa using he
    clear he;go_wp2_with (go_at_call 129;refine(aW b _ _ L8.out).mono ?_;rintro e w' ⟨rfl,aC⟩);go_roundw
    case rel=>exact⟨2,by omega,by go_num,aU.trans (aC.mono bA),λ_=>h0.out,λ_=>(by simpa using ki)⟩
    case measure=>simp[intOf]
  .go_wp2_with fail
   go_ret;exact⟨aj (by rw[aJ,if_pos (bW.out (by omega)),cS.out (by omega)]),aU⟩
theorem mh(a b:List aI)(va vb:Value)(pb cap:Nat)(w:World)(ha:Sl w va a)(hb:Sl w vb b)(hpb:pb<w.heap.size)(hc0:w.cell? ⟨pb,0,Y⟩=Z va)(hc1:w.cell? ⟨pb,1,Y⟩=Z vb)(bu:aJ a b≠0) :
 Calls be 147 #[U (Z ⟨pb,0,Y⟩) 2 cap] w λe w'=>e=sh (Il #[U Y 0 0,O J (aA a b)])/\Below w.heap.size w w':=by
 have he:(aJ a b !=0)=true:=by simpa using bu
 have HE:Hid (aA a b=aJ a b):=if_neg bu;have jH:=cQ a b va vb pb cap w ha hb hpb hc0 hc1;have HC:Hid (Calls _ _ _ _ _):=jH;clear jH ha hb bu;go_enter Tryz.func147,Tryz.ntmps147;go_wp2_with (go_at_call 205;refine HC.out.mono ?_;rintro e w' ⟨rfl,aC⟩);go_ret2;exact⟨by rw[HE.out];rfl,aC⟩
theorem kj(a b:List aI)(va vb:Value)(pb cap:Nat)(w:World)(ha:Sl w va a)(hb:Sl w vb b)(hpb:pb<w.heap.size)(hc0:w.cell? ⟨pb,0,Y⟩=Z va)(hc1:w.cell? ⟨pb,1,Y⟩=Z vb)(h0:aJ a b=0) :
 Calls be 147 #[U (Z ⟨pb,0,Y⟩) 2 cap] w λe w'=>∃v',e=sh (Il #[v',O J (aA a b)])/\Below w.heap.size w w' /\
  (40<(ay a b).length->v'=U Y 0 0)/\((ay a b).length<=40->Own w.heap.size w' v' (ay a b)):=by
 have he:(aJ a b !=0)=false:=by simpa using h0
 have MJ:ba a=0:=by unfold aJ at h0;split at h0<;>assumption
 have Wt:ba b=0:=by unfold aJ at h0;rw[if_pos MJ] at h0;exact h0
 have za:=aF MJ;have zb:=aF Wt;have HE:Hid (aA a b=if 40<(ay a b).length then 2 else 0):=if_pos h0;have HC:Hid (Calls _ _ _ _ _):=cQ a b va vb pb cap w ha hb hpb hc0 hc1;have HJ:Hid (∀w1,Below w.heap.size w w1->Calls be 206 #[IZ (.func 182) #[] #[],IZ (.func 207) #[] #[],U (Z ⟨pb,0,Y⟩) 2 cap] w1 λe w'=>∃v',e=sh v'/\Own w1.heap.size w' v' (ay a b)/\Below w1.heap.size w1 w'):=λw1 al=>
  kd a b va vb pb cap w1 (ha.below al) (hb.below al) (Iv hpb al.size) ((cH al).1 pb 0 hpb |>.trans hc0) ((cH al).1 pb 1 hpb |>.trans hc1) za.1 zb.1 za.2.1
 have MF:(ay a b).length<=80:=by have h1:=dY b a;have h2:=za.1;have h3:=zb.1;omega
 clear h0 MJ Wt za zb ha hb hc0 hc1;generalize ay a b=jl at *;generalize Wu:jl.length=n at *;have HGN:Hid _:=Wu;clear Wu;go_enter Tryz.func147,Tryz.ntmps147;go_wp2_with (go_at_call 205;refine HC.out.mono ?_;rintro e w1 ⟨rfl,al⟩);refine(HJ.out w1 al).mono ?_;rintro e w2 ⟨v',rfl,ho,aC⟩;have rF:∃p c,v'=U p n c:=by
  have hn:=HGN.out;rcases ho.2 with⟨h,h0⟩|⟨g,c,cur,h,_⟩
  .exact⟨Y,0,by rw[h];congr 1;omega⟩
  .exact⟨_,c,by rw[h,hn]⟩
 obtain⟨p,c,rfl⟩:=rF;have Wv:Hid _:=al.trans (aC.mono al.size);have eB:Hid (Own _ _ _ _):=ho.mono al.size;clear ho al aC HC HJ;by_cases aL:40<n
 .go_wp2_with fail
  go_ret2;refine⟨_,by rw[HE.out,if_pos aL];rfl,Wv.out,λ_=>rfl,λh=>by omega⟩
 .go_wp2_with fail
  go_ret2;refine⟨U p n c,by rw[HE.out,if_neg aL];rfl,Wv.out,λh=>by omega,λ_=>eB.out⟩
end Sv
end Go.Proofs.YtfidjlcdlakceaaGreatDoor
