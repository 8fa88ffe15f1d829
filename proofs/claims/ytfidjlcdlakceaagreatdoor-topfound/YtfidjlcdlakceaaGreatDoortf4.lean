import Derived.Test.YtfidjlcdlakceaaGreatDoortf3
set_option maxHeartbeats 800000
set_option maxRecDepth 100000
open Go.Value renaming slice→U,func→IZ,bool→AI,int→O,agg→Im,string→I,tuple→Il
open Go.Ending renaming returned→sh
open Go.Proofs.Tryz renaming prog→be
open Go.IntKind renaming i64→J
open Nat renaming not_lt_zero→Ji,le_refl→By
open Go.Sort renaming grow→Ip
open Go renaming redrawn→IA,Regrown→Om,wp_region_quiet_below→IL
namespace Go.Proofs.YtfidjlcdlakceaaGreatDoor
namespace Gw
open Go.RowKit
theorem iT(ms:List cD)(b off cap:Nat)(w:World)(hr:Row w b off ms)(hb:b<w.heap.size)(hn:ms.length<=6) :
 Calls be 184 #[U (some ⟨b,off,none⟩) ms.length cap,IZ (.func 185) #[] #[]] w λe w'=>e=sh (AI (aE ms))/\Below w.heap.size w w':=by
 have HR:Hid (Row w b off ms):=hr;clear hr;have H4:Hid (∀k,k+1<ms.length->0<=ord (ms.getD k dm) (ms.getD (k+1) dm)->aE ms=false):=λk hk hl=>by
  rcases h:aE ms with _|_
  .rfl
  .have:=fc ms h k hk;omega
 have H0:Hid ((∀j,j+1<ms.length->ord (ms.getD j dm) (ms.getD (j+1) dm)<0)->aE ms=true):=fe ms;generalize hN:ms.length=n at *;have HN:Hid (ms.length=n):=hN;clear hN;generalize hC:aE ms=res at *;have HC:Hid (aE ms=res):=hC;clear hC;go_enter Tryz.func184,Tryz.ntmps184;go_wp2_with fail;go_loopw [5] (λi w'=>∃k:Nat,(k+1<=n\/k=0)/\i=O J (k+1)/\Below w.heap.size w w'/\Hid (∀j,j<k->ord (ms.getD j dm) (ms.getD (j+1) dm)<0)) (λi _=>n-(intOf i).toNat)
 case atStart=>exact⟨0,.inr rfl,rfl,Below.refl _ _,λj h=>absurd h (Ji _)⟩
 case round=>
  obtain⟨q,hq,rfl,aU,hz⟩:=hrel;obtain⟨eA,nO⟩:=cH aU;have bA:=aU.size;by_cases aL:q+1<n
  .have F:=((HR.out q (by rw[HN.out];omega)).eq (λo=>eA b o hb)).re
   have G:=((HR.out (q+1) (by rw[HN.out];exact aL)).eq (λo=>eA b o hb)).re;have HK:Hid (0<=ord (ms.getD q dm) (ms.getD (q+1) dm)->res=false):=λh=>H4.out q aL h;have HZ:Hid (ord (ms.getD q dm) (ms.getD (q+1) dm)<0->∀j,j<q+1->ord (ms.getD j dm) (ms.getD (j+1) dm)<0):=λh j hj=>by
    rcases Nat.lt_succ_iff_lt_or_eq.1 hj with h2|rfl
    .exact hz.out j h2
    .exact h
   generalize ms.getD q dm=m1 at *;generalize ms.getD (q+1) dm=m2 at *;have hN:∀d os,Calls be 185 #[Im #[I m1.ai,O J m1.addr,O J m1.version],Im #[I m2.ai,O J m2.addr,O J m2.version]] (Ip (IA wr d) os) λe gO=>e=sh (O J (ord m1 m2))/\∃p:Om,gO=Ip (IA wr p.d) p.os:=λd os=>Calls.regrown_of (cW m1 m2 _);simp only[As] at F G;clear eA nO;generalize ord m1 m2=r at *;have xb:IntKind.i64.wrap (q:Int)=(q:Int):=by rw[IntKind.wrap_i64];omega
   have MA:q<n:=by omega
   have iw:(q:Int)+1<(n:Int):=by omega
   have hq0:(0:Int)<=(q:Int)+1:=by omega
   have L3:((q:Int)+1).toNat=q+1:=by omega
   go_wp2_with fail;refine IL (by kernel_rfl) (by kernel_rfl) ?_;repeat(quiet_step (exact hN _ _))
   refine bK λdq j8 eR=>?_;clear hN F G;by_cases hl:r<0
   .have fG:¬ (0<=r):=by omega
    go_wp2_with fail;go_roundw
    case rel=>exact⟨q+1,.inl (by omega),by go_num,aU.trans (eR.out.mono bA),HZ.out hl⟩
    case measure=>simp[intOf];omega
   .have fG:0<=r:=by omega
    have h4:Hid (res=false):=HK.out fG;go_wp2_with fail;go_ret;exact⟨aD h4.out.symm,aU.trans (eR.out.mono bA)⟩
  .have h0:Hid (res=true):=H0.out λj hj=>hz.out j (by omega)
   go_wp2_with fail;go_ret;exact⟨aD h0.out.symm,aU⟩
theorem fO(a:Option Addr)(cap:Nat)(fv:Value)(w:World) :
 Calls be 184 #[U a 0 cap,fv] w λe w'=>e=sh (AI true)/\w'=w:=by
 go_enter Tryz.func184,Tryz.ntmps184;go_wp2_with fail;go_loop [5] (λi=>i=O J 1) (λ_=>0)
 case atStart=>rfl
 case round=>
  subst hrel;go_wp2_with fail;go_ret;exact⟨rfl,rfl⟩
theorem fP(ms:List cD)(b off cap:Nat)(lk:cD)(w:World)(hr:Row w b off ms)(hb:b<w.heap.size)(hn:ms.length<=12)(gu:∀i j,i<=j->j<ms.length->ord (ms.getD j dm) lk<0->ord (ms.getD i dm) lk<0) :
 Calls be 240 #[U (some ⟨b,off,none⟩) ms.length cap,Im #[I lk.ai,O J lk.addr,O J lk.version],IZ (.func 185) #[] #[]] w λe w'=>∃(p:Nat) (f:Bool),e=sh (Il #[O J p,AI f])/\Below w.heap.size w w' /\
  p<=ms.length/\(∀j,j<p->ord (ms.getD j dm) lk<0)/\(∀j,p<=j->j<ms.length->0<=ord (ms.getD j dm) lk)/\(f=true↔p<ms.length/\ord (ms.getD p dm) lk=0):=by
 have HR:Hid (Row w b off ms):=hr;clear hr;have HM:Hid _:=gu;clear gu;generalize hN:ms.length=n at *;have HN:Hid (ms.length=n):=hN;clear hN;go_enter Tryz.func240,Tryz.ntmps240;go_wp2_with fail;obtain⟨W0,dK,df,nP,dt⟩:=cR w #[I lk.ai,O J lk.addr,O J lk.version] 49;have yj:Hid (Row W0 b off ms):=HR.out.later df hb;have HT:Hid (As W0 w.heap.size 0 lk):=⟨af dt 0,af dt 1,af dt 2⟩;have dy:Hid (Below w.heap.size w W0):=df;have Gj:Hid (W0=w.alloc (.cells #[I lk.ai,O J lk.addr,O J lk.version] 49)):=dK;clear dt df HR dK;have zT:b<w.heap.size+1:=by omega
 go_loopw [9,10] (λi j w'=>∃k l:Nat,k<=l/\l<=n/\i=O J k/\j=O J l/\Below (w.heap.size+1) W0 w'/\Hid (∀j,j<k->ord (ms.getD j dm) lk<0)/\Hid (∀j,l<=j->j<n->0<=ord (ms.getD j dm) lk)) (λi j _=>(intOf j).toNat-(intOf i).toNat)
 case atStart=>exact⟨0,n,Nat.zero_le _,By _,rfl,rfl,by rw[Gj.out];exact Below.refl _ _,λj h=>absurd h (Ji _),λj h1 h2=>by omega⟩
 case round=>
  obtain⟨k,l,sO,Si,rfl,rfl,aU,zE,zF⟩:=hrel;have bA:=aU.size;have eA:∀b o,b<w.heap.size+1->wr.cell? ⟨b,o,none⟩=W0.cell? ⟨b,o,none⟩:=λb o h=>aU.cell (p:=⟨b,o,none⟩) h;have G:=(HT.out.eq (λo=>eA w.heap.size o (by omega))).re;simp only[As,Nat.zero_add] at G;by_cases aL:k<l
  .obtain⟨h,hh,h1,h2⟩:∃h:Nat,((k:Int)+(l:Int))/2=(h:Int)/\k<=h/\h<l:=⟨(k+l)/2,by omega,by omega,by omega⟩
   have F:=((yj.out h (by rw[HN.out];omega)).eq (λo=>eA b o zT)).re;have oO:=HM.out;have HK:Hid (ord (ms.getD h dm) lk<0->∀j,j<h+1->ord (ms.getD j dm) lk<0):=λhx j hj=>oO j h (by omega) (by omega) hx;have HL:Hid (0<=ord (ms.getD h dm) lk->∀j,h<=j->j<n->0<=ord (ms.getD j dm) lk):=λhx j hj L4=>by
    apply Int.not_lt.1;intro hq;have:=oO h j hj L4 hq;omega
   clear oO;have hhn:h<n:=by omega
   generalize ms.getD h dm=m at *;have hO:∀d os,Calls be 185 #[Im #[I m.ai,O J m.addr,O J m.version],Im #[I lk.ai,O J lk.addr,O J lk.version]] (Ip (IA wr d) os) λe gO=>e=sh (O J (ord m lk))/\∃p:Om,gO=Ip (IA wr p.d) p.os:=λd os=>Calls.regrown_of (cW m lk _);simp only[As] at F;clear eA;generalize ord m lk=r at *;go_wp2_with fail;refine IL (by kernel_rfl) (by kernel_rfl) ?_;repeat(quiet_step (exact hO _ _))
   refine bK λdq j8 eR=>?_;clear hO F G;by_cases sf:r<0
   .go_wp2_with fail
    exact⟨⟨h+1,l,by omega,by omega,by go_num,rfl,aU.trans (eR.out.mono (by omega)),HK.out sf,zF⟩,by simp[intOf];omega⟩
   .have zZ:0<=r:=by omega
    go_wp2_with fail;exact⟨⟨k,h,by omega,by omega,rfl,rfl,aU.trans (eR.out.mono (by omega)),zE,HL.out zZ⟩,by simp[intOf];omega⟩
  .have CH:l=k:=by omega
   subst CH;by_cases fM:l<n
   .have F:=((yj.out l (by rw[HN.out];omega)).eq (λo=>eA b o zT)).re
    generalize hm:ms.getD l dm=m at *;have Hm:Hid (ms.getD l dm=m):=hm;clear hm;have hO:∀d os,Calls be 185 #[Im #[I m.ai,O J m.addr,O J m.version],Im #[I lk.ai,O J lk.addr,O J lk.version]] (Ip (IA wr d) os) λe gO=>e=sh (O J (ord m lk))/\∃p:Om,gO=Ip (IA wr p.d) p.os:=λd os=>Calls.regrown_of (cW m lk _);simp only[As] at F;clear eA;generalize zG:ord m lk=r at *;have Hr:Hid (ord m lk=r):=zG;clear zG;go_wp2_with fail;refine IL (by kernel_rfl) (by kernel_rfl) ?_;repeat(quiet_step (exact hO _ _))
    refine bK λdq j8 eR=>?_;clear hO F G;go_wp2_with fail;go_ret2;refine⟨l,_,rfl,dy.out.trans ((aU.trans (eR.out.mono (by omega))).mono (by omega)),by omega,zE.out,zF.out,?_⟩;rw[Hm.out,Hr.out];simp[fM]
   .clear G
    have hkd:decide ((l:Int)<(n:Int))=false:=by simp;omega
    go_wp2_with fail;go_quiet (fail)
    go_wp2_with fail;go_ret2;refine⟨l,_,rfl,dy.out.trans ((below_drewN aU _).mono (by omega)),by omega,zE.out,zF.out,?_⟩;simp[fM]
theorem ff(a:Option Addr)(cap:Nat)(lk:cD)(fv:Value)(w:World) :
 Calls be 240 #[U a 0 cap,Im #[I lk.ai,O J lk.addr,O J lk.version],fv] w λe w'=>e=sh (Il #[O J 0,AI false])/\Below w.heap.size w w':=by
 go_enter Tryz.func240,Tryz.ntmps240;go_wp2_with fail;go_loop [9,10] (λi j=>i=O J 0/\j=O J 0) (λ_ _=>0)
 case atStart=>exact⟨rfl,rfl⟩
 case round=>
  obtain⟨rfl,rfl⟩:=hrel;go_wp2_with fail;go_quiet (fail)
  go_wp2_with fail;go_ret2;exact⟨rfl,below_drewN ((Below.refl _ _).alloc (By _) _) _⟩
theorem fh(ms:List cD)(v:Value)(lk:cD)(w:World)(h:Sl w v ms)(hn:ms.length<=12)(gu:∀i j,i<=j->j<ms.length->ord (ms.getD j dm) lk<0->ord (ms.getD i dm) lk<0) :
 Calls be 240 #[v,Im #[I lk.ai,O J lk.addr,O J lk.version],IZ (.func 185) #[] #[]] w λe w'=>∃(p:Nat) (f:Bool),e=sh (Il #[O J p,AI f])/\Below w.heap.size w w'/\At ms lk p f:=by
 obtain⟨a,cap,rfl,hs,h⟩:=h;rcases h with rfl|⟨b,off,rfl,hb,hr⟩
 .refine(ff a cap lk _ w).mono ?_
  rintro e w' ⟨rfl,hb⟩;exact⟨0,false,rfl,hb,⟨by simp,λj h=>by omega,λj h h2=>by simp at h2,by simp⟩⟩
 .refine(fP ms b off cap lk w hr hb hn gu).mono ?_
  rintro e w' ⟨p,f,rfl,aU,g1,g2,g3,g4⟩;exact⟨p,f,rfl,aU,⟨g1,g2,g3,g4⟩⟩
theorem fH(ms:List cD)(v:Value)(lk:cD)(w:World)(h:Sl w v ms)(hn:ms.length<=12)(hr:bO ms) :
 Calls be 189 #[v,Im #[I lk.ai,O J lk.addr,O J lk.version],IZ (.func 185) #[] #[]] w λe w'=>∃(p:Nat) (f:Bool),e=sh (Il #[O J p,AI f])/\Below w.heap.size w w'/\At ms lk p f:=by
 have HC:Hid (∀w',Below w.heap.size w w'->Calls be 240 #[v,Im #[I lk.ai,O J lk.addr,O J lk.version],IZ (.func 185) #[] #[]] w' λe gO=>∃(p:Nat) (f:Bool),e=sh (Il #[O J p,AI f])/\Below w'.heap.size w' gO/\At ms lk p f):=
  λw' hb=>fh ms v lk w' (h.below hb) hn (dG hr lk)
 clear h hn hr;go_enter Tryz.func189,Tryz.ntmps189;go_wp2_with (go_at_call 240;refine(HC.out _ ?hb).mono ?_)
 case hb=>exact(Below.refl _ _).alloc (By _) _
 rintro e w' ⟨p,f,rfl,aU,cA⟩;have fw:Hid (At ms lk p f):=cA;clear cA;go_wp2_with fail;go_ret2;exact⟨p,f,rfl,((Below.refl _ _).alloc (By _) _).trans (aU.mono (by simp)),fw.out⟩
end Gw
end Go.Proofs.YtfidjlcdlakceaaGreatDoor
