import Derived.Test.YtfidjlcdlakceaaGreatDoortf9
set_option maxHeartbeats 4000000
set_option maxRecDepth 100000
open Go.IntKind renaming i64→J
open ByteArray renaming empty→Ih
open Go.Maps renaming has→ON,size→Oc
open Go.Value renaming agg→Im,string→I,int→O,bool→AI,slice→U,func→IZ,tuple→Il
open Go.Ending renaming returned→sh
open Go.RowKit.Below renaming refl→Ib
open Nat renaming le_refl→By,not_lt_zero→Ji,lt_succ_iff_lt_or_eq→Jj,zero_le→II,zero_add→IM,lt_of_lt_of_le→Iv
open Option renaming some→Z,none→Y
open Go.Proofs.Tryz renaming prog→be,underlying3→IG,underlying9→IE,underlying22→Od,underlying223→JH
open Go.Sort renaming grow→Ip
open Go renaming redrawn→IA,Regrown→Om,wp_region_quiet_below→IL,maxLen→Ij,heap_alloc_new→Ie,plainElem→Jo
open Go.Obj renaming cells→AT
open Go.World.ownsRow renaming frozenAt→Ja,stored→IW
open List renaming getD→Io,getElem?_eq_getElem→Ic
namespace Go.Proofs.YtfidjlcdlakceaaGreatDoor
open Go.RowKit Go.WideMaps Go.Maps
abbrev kS(s:ByteArray):Lit:=.string s.data.toList
theorem mg(s:ByteArray):WideAt.IsKeyLit (kS s):=by simp[WideAt.IsKeyLit]
theorem wZ{a b:ByteArray}(h:a≠b):kS a≠kS b:=λe=>h (by
 have h2:a.data.toList=b.data.toList:=by injection e
 obtain⟨⟨a⟩⟩:=a;obtain⟨⟨b⟩⟩:=b;simp at h2;rw[h2])
def Dm(ns:List ByteArray):Nat->DataW Unit
 |0=>.map []
 |k+1=>(Dm ns k).put (kS (ns.getD k Ih)) (.lit (.int J k))
theorem oT(ns:List ByteArray):∀k,Tidy (Dm ns k)
 |0=>tidy_empty
 |k+1=>(oT ns k).put (mg _) _
theorem qb(ns:List ByteArray)(s:ByteArray):∀k,ON (Dm ns k) (kS s)=true↔∃j,j<k/\ns.getD j Ih=s
 |0=>by simp[Dm,ON]
 |k+1=>by
  by_cases h:ns.getD k Ih=s
  .subst h
   rw[Dm,has_put_same (oT ns k).isMap (mg _)];exact⟨λ_=>⟨k,by omega,rfl⟩,λ_=>rfl⟩
  .rw[Dm,has_put_other (wZ (Ne.symm h)),qb ns s k]
   constructor
   .rintro⟨j,hj,e⟩;exact⟨j,by omega,e⟩
   .rintro⟨j,hj,e⟩
    by_cases Sg:j=k
    .subst Sg;exact absurd e h
    .exact⟨j,by omega,e⟩
theorem sN(ns:List ByteArray)(k:Nat):Oc (Dm ns (k+1))=if ON (Dm ns k) (kS (ns.getD k Ih))=true then Oc (Dm ns k) else Oc (Dm ns k)+1:=by
 rw[Dm,size_put (oT ns k)]
theorem od(ns:List ByteArray):∀k,Oc (Dm ns k)<=k
 |0=>by simp[Dm,Oc]
 |k+1=>by
  have:=od ns k;rw[sN];split<;>omega
theorem oe(ns:List ByteArray):∀k,(∀i j,i<j->j<k->ns.getD i Ih≠ns.getD j Ih)->Oc (Dm ns k)=k
 |0,_=>by simp[Dm,Oc]
 |k+1,h=>by
  have h1:=oe ns k (λi j hi hj=>h i j hi (by omega));have h2:¬ ON (Dm ns k) (kS (ns.getD k Ih))=true:=by
   rw[qb];rintro⟨j,hj,e⟩;exact h j k hj (by omega) e
  rw[sN,if_neg h2,h1]
theorem og(ns:List ByteArray):∀k,(∃i j,i<j/\j<k/\ns.getD i Ih=ns.getD j Ih)->Oc (Dm ns k)<k
 |0,⟨i,j,_,hj,_⟩=>by omega
 |k+1,⟨i,j,lO,hj,e⟩=>by
  rw[sN];by_cases Sg:j=k
  .subst Sg
   rw[if_pos ((qb ns _ j).2 ⟨i,lO,e⟩)];have:=od ns j;omega
  .have:=og ns k ⟨i,j,lO,by omega,e⟩
   split<;>omega
theorem Mz(ns:List ByteArray)(s:ByteArray)(z:DataW Unit):∀k j,j<k->ns.getD j Ih=s->(∀i,j<i->i<k->ns.getD i Ih≠s)->(Dm ns k).atKey (kS s) z=.lit (.int J j)
 |0,j,hj,_,_=>by omega
 |k+1,j,hj,e,h=>by
  by_cases Sg:j=k
  .subst Sg
   subst e;rw[Dm,atKey_put_same (oT ns j).isMap (mg _)]
  .rw[Dm,atKey_put_other (wZ (λx=>h k (by omega) (by omega) x.symm))]
   exact Mz ns s z k j (by omega) e (λi hi hk=>h i hi (by omega))
end Go.Proofs.YtfidjlcdlakceaaGreatDoor
namespace Go.Proofs.YtfidjlcdlakceaaGreatDoor
open Go.RowKit
theorem cW(a b:Mem)(w:World) :
 aP 177 #[Im #[I a.name,O J a.state,O J a.aX,O J a.addr,AI a.server],Im #[I b.name,O J b.state,O J b.aX,O J b.addr,AI b.server]] w λe w'=>e=sh (O J (bz a.name b.name))/\Below w.heap.size w w':=by
 go_enter Tryz.func177,Tryz.ntmps177;go_wp2_with (go_at_call 110;refine(fb _ _ _).mono ?_;rintro e w' ⟨rfl,rfl⟩);go_ret;exact⟨rfl,((Ib _ _).alloc (By _) _).alloc (by simp) _⟩
theorem ja(a b:Mem)(w:World) :
 aP 239 #[Im #[I a.name,O J a.state,O J a.aX,O J a.addr,AI a.server],Im #[I b.name,O J b.state,O J b.aX,O J b.addr,AI b.server]] w λe w'=>e=sh (AI (jG a b))/\Below w.heap.size w w':=by
 refine(xa a.name b.name a.state a.aX a.addr a.server b.state b.aX b.addr b.server w).mono ?_;rintro e w' ⟨rfl,rfl⟩;exact⟨rfl,((Ib _ _).alloc (By _) _).alloc (by simp) _⟩
theorem iT(ms:List Mem)(b off cap:Nat)(w:World)(hr:Row w b off ms)(hb:b<w.heap.size)(hn:ms.length<=20) :
 Calls be 176 #[U (Z ⟨b,off,Y⟩) ms.length cap,IZ (.func 177) #[] #[]] w λe w'=>e=sh (AI (aE ms))/\Below w.heap.size w w':=by
 have HR:Hid (Row w b off ms):=hr;clear hr;have H4:Hid (∀k,k+1<ms.length->0<=bz (ms.getD k dm).name (ms.getD (k+1) dm).name->aE ms=false):=λk hk hl=>by
  rcases h:aE ms with _|_
  .rfl
  .have:=fc ms h k hk;omega
 have H0:Hid ((∀j,j+1<ms.length->bz (ms.getD j dm).name (ms.getD (j+1) dm).name<0)->aE ms=true):=fe ms;generalize hN:ms.length=n at *;have HN:Hid (ms.length=n):=hN;clear hN;generalize hC:aE ms=res at *;have HC:Hid (aE ms=res):=hC;clear hC;go_enter Tryz.func176,Tryz.ntmps176;go_wp2_with fail;go_loopw [5] (λi w'=>∃k:Nat,(k+1<=n\/k=0)/\i=O J (k+1)/\Below w.heap.size w w'/\Hid (∀j,j<k->bz (ms.getD j dm).name (ms.getD (j+1) dm).name<0)) (λi _=>n-(intOf i).toNat)
 case atStart=>exact⟨0,.inr rfl,rfl,Ib _ _,λj h=>absurd h (Ji _)⟩
 case round=>
  obtain⟨q,hq,rfl,aU,hz⟩:=hrel;obtain⟨eA,nO⟩:=cH aU;have bA:=aU.size;by_cases aL:q+1<n
  .have F:=((HR.out q (by rw[HN.out];omega)).eq (λo=>eA b o hb)).re
   have G:=((HR.out (q+1) (by rw[HN.out];exact aL)).eq (λo=>eA b o hb)).re;have HK:Hid (0<=bz (ms.getD q dm).name (ms.getD (q+1) dm).name->res=false):=λh=>H4.out q aL h;have HZ:Hid (bz (ms.getD q dm).name (ms.getD (q+1) dm).name<0->∀j,j<q+1->bz (ms.getD j dm).name (ms.getD (j+1) dm).name<0):=λh j hj=>by
    rcases Jj.1 hj with h2|rfl
    .exact hz.out j h2
    .exact h
   generalize ms.getD q dm=m1 at *;generalize ms.getD (q+1) dm=m2 at *;have hN:∀d os,Calls be 177 #[Im #[I m1.name,O J m1.state,O J m1.aX,O J m1.addr,AI m1.server],Im #[I m2.name,O J m2.state,O J m2.aX,O J m2.addr,AI m2.server]] (Ip (IA wr d) os) λe gO=>e=sh (O J (bz m1.name m2.name))/\∃p:Om,gO=Ip (IA wr p.d) p.os:=λd os=>Calls.regrown_of (cW m1 m2 _);simp only[As] at F G;clear eA nO;generalize bz m1.name m2.name=r at *;have xb:IntKind.i64.wrap (q:Int)=(q:Int):=by rw[IntKind.wrap_i64];omega
   have MA:q<n:=by omega
   have iw:(q:Int)+1<(n:Int):=by omega
   have hq0:(0:Int)<=(q:Int)+1:=by omega
   have L3:((q:Int)+1).toNat=q+1:=by omega
   go_wp2_with fail;refine IL (by kernel_rfl) (by kernel_rfl) ?_;repeat(quiet_step (exact hN _ _))
   refine bK λdq j8 eR=>?_;clear hN F G;by_cases hl:r<0
   .have fG:¬ (0<=r):=by omega
    go_wp2_with fail;go_roundw
    case rel=>exact⟨q+1,.inl (by omega),by go_num,aU.trans (eR.out.mono bA),HZ.out hl⟩
    case measure=>simp[intOf];omega
   .have fG:0<=r:=by omega
    have h4:Hid (res=false):=HK.out fG;go_wp2_with fail;go_ret;exact⟨aD h4.out.symm,aU.trans (eR.out.mono bA)⟩
  .have h0:Hid (res=true):=H0.out λj hj=>hz.out j (by omega)
   go_wp2_with fail;go_ret;exact⟨aD h0.out.symm,aU⟩
theorem fO(a:Option Addr)(cap:Nat)(fv:Value)(w:World) :
 Calls be 176 #[U a 0 cap,fv] w λe w'=>e=sh (AI true)/\w'=w:=by
 go_enter Tryz.func176,Tryz.ntmps176;go_wp2_with fail;go_loop [5] (λi=>i=O J 1) (λ_=>0)
 case atStart=>rfl
 case round=>
  subst hrel;go_wp2_with fail;go_ret;exact⟨rfl,rfl⟩
theorem fP(ms:List Mem)(b off cap:Nat)(lk:Mem)(w:World)(hr:Row w b off ms)(hb:b<w.heap.size)(hn:ms.length<=40)(gu:∀i j,i<=j->j<ms.length->bz (ms.getD j dm).name lk.name<0->bz (ms.getD i dm).name lk.name<0) :
 Calls be 271 #[U (Z ⟨b,off,Y⟩) ms.length cap,Im #[I lk.name,O J lk.state,O J lk.aX,O J lk.addr,AI lk.server],IZ (.func 177) #[] #[]] w λe w'=>∃(p:Nat) (f:Bool),e=sh (Il #[O J p,AI f])/\Below w.heap.size w w' /\
  p<=ms.length/\(∀j,j<p->bz (ms.getD j dm).name lk.name<0)/\(∀j,p<=j->j<ms.length->0<=bz (ms.getD j dm).name lk.name)/\(f=true↔p<ms.length/\bz (ms.getD p dm).name lk.name=0):=by
 have HR:Hid (Row w b off ms):=hr;clear hr;have HM:Hid _:=gu;clear gu;generalize hN:ms.length=n at *;have HN:Hid (ms.length=n):=hN;clear hN;go_enter Tryz.func271,Tryz.ntmps271;go_wp2_with fail;obtain⟨W0,dK,df,nP,dt⟩:=cR w #[I lk.name,O J lk.state,O J lk.aX,O J lk.addr,AI lk.server] 70;have yj:Hid (Row W0 b off ms):=HR.out.later df hb;have HT:Hid (As W0 w.heap.size 0 lk):=⟨af dt 0,af dt 1,af dt 2,af dt 3,af dt 4⟩;have dy:Hid (Below w.heap.size w W0):=df;have Gj:Hid (W0=w.alloc (AT #[I lk.name,O J lk.state,O J lk.aX,O J lk.addr,AI lk.server] 70)):=dK;clear dt df HR dK;have zT:b<w.heap.size+1:=by omega
 go_loopw [9,10] (λi j w'=>∃k l:Nat,k<=l/\l<=n/\i=O J k/\j=O J l/\Below (w.heap.size+1) W0 w'/\Hid (∀j,j<k->bz (ms.getD j dm).name lk.name<0)/\Hid (∀j,l<=j->j<n->0<=bz (ms.getD j dm).name lk.name)) (λi j _=>(intOf j).toNat-(intOf i).toNat)
 case atStart=>exact⟨0,n,II _,By _,rfl,rfl,by rw[Gj.out];exact Ib _ _,λj h=>absurd h (Ji _),λj h1 h2=>by omega⟩
 case round=>
  obtain⟨k,l,sO,Si,rfl,rfl,aU,zE,zF⟩:=hrel;have bA:=aU.size;have eA:∀b o,b<w.heap.size+1->wr.cell? ⟨b,o,Y⟩=W0.cell? ⟨b,o,Y⟩:=λb o h=>aU.cell (p:=⟨b,o,Y⟩) h;have G:=(HT.out.eq (λo=>eA w.heap.size o (by omega))).re;simp only[As,IM] at G;by_cases aL:k<l
  .obtain⟨h,hh,h1,h2⟩:∃h:Nat,((k:Int)+(l:Int))/2=(h:Int)/\k<=h/\h<l:=⟨(k+l)/2,by omega,by omega,by omega⟩
   have F:=((yj.out h (by rw[HN.out];omega)).eq (λo=>eA b o zT)).re;have oO:=HM.out;have HK:Hid (bz (ms.getD h dm).name lk.name<0->∀j,j<h+1->bz (ms.getD j dm).name lk.name<0):=λhx j hj=>oO j h (by omega) (by omega) hx;have HL:Hid (0<=bz (ms.getD h dm).name lk.name->∀j,h<=j->j<n->0<=bz (ms.getD j dm).name lk.name):=λhx j hj L4=>by
    apply Int.not_lt.1;intro hq;have:=oO h j hj L4 hq;omega
   clear oO;have hhn:h<n:=by omega
   generalize ms.getD h dm=m at *;have hO:∀d os,Calls be 177 #[Im #[I m.name,O J m.state,O J m.aX,O J m.addr,AI m.server],Im #[I lk.name,O J lk.state,O J lk.aX,O J lk.addr,AI lk.server]] (Ip (IA wr d) os) λe gO=>e=sh (O J (bz m.name lk.name))/\∃p:Om,gO=Ip (IA wr p.d) p.os:=λd os=>Calls.regrown_of (cW m lk _);simp only[As] at F;clear eA;generalize bz m.name lk.name=r at *;go_wp2_with fail;refine IL (by kernel_rfl) (by kernel_rfl) ?_;repeat(quiet_step (exact hO _ _))
   refine bK λdq j8 eR=>?_;clear hO F G;by_cases sf:r<0
   .go_wp2_with fail
    exact⟨⟨h+1,l,by omega,by omega,by go_num,rfl,aU.trans (eR.out.mono (by omega)),HK.out sf,zF⟩,by simp[intOf];omega⟩
   .have zZ:0<=r:=by omega
    go_wp2_with fail;exact⟨⟨k,h,by omega,by omega,rfl,rfl,aU.trans (eR.out.mono (by omega)),zE,HL.out zZ⟩,by simp[intOf];omega⟩
  .have CH:l=k:=by omega
   subst CH;by_cases fM:l<n
   .have F:=((yj.out l (by rw[HN.out];omega)).eq (λo=>eA b o zT)).re
    generalize hm:ms.getD l dm=m at *;have Hm:Hid (ms.getD l dm=m):=hm;clear hm;have hO:∀d os,Calls be 177 #[Im #[I m.name,O J m.state,O J m.aX,O J m.addr,AI m.server],Im #[I lk.name,O J lk.state,O J lk.aX,O J lk.addr,AI lk.server]] (Ip (IA wr d) os) λe gO=>e=sh (O J (bz m.name lk.name))/\∃p:Om,gO=Ip (IA wr p.d) p.os:=λd os=>Calls.regrown_of (cW m lk _);simp only[As] at F;clear eA;generalize zG:bz m.name lk.name=r at *;have Hr:Hid (bz m.name lk.name=r):=zG;clear zG;go_wp2_with fail;refine IL (by kernel_rfl) (by kernel_rfl) ?_;repeat(quiet_step (exact hO _ _))
    refine bK λdq j8 eR=>?_;clear hO F G;go_wp2_with fail;go_ret2;refine⟨l,_,rfl,dy.out.trans ((aU.trans (eR.out.mono (by omega))).mono (by omega)),by omega,zE.out,zF.out,?_⟩;rw[Hm.out,Hr.out];simp[fM]
   .clear G
    have hkd:decide ((l:Int)<(n:Int))=false:=by simp;omega
    go_wp2_with fail;go_quiet (fail)
    go_wp2_with fail;go_ret2;refine⟨l,_,rfl,dy.out.trans ((below_drewN aU _).mono (by omega)),by omega,zE.out,zF.out,?_⟩;simp[fM]
theorem ff(a:Option Addr)(cap:Nat)(lk:Mem)(fv:Value)(w:World) :
 Calls be 271 #[U a 0 cap,Im #[I lk.name,O J lk.state,O J lk.aX,O J lk.addr,AI lk.server],fv] w λe w'=>e=sh (Il #[O J 0,AI false])/\Below w.heap.size w w':=by
 go_enter Tryz.func271,Tryz.ntmps271;go_wp2_with fail;go_loop [9,10] (λi j=>i=O J 0/\j=O J 0) (λ_ _=>0)
 case atStart=>exact⟨rfl,rfl⟩
 case round=>
  obtain⟨rfl,rfl⟩:=hrel;go_wp2_with fail;go_quiet (fail)
  go_wp2_with fail;go_ret2;exact⟨rfl,below_drewN ((Ib _ _).alloc (By _) _) _⟩
theorem fh(ms:List Mem)(v:Value)(lk:Mem)(w:World)(h:Sl w v ms)(hn:ms.length<=40)(gu:∀i j,i<=j->j<ms.length->bz (ms.getD j dm).name lk.name<0->bz (ms.getD i dm).name lk.name<0) :
 Calls be 271 #[v,Im #[I lk.name,O J lk.state,O J lk.aX,O J lk.addr,AI lk.server],IZ (.func 177) #[] #[]] w λe w'=>∃(p:Nat) (f:Bool),e=sh (Il #[O J p,AI f])/\Below w.heap.size w w'/\At ms lk.name p f:=by
 obtain⟨a,cap,rfl,hs,h⟩:=h;rcases h with rfl|⟨b,off,rfl,hb,hr⟩
 .refine(ff a cap lk _ w).mono ?_
  rintro e w' ⟨rfl,hb⟩;exact⟨0,false,rfl,hb,⟨by simp,λj h=>by omega,λj h h2=>by simp at h2,by simp⟩⟩
 .refine(fP ms b off cap lk w hr hb hn gu).mono ?_
  rintro e w' ⟨p,f,rfl,aU,g1,g2,g3,g4⟩;exact⟨p,f,rfl,aU,⟨g1,g2,g3,g4⟩⟩
theorem fH(ms:List Mem)(v:Value)(lk:Mem)(w:World)(h:Sl w v ms)(hn:ms.length<=40)(hr:bO ms) :
 Calls be 247 #[v,Im #[I lk.name,O J lk.state,O J lk.aX,O J lk.addr,AI lk.server],IZ (.func 177) #[] #[]] w λe w'=>∃(p:Nat) (f:Bool),e=sh (Il #[O J p,AI f])/\Below w.heap.size w w'/\At ms lk.name p f:=by
 have HC:Hid (∀w',Below w.heap.size w w'->Calls be 271 #[v,Im #[I lk.name,O J lk.state,O J lk.aX,O J lk.addr,AI lk.server],IZ (.func 177) #[] #[]] w' λe gO=>∃(p:Nat) (f:Bool),e=sh (Il #[O J p,AI f])/\Below w'.heap.size w' gO/\At ms lk.name p f):=
  λw' hb=>fh ms v lk w' (h.below hb) hn (dG hr lk.name)
 clear h hn hr;go_enter Tryz.func247,Tryz.ntmps247;go_wp2_with (go_at_call 271;refine(HC.out _ ?hb).mono ?_)
 case hb=>exact(Ib _ _).alloc (By _) _
 rintro e w' ⟨p,f,rfl,aU,cA⟩;have fw:Hid (At ms lk.name p f):=cA;clear cA;go_wp2_with fail;go_ret2;exact⟨p,f,rfl,((Ib _ _).alloc (By _) _).trans (aU.mono (by simp)),fw.out⟩
theorem oU{a b:List Mem}(oV:a.length<=20)(rB:b.length<=20)(k:Nat):(eK a b k).length<=40:=by
 unfold eK;split
 .simp
 .split
  .omega
  .have:=dY b a;omega
structure MB(w:World)(pb:Nat)(a b:List Mem)(k:Nat)(l:List Mem)(pk:Option Addr)(ck:Nat):Prop where
 cell:w.cell? ⟨pb,k,Y⟩=Z (U pk l.length ck)
 row:l=[]\/∃b off,pk=Z ⟨b,off,Y⟩/\b<w.heap.size/\Row w b off l
 Td:∀m∈l,(m).name.size<=Ij
 len:l.length<=20
 MC:(eK a b k).length<=20
 Aa:bO (eK a b k)
 MD:∀m∈eK a b k,(m).name.size<=Ij
 step:eK a b (k+1)=ay (eK a b k) l
theorem tv{a b:List Mem}{va vb:Value}{pb:Nat}{w:World}(ha:Sl w va a)(hb:Sl w vb b)(hc0:w.cell? ⟨pb,0,Y⟩=Z va)(hc1:w.cell? ⟨pb,1,Y⟩=Z vb)(oV:a.length<=20)(rB:b.length<=20)(ra:bO a)(k:Nat)(hk:k<2) :
 ∃l pk ck,MB w pb a b k l pk ck:=by
 obtain⟨pa,ca,rfl,Wo,ha⟩:=ha;obtain⟨pv,cb,rfl,nsb,hb⟩:=hb;have gP:k=0\/k=1:=by omega
 rcases gP with rfl|rfl
 .exact⟨a,pa,ca,hc0,ha,cZ Wo,oV,by simp[eK],by simp[eK],by simp[eK],(j9 a ra).symm⟩
 .exact⟨b,pv,cb,hc1,hb,cZ nsb,rB,oV,ra,cZ Wo,rfl⟩
theorem kd(a b:List Mem)(va vb:Value)(pb cap:Nat)(w:World)(ha:Sl w va a)(hb:Sl w vb b)(hpb:pb<w.heap.size)(hc0:w.cell? ⟨pb,0,Y⟩=Z va)(hc1:w.cell? ⟨pb,1,Y⟩=Z vb)(oV:a.length<=20)(rB:b.length<=20)(ra:bO a) :
 Calls be 245 #[IZ (.func 177) #[] #[],IZ (.func 239) #[] #[],U (Z ⟨pb,0,Y⟩) 2 cap] w λe w'=>∃v',e=sh v'/\Own w.heap.size w' v' (ay a b)/\Below w.heap.size w w':=by
 have HK:Hid (∀k,k<2->∃l pk ck,MB w pb a b k l pk ck):=λk hk=>tv ha hb hc0 hc1 oV rB ra k hk;have HL2:Hid (∀k,(eK a b k).length<=40):=oU oV rB;clear ha hb hc0 hc1 oV rB ra;go_enter Tryz.func245,Tryz.ntmps245;go_wp2_with fail;go_loopw [7,16] (λkn i w'=>∃k:Nat,k<=2/\i=O J k/\Below w.heap.size w w'/\Hid (Own w.heap.size w' kn (eK a b k))) (λ_ i _=>2-(intOf i).toNat)
 case atStart=>exact⟨0,by omega,rfl,Ib _ _,bj _ _⟩
 case round=>
  obtain⟨k,hk,rfl,aU,HO⟩:=hrel;obtain⟨eA,nO⟩:=cH aU;have bA:=aU.size;by_cases sg:k<2
  .obtain⟨l,pk,ck,tz⟩:=HK.out k sg
   have tA:Hid (MB w pb a b k l pk ck):=tz;have ej:=tz.cell;clear tz;generalize L5:l.length=nl at *;have yk:Hid (l.length=nl):=L5;clear L5;have Wp:nl<=20:=by have:=tA.out.len;have:=yk.out;omega
   have acq:(k:Int)<2:=by omega
   go_wp2_with fail;go_loopw [7,22] (λkn j w'=>∃q:Nat,q<=nl/\j=O J q/\Below w.heap.size w w'/\Hid (Own w.heap.size w' kn (ay (eK a b k) (l.take q)))) (λ_ j _=>nl-(intOf j).toNat)
   case atStart=>exact⟨0,II _,rfl,aU,HO⟩
   case round=>
    clear eA nO bA aU HO ej;obtain⟨q,hq,rfl,aU,HO⟩:=hrel;obtain⟨eA,nO⟩:=cH aU;have bA:=aU.size;by_cases aL:q<nl
    .obtain⟨b2,off,ME,Gk,dL⟩:∃CI off,pk=Z ⟨CI,off,Y⟩/\CI<w.heap.size/\Row w CI off l:=by
      rcases tA.out.row with h|h
      .have:=yk.out;rw[h] at this;simp at this;omega
      .exact h
     subst ME;obtain⟨c0,c1,c2,c3,c4⟩:=dL q (by rw[yk.out];exact aL);clear dL;have HJ:Hid (ay (eK a b k) (l.take (q+1))=aZ (ay (eK a b k) (l.take q)) (l.getD q dm)):=jb (eK a b k) l q (by rw[yk.out];exact aL);have HR:Hid (bO (ay (eK a b k) (l.take q))):=gQ _ _ tA.out.Aa;have XG:Hid (∀j,((ay (eK a b k) (l.take q)).getD j dm).name.size<=Ij):=cB (jR _ _ tA.out.MD (λx hx=>tA.out.Td x (List.mem_of_mem_take hx)));have HL:Hid ((ay (eK a b k) (l.take q)).length<=40):=by
      have h1:=dY (l.take q) (eK a b k);have h2:(l.take q).length<=q:=List.length_take_le _ _;have h3:=tA.out.MC;show(ay (eK a b k) (l.take q)).length<=40;omega
     generalize l.getD q dm=m at *;generalize ay (eK a b k) (l.take q)=known at *;have MF:known.length<=40:=HL.out;obtain⟨W1,e9,al,gI,bb⟩:=cR wr #[I m.name,O J m.state,O J m.aX,O J m.addr,AI m.server] 70;have j7:Hid (Own w.heap.size W1 u7 known):=HO.out.below al;have HF:Hid (Calls be 247 #[u7,Im #[I m.name,O J m.state,O J m.aX,O J m.addr,AI m.server],IZ (.func 177) #[] #[]] W1 λe w'=>∃(p:Nat) (f:Bool),e=sh (Il #[O J p,AI f])/\Below W1.heap.size W1 w'/\At known m.name p f):=
      fH known u7 m W1 (j7.out.sl XG.out) HL.out HR.out
     have aR:Hid (Below w.heap.size w W1):=aU.trans (al.mono bA);have HT:Hid (As W1 wr.heap.size 0 m):=⟨af bb 0,af bb 1,af bb 2,af bb 3,af bb 4⟩;have rC:Hid _:=e9;have Gl:w.heap.size<=W1.heap.size:=by omega
     clear bb al HO HL HR e9;go_wp2_with fail;rw[<- rC.out];refine HF.out.mono ?_;rintro e w2 ⟨p,f,rfl,aC,cA⟩;have fw:Hid _:=cA;have acr:=cA.le;have CJ:=aC.size;have gv:Hid (Own _ _ _ _):=j7.out.below aC;have bw:Hid _:=aR.out.trans (aC.mono Gl);have si:Hid (As w2 wr.heap.size 0 m):=HT.out.eq (λo=>aC.cell (p:=⟨wr.heap.size,o,Y⟩) (by show wr.heap.size<W1.heap.size;omega));obtain⟨t0,t1,t2,t3,t4⟩:w2.cell? ⟨wr.heap.size,0,Y⟩=Z (I m.name)/\w2.cell? ⟨wr.heap.size,1,Y⟩=Z (O J m.state)/\w2.cell? ⟨wr.heap.size,2,Y⟩=Z (O J m.aX)/\w2.cell? ⟨wr.heap.size,3,Y⟩=Z (O J m.addr)/\w2.cell? ⟨wr.heap.size,4,Y⟩=Z (AI m.server):=si.out;have iZ:w.heap.size<=w2.heap.size:=by omega
     have MG:wr.heap.size<w2.heap.size:=by omega
     clear cA HF eA nO c0 c1 c2 c3 c4 aC j7 aR HT;cases f
     .have bu:Hid (u7.ownBlock≠Z w2.heap.size):=λe=>by have:=gv.out.lt _ e;omega
      have eB:Hid (Own w.heap.size (w2.alloc (AT #[I m.name,O J m.state,O J m.aX,O J m.addr,AI m.server] 70)) u7 known):=gv.out.below ((Ib _ _).alloc (By _) _);have qa:Hid ((w2.alloc (AT #[I m.name,O J m.state,O J m.aX,O J m.addr,AI m.server] 70)).heap[w2.heap.size]?=Z (AT m.cs.toArray 70 (0,0))):=Ie w2 _;go_wp2_with (go_at_call 270;refine(fQ w.heap.size p w2.heap.size u7 known m _ eB.out fw.out.le (by omega) (by simp;omega) qa.out bu.out).mono ?_;rintro e w4 ⟨v',rfl,g1,g2⟩);go_roundw
      case rel=>
       have kW:∃tB:Nat,tB<=nl/\Value.int J ((q:Int)+1)=O J tB/\Below w.heap.size w w4/\Hid (Own w.heap.size w4 v' (ay (eK a b k) (l.take tB))):=⟨q+1,by omega,by go_num,below_grown (bw.out.alloc iZ _) eB.out g2 (by simp;omega),by rw[HJ.out,dM known m p false fw.out];exact g1⟩;first|exact kW|((repeat apply Exists.intro);exact⟨kW,rfl⟩)
      case measure=>simp[intOf];omega
     .have hp:p<known.length:=(fw.out.is.1 rfl).1
      obtain⟨g,c,hu⟩:=eL gv.out p hp;subst hu;have F:=(dH gv.out p hp).re;have jZ:=gv.out.lt g rfl;have XH:g<w2.heap.size:=jZ.2;generalize hm:known.getD p dm=m2 at *;have Hm:Hid _:=hm;clear hm;have hN:∀d os,Calls be 239 #[Im #[I m.name,O J m.state,O J m.aX,O J m.addr,AI m.server],Im #[I m2.name,O J m2.state,O J m2.aX,O J m2.addr,AI m2.server]] (Ip (IA w2 d) os) λe gO=>e=sh (AI (jG m m2))/\∃p:Om,gO=Ip (IA w2 p.d) p.os:=λd os=>Calls.regrown_of (ja m m2 _);have G:=si.out.re;simp only[As,IM] at F G;have gF:∀o,w2.frozen? ⟨g,o,Y⟩=false:=λo=>Ja gv.out o;have HFZ:Hid _:=gF;clear gF t0 t1 t2 t3 t4;generalize L6:jG m m2=nw at *;have Wq:Hid _:=L6;clear L6;go_wp2_with fail;refine IL (by kernel_rfl) (by kernel_rfl) ?_;repeat(quiet_step (exact hN _ _))
      refine bK λdq j8 eR=>?_;clear hN F G;cases nw
      .go_wp2_with fail
       go_roundw
       case rel=>
        have kW:∃tB:Nat,tB<=nl/\Value.int J ((q:Int)+1)=O J tB/\Below w.heap.size w (Ip (IA w2 dq) j8)/\Hid (Own w.heap.size (Ip (IA w2 dq) j8) (U (Z ⟨g,0,Y⟩) known.length c) (ay (eK a b k) (l.take tB))):=⟨q+1,by omega,by go_num,bw.out.trans (eR.out.mono iZ),by rw[HJ.out,dM known m p true fw.out,if_pos rfl,Hm.out,if_neg (λh=>Bool.false_ne_true (Wq.out.symm.trans h))];exact gv.out.below eR.out⟩;first|exact kW|((repeat apply Exists.intro);exact⟨kW,rfl⟩)
       case measure=>simp[intOf];omega
      .generalize Ip (IA w2 dq) j8=w3 at *
       have eB:Hid (Own _ _ _ _):=gv.out.below eR.out;obtain⟨c0,c1,c2,c3,c4⟩:=dH eB.out p hp;rw[Hm.out] at c0 c1 c2 c3 c4;have vt:=(eB.out.lt g rfl).2;have gF:∀o,w3.frozen? ⟨g,o,Y⟩=false:=λo=>Ja eB.out o;obtain⟨s0,s1,s2,s3,s4⟩:w3.cell? ⟨wr.heap.size,0,Y⟩=Z (I m.name)/\w3.cell? ⟨wr.heap.size,1,Y⟩=Z (O J m.state)/\w3.cell? ⟨wr.heap.size,2,Y⟩=Z (O J m.aX)/\w3.cell? ⟨wr.heap.size,3,Y⟩=Z (O J m.addr)/\w3.cell? ⟨wr.heap.size,4,Y⟩=Z (AI m.server):=si.out.eq (λo=>eR.out.cell (p:=⟨wr.heap.size,o,Y⟩) MG);go_wp2_with fail;refine⟨⟨q+1,by omega,by go_num,?_,?_⟩,by simp[intOf];omega⟩
       .exact((((((bw.out.trans (eR.out.mono iZ)).setCell (p:=⟨g,p*5,Y⟩) jZ.1 (I m.name)).setCell (p:=⟨g,p*5+1,Y⟩) jZ.1 (O J m.state)).setCell (p:=⟨g,p*5+2,Y⟩) jZ.1 (O J m.aX)).setCell (p:=⟨g,p*5+3,Y⟩) jZ.1 (O J m.addr)).setCell (p:=⟨g,p*5+4,Y⟩) jZ.1 (AI m.server))
       .rw[HJ.out,dM known m p true fw.out,if_pos rfl,Hm.out,if_pos Wq.out]
        exact oW eB.out hp m
    .have MA:q=nl:=by omega
     subst MA;have eB:Hid (Own w.heap.size wr u7 (eK a b (k+1))):=by
      have h:=HO.out;rw[List.take_of_length_le (by rw[yk.out];exact By _)] at h;rw[tA.out.step];exact h
     go_wp2_with fail;go_roundw
     case rel=>exact⟨k+1,by omega,by go_num,aU,eB⟩
     case measure=>simp[intOf];omega
  .have Wr:k=2:=by omega
   subst Wr;go_wp2_with fail;go_ret;exact⟨_,rfl,HO.out,aU⟩
theorem fI(m:Mem)(w:World)(hm:m.name.size<=Ij) :
 Calls be 175 #[Im #[I m.name,O J m.state,O J m.aX,O J m.addr,AI m.server]] w λe w'=>e=sh (O J m.e)/\Below w.heap.size w w':=by
 refine(ym m.name m.state m.aX m.addr m.server w hm).mono ?_;rintro e w' ⟨rfl,rfl⟩;exact⟨rfl,(Ib _ _).alloc (By _) _⟩
theorem gR(ms:List Mem)(b off cap:Nat)(w:World)(hr:Row w b off ms)(hb:b<w.heap.size)(hn:ms.length<=20)(hs:∀j,(ms.getD j dm).name.size<=Ij) :
 Calls be 127 #[U (Z ⟨b,off,Y⟩) ms.length cap] w λe w'=>e=sh (O J (ba ms))/\Below w.heap.size w w':=by
 have HR:Hid (Row w b off ms):=hr;have HE:Hid (∀k,k<ms.length->(∀j,j<k->(ms.getD j dm).e=0)->(ms.getD k dm).e≠0->ba ms=(ms.getD k dm).e):=λk h1 h2 h3=>tC ms k hn h1 h2 h3;have H4:Hid ((∀j,j<ms.length->(ms.getD j dm).e=0)->ba ms=if aE ms=true then 0 else 4):=λh1=>rD ms hn h1;have MH:Hid (∀w',Below w.heap.size w w'->Calls _ _ _ _ _):=λw' rE=>iT ms b off cap w' (hr.later rE hb) (Iv hb rE.size) hn;clear hr;generalize hN:ms.length=n at *;have HN:Hid _:=hN;clear hN;have HS:Hid _:=hs;clear hs;generalize hC:ba ms=res at *;have HC:Hid _:=hC;clear hC;generalize MI:aE ms=rb at *;have XI:Hid _:=MI;clear MI;go_enter Tryz.func127,Tryz.ntmps127;go_wp2_with fail;go_loopw [11] (λi w'=>∃k:Nat,k<=n/\i=O J k/\Below w.heap.size w w'/\Hid (∀j,j<k->(ms.getD j dm).e=0)) (λi _=>n-(intOf i).toNat)
 case atStart=>exact⟨0,II _,rfl,Ib _ _,λj h=>absurd h (Ji _)⟩
 case round=>
  obtain⟨k,hk,rfl,aU,hz⟩:=hrel;obtain⟨eA,nO⟩:=cH aU;have bA:=aU.size;by_cases aL:k<n
  .obtain⟨c0,c1,c2,c3,c4⟩:=HR.out k (by rw[HN.out];exact aL)
   have Sj:Hid _:=HS.out k;have HK:Hid ((ms.getD k dm).e≠0->res=(ms.getD k dm).e):=λh=>HE.out k aL hz.out h;have HZ:Hid ((ms.getD k dm).e=0->∀j,j<k+1->(ms.getD j dm).e=0):=λh j hj=>by
    rcases Jj.1 hj with h2|rfl
    .exact hz.out j h2
    .exact h
   generalize ms.getD k dm=m at *;have HO:Hid (∀w,Calls _ _ _ _ _):=λw=>fI m w Sj.out;generalize m.e=me at *;rcases he:decide (me=0) with _|_
   .have ki:(me !=0)=true:=by simpa using he
    clear he;go_wp2_with (go_at_call 175;refine(HO.out _).mono ?_;rintro e w' ⟨rfl,aC⟩);go_ret;have bu:me≠0:=by simpa using ki
    have lF:=HK.out bu;exact⟨aj lF.symm,(aU.alloc bA _).trans (aC.mono (by simp;omega))⟩
   .have ki:(me !=0)=false:=by simpa using he
    clear he;go_wp2_with (go_at_call 175;refine(HO.out _).mono ?_;rintro e w' ⟨rfl,aC⟩);go_roundw
    case rel=>
     have Ws:me=0:=by simpa using ki
     exact⟨k+1,by omega,by go_num,(aU.alloc bA _).trans (aC.mono (by simp;omega)),HZ.out Ws⟩
    case measure=>simp[intOf];omega
  .have iC:Hid (∀j,j<n->(ms.getD j dm).e=0):=λj hj=>hz.out j (by omega)
   have oh:Hid _:=H4.out iC.out;clear hz iC H4 HE HC XI;cases rb
   .go_wp2_with (go_at_call 176;refine(MH.out _ aU).mono ?_;rintro e w' ⟨rfl,aC⟩)
    go_ret;exact⟨aj (by rw[oh.out];rfl),aU.trans (aC.mono bA)⟩
   .go_wp2_with (go_at_call 176;refine(MH.out _ aU).mono ?_;rintro e w' ⟨rfl,aC⟩)
    go_ret;exact⟨aj (by rw[oh.out];rfl),aU.trans (aC.mono bA)⟩
theorem fR(a:Option Addr)(n cap:Nat)(w:World)(hn:20<n) :
 Calls be 127 #[U a n cap] w λe w'=>e=sh (O J 2)/\w'=w:=by
 go_enter Tryz.func127,Tryz.ntmps127;go_wp2_with fail;go_ret;exact⟨rfl,rfl⟩
theorem fS(a:Option Addr)(cap:Nat)(w:World) :
 Calls be 127 #[U a 0 cap] w λe w'=>e=sh (O J 0)/\w'=w:=by
 go_enter Tryz.func127,Tryz.ntmps127;go_wp2_with fail;go_loop [11] (λi=>i=O J 0) (λ_=>0)
 case atStart=>rfl
 case round=>
  subst hrel;go_wp2_with (go_at_call 176;refine(fO _ _ _ _).mono ?_;rintro e w' ⟨rfl,rfl⟩);go_ret;exact⟨rfl,rfl⟩
theorem aW(ms:List Mem)(v:Value)(w:World)(h:Sl w v ms) :
 Calls be 127 #[v] w λe w'=>e=sh (O J (ba ms))/\Below w.heap.size w w':=by
 obtain⟨a,cap,rfl,hs,h⟩:=h;by_cases hn:20<ms.length
 .refine(fR a ms.length cap w hn).mono ?_
  rintro e w' ⟨rfl,rfl⟩;exact⟨aj (by rw[ba,if_pos hn]),Ib _ _⟩
 .rcases h with rfl|⟨b,off,rfl,hb,hr⟩
  .refine(fS a cap w).mono ?_
   rintro e w' ⟨rfl,rfl⟩;exact⟨rfl,Ib _ _⟩
  .exact gR ms b off cap w hr hb (by omega) hs
theorem cQ(a b:List Mem)(va vb:Value)(pb cap:Nat)(w:World)(ha:Sl w va a)(hb:Sl w vb b)(hpb:pb<w.heap.size)(hc0:w.cell? ⟨pb,0,Y⟩=Z va)(hc1:w.cell? ⟨pb,1,Y⟩=Z vb) :
 Calls be 238 #[U (Z ⟨pb,0,Y⟩) 2 cap] w λe w'=>e=sh (O J (aJ a b))/\Below w.heap.size w w':=by
 have HA:Hid (Sl w va a):=ha;have HB:Hid (Sl w vb b):=hb;clear ha hb;go_enter Tryz.func238,Tryz.ntmps238;go_wp2_with fail;go_loopw [8] (λi w'=>∃k:Nat,k<=2/\i=O J k/\Below w.heap.size w w'/\Hid (0<k->ba a=0)/\Hid (1<k->ba b=0)) (λi _=>2-(intOf i).toNat)
 case atStart=>exact⟨0,by omega,rfl,Ib _ _,λh=>by omega,λh=>by omega⟩
 case round=>
  obtain⟨k,hk,rfl,aU,bW,cS⟩:=hrel;obtain⟨eA,nO⟩:=cH aU;have bA:=aU.size;have L7:Hid (Sl wr va a):=HA.out.below aU;have L8:Hid (Sl wr vb b):=HB.out.below aU;have gP:k=0\/k=1\/k=2:=by omega
  rcases gP with rfl|rfl|rfl
  .rcases he:decide (ba a=0) with _|_
   .have ki:(ba a !=0)=true:=by simpa using he
    clear he;go_wp2_with (go_at_call 127;refine(aW a _ _ L7.out).mono ?_;rintro e w' ⟨rfl,aC⟩);go_ret;exact⟨aj (by have h0:ba a≠0:=(by simpa using ki);rw[aJ,if_neg h0]),aU.trans (aC.mono bA)⟩
   .have ki:(ba a !=0)=false:=by simpa using he
    clear he;go_wp2_with (go_at_call 127;refine(aW a _ _ L7.out).mono ?_;rintro e w' ⟨rfl,aC⟩);go_roundw
    case rel=>exact⟨1,by omega,by go_num,aU.trans (aC.mono bA),λ_=>(by simpa using ki),λh=>by omega⟩
    case measure=>simp[intOf]
  .have h0:Hid _:=bW.out (by omega)
   rcases he:decide (ba b=0) with _|_
   .have ki:(ba b !=0)=true:=by simpa using he
    clear he;go_wp2_with (go_at_call 127;refine(aW b _ _ L8.out).mono ?_;rintro e w' ⟨rfl,aC⟩);go_ret;exact⟨aj (by rw[aJ,if_pos h0.out]),aU.trans (aC.mono bA)⟩
   .have ki:(ba b !=0)=false:=by simpa using he
    clear he;go_wp2_with (go_at_call 127;refine(aW b _ _ L8.out).mono ?_;rintro e w' ⟨rfl,aC⟩);go_roundw
    case rel=>exact⟨2,by omega,by go_num,aU.trans (aC.mono bA),λ_=>h0.out,λ_=>(by simpa using ki)⟩
    case measure=>simp[intOf]
  .go_wp2_with fail
   go_ret;exact⟨aj (by rw[aJ,if_pos (bW.out (by omega)),cS.out (by omega)]),aU⟩
theorem mh(a b:List Mem)(va vb:Value)(pb cap:Nat)(w:World)(ha:Sl w va a)(hb:Sl w vb b)(hpb:pb<w.heap.size)(hc0:w.cell? ⟨pb,0,Y⟩=Z va)(hc1:w.cell? ⟨pb,1,Y⟩=Z vb)(bu:aJ a b≠0) :
 Calls be 200 #[U (Z ⟨pb,0,Y⟩) 2 cap] w λe w'=>e=sh (Il #[U Y 0 0,O J (aA a b)])/\Below w.heap.size w w':=by
 have he:(aJ a b !=0)=true:=by simpa using bu
 have HE:Hid (aA a b=aJ a b):=if_neg bu;have jH:=cQ a b va vb pb cap w ha hb hpb hc0 hc1;have HC:Hid (Calls _ _ _ _ _):=jH;clear jH ha hb bu;go_enter Tryz.func200,Tryz.ntmps200;go_wp2_with (go_at_call 238;refine HC.out.mono ?_;rintro e w' ⟨rfl,aC⟩);go_ret2;exact⟨by rw[HE.out];rfl,aC⟩
theorem kj(a b:List Mem)(va vb:Value)(pb cap:Nat)(w:World)(ha:Sl w va a)(hb:Sl w vb b)(hpb:pb<w.heap.size)(hc0:w.cell? ⟨pb,0,Y⟩=Z va)(hc1:w.cell? ⟨pb,1,Y⟩=Z vb)(h0:aJ a b=0) :
 Calls be 200 #[U (Z ⟨pb,0,Y⟩) 2 cap] w λe w'=>∃v',e=sh (Il #[v',O J (aA a b)])/\Below w.heap.size w w' /\
  (20<(ay a b).length->v'=U Y 0 0)/\((ay a b).length<=20->Own w.heap.size w' v' (ay a b)):=by
 have he:(aJ a b !=0)=false:=by simpa using h0
 have MJ:ba a=0:=by unfold aJ at h0;split at h0<;>assumption
 have Wt:ba b=0:=by unfold aJ at h0;rw[if_pos MJ] at h0;exact h0
 have za:=aF MJ;have zb:=aF Wt;have HE:Hid (aA a b=if 20<(ay a b).length then 2 else 0):=if_pos h0;have HC:Hid (Calls _ _ _ _ _):=cQ a b va vb pb cap w ha hb hpb hc0 hc1;have HJ:Hid (∀w1,Below w.heap.size w w1->Calls be 245 #[IZ (.func 177) #[] #[],IZ (.func 239) #[] #[],U (Z ⟨pb,0,Y⟩) 2 cap] w1 λe w'=>∃v',e=sh v'/\Own w1.heap.size w' v' (ay a b)/\Below w1.heap.size w1 w'):=λw1 al=>
  kd a b va vb pb cap w1 (ha.below al) (hb.below al) (Iv hpb al.size) ((cH al).1 pb 0 hpb |>.trans hc0) ((cH al).1 pb 1 hpb |>.trans hc1) za.1 zb.1 za.2.1
 have MF:(ay a b).length<=40:=by have h1:=dY b a;have h2:=za.1;have h3:=zb.1;omega
 clear h0 MJ Wt za zb ha hb hc0 hc1;generalize ay a b=jl at *;generalize Wu:jl.length=n at *;have HGN:Hid _:=Wu;clear Wu;go_enter Tryz.func200,Tryz.ntmps200;go_wp2_with (go_at_call 238;refine HC.out.mono ?_;rintro e w1 ⟨rfl,al⟩);refine(HJ.out w1 al).mono ?_;rintro e w2 ⟨v',rfl,ho,aC⟩;have rF:∃p c,v'=U p n c:=by
  have hn:=HGN.out;rcases ho.2 with⟨h,h0⟩|⟨g,c,cur,h,_⟩
  .exact⟨Y,0,by rw[h];congr 1;omega⟩
  .exact⟨_,c,by rw[h,hn]⟩
 obtain⟨p,c,rfl⟩:=rF;have Wv:Hid _:=al.trans (aC.mono al.size);have eB:Hid (Own _ _ _ _):=ho.mono al.size;clear ho al aC HC HJ;by_cases aL:20<n
 .go_wp2_with fail
  go_ret2;refine⟨_,by rw[HE.out,if_pos aL];rfl,Wv.out,λ_=>rfl,λh=>by omega⟩
 .go_wp2_with fail
  go_ret2;refine⟨U p n c,by rw[HE.out,if_neg aL];rfl,Wv.out,λh=>by omega,λ_=>eB.out⟩
theorem mY(nm:ByteArray)(st lf ad:Int)(sv:Bool)(w:World) :
 aP 201 #[Im #[I nm,O J st,O J lf,O J ad,AI sv]] w λe w'=>e=sh (U (Z ⟨w.heap.size+1,0,Y⟩) 1 1)/\w'=(w.alloc (AT #[I nm,O J st,O J lf,O J ad,AI sv] 70)).alloc (AT #[I nm,O J st,O J lf,O J ad,AI sv] 70):=by
 go_enter Tryz.func201,Tryz.ntmps201;go_wp2;go_ret;exact⟨rfl,rfl⟩
def kk(x y:Mem):Bool:=x.name.toList==y.name.toList&&(x.state==y.state&&(x.aX==y.aX&&(x.addr==y.addr&&x.server==y.server)))
theorem mZ(x y:Mem):kk x y=true↔x=y:=by
 obtain⟨n1,s1,l1,a1,v1⟩:=x;obtain⟨n2,s2,l2,a2,v2⟩:=y;simp only[kk,Bool.and_eq_true,beq_iff_eq,Mem.mk.injEq,Lib.toList_data];constructor
 .rintro⟨h1,h2,h3,h4,h5⟩;exact⟨jX h1,h2,h3,h4,h5⟩
 .rintro⟨rfl,h2,h3,h4,h5⟩;exact⟨rfl,h2,h3,h4,h5⟩
theorem XJ(m1 m2:Mem)(w:World):(Op.equalIn 10000 70 (Im #[I m1.name,O J m1.state,O J m1.aX,O J m1.addr,AI m1.server]) (Im #[I m2.name,O J m2.state,O J m2.aX,O J m2.addr,AI m2.server])).run be w=.ok (kk m1 m2) w:=by
 have u3:=IG;have u4:=Tryz.underlying4;have u9:=IE;have a3:=Tryz.isAgg3;have z3:=Tryz.sizeOf3;have a4:=Tryz.isAgg4;have z4:=Tryz.sizeOf4;have a9:=Tryz.isAgg9;have z9:=Tryz.sizeOf9;have hS:Tryz.prog.underlying 70=Z (.struct (Tryz.prog.fieldsOf 70)):=by kernel_rfl
 have hp:Tryz.prog.stoodInHeld 70=false:=by kernel_rfl
 rw[show(10000:Nat)=9999+1 from rfl,run_equalIn_agg w 9999 70 _ _ hS hp];simp only[Program.fieldsOf,Tryz.underlying70];go_simp;unfold kk;by_cases h1:m1.name.toList=m2.name.toList<;>by_cases h2:m1.state=m2.state<;>by_cases h3:m1.aX=m2.aX<;>by_cases h4:m1.addr=m2.addr<;>by_cases h5:m1.server=m2.server<;>simp[h1,h2,h3,h4,h5]
theorem acu(m1 m2:Mem)(w:World):Sem.run be (binOp .neq 70 (Im #[I m1.name,O J m1.state,O J m1.aX,O J m1.addr,AI m1.server]) (Im #[I m2.name,O J m2.state,O J m2.aX,O J m2.addr,AI m2.server])) w=.ok (AI (!kk m1 m2)) w:=by
 rw[run_neq_struct,XJ];rfl
theorem Gm(a b:List Mem)(va vb:Value)(w:World)(ha:Sl w va a)(hb:Sl w vb b)(CK:a.length<=1000) :
 aP 202 #[va,vb] w λe w'=>∃r:Bool,e=sh (AI r)/\(r=true↔a=b)/\Below w.heap.size w w':=by
 obtain⟨pa,ca,rfl,_,ha⟩:=ha;obtain⟨pv,cb,rfl,_,hb⟩:=hb;by_cases hl:a.length=b.length
 .have HA:Hid _:=ha
  have HB:Hid _:=hb;have HL:Hid _:=hl;clear ha hb;rw[<- hl];clear hl;generalize yo:a.length=n at *;have HN:Hid _:=yo;clear yo;have alY:Tryz.prog.eqGuardType Tryz.prog.depth 70=false:=by kernel_rfl
  go_enter Tryz.func202,Tryz.ntmps202;go_wp2_with fail;go_loopw [13] (λi w'=>∃k:Nat,k<=n/\i=O J k/\Below w.heap.size w w'/\Hid (∀j,j<k->a.getD j dm=b.getD j dm)) (λi _=>n-(intOf i).toNat)
  case atStart=>exact⟨0,II _,rfl,Ib _ _,λj h=>absurd h (Ji _)⟩
  case round=>
   obtain⟨k,hk,rfl,aU,hz⟩:=hrel;obtain⟨eA,nO⟩:=cH aU;have bA:=aU.size;by_cases aL:k<n
   .obtain⟨b1,o1,lP,eY,yp⟩:∃b off,pa=Z ⟨b,off,Y⟩/\b<w.heap.size/\Row w b off a:=by
     rcases HA.out with h|h
     .have:=HN.out;rw[h] at this;simp at this;omega
     .exact h
    obtain⟨b2,o2,Sk,fG,EV⟩:∃CI off,pv=Z ⟨CI,off,Y⟩/\CI<w.heap.size/\Row w CI off b:=by
     rcases HB.out with h|h
     .have h2:=HN.out;have h3:=HL.out;rw[h] at h3;simp at h3;omega
     .exact h
    subst lP;subst Sk;obtain⟨c0,c1,c2,c3,c4⟩:=yp k (by rw[HN.out];exact aL);obtain⟨d0,d1,d2,d3,d4⟩:=EV k (by have h2:=HN.out;have h3:=HL.out;omega);clear yp EV;have HF:Hid (a.getD k dm≠b.getD k dm->a≠b):=λh e=>h (by rw[e]);have HZ:Hid (a.getD k dm=b.getD k dm->∀j,j<k+1->a.getD j dm=b.getD j dm):=λh j hj=>by
     rcases Jj.1 hj with h2|rfl
     .exact hz.out j h2
     .exact h
    have Gn:=acu (a.getD k dm) (b.getD k dm);generalize a.getD k dm=m1 at *;generalize b.getD k dm=m2 at *;rcases hs:kk m1 m2 with _|_
    .rw[hs] at Gn
     have bu:Hid _:=HF.out (λe=>by rw[<- mZ,hs] at e;cases e);go_wp2_with fail;go_quiet (fail)
     go_wp2_with fail;go_ret;exact⟨false,rfl,⟨λh=>(by cases h),λh=>absurd h bu.out⟩,below_drewN aU _⟩
    .rw[hs] at Gn
     have heq:Hid _:=(mZ m1 m2).1 hs;go_wp2_with fail;go_quiet (fail)
     go_wp2_with fail;go_roundw
     case rel=>exact⟨k+1,by omega,by go_num,below_drewN aU _,HZ.out heq.out⟩
     case measure=>simp[intOf];omega
   .have kW:Hid (a=b):=by
     apply List.ext_getElem (HN.out.trans HL.out);intro j h1 h2;have:=hz.out j (by have:=HN.out;omega);simpa[Io,Ic h1,Ic h2] using this
    go_wp2_with fail;go_ret;exact⟨true,rfl,⟨λ_=>kW.out,λ_=>rfl⟩,aU⟩
 .have bu:((a.length:Int)!=(b.length:Int))=true:=by rw[bne_iff_ne];omega
  have HF:Hid (a≠b):=λe=>hl (by rw[e]);clear ha hb;go_enter Tryz.func202,Tryz.ntmps202;go_wp2_with fail;go_ret;exact⟨false,rfl,⟨λh=>(by cases h),λh=>absurd h HF.out⟩,Ib _ _⟩
theorem fZ(ms:List Mem)(v:Value)(w:World)(h:Sl w v ms)(hn:ms.length<=1000) :
 aP 89 #[v] w λe w'=>∃v',e=sh v'/\Own w.heap.size w' v' ms/\Below w.heap.size w w':=by
 obtain⟨a,cap,rfl,hs,h⟩:=h;obtain⟨i0,ei,bW,fs,eU⟩:=info_parts Tryz.qd;cases a with
 |none=>
  have he:ms=[]:=by
   rcases h with h|⟨b,off,h,_⟩
   .exact h
   .cases h
  subst he;clear h hs;have iD:=λ(w:World)=>Lib.run_eql_slice_nil (P:=be) w 22 70 Y 0 cap 0 0 Od;simp only[List.length_nil,Option.isNone_none] at iD ⊢;go_enter Tryz.func89,Tryz.ntmps89;go_wp2_with fail;go_ret;exact⟨_,rfl,bj _ _,Ib _ _⟩
 |some a=>
  have iD:=λ(w:World)=>Lib.run_eql_slice_nil (P:=be) w 22 70 (Z a) ms.length cap 0 0 Od;simp only[Option.isNone_some] at iD;have hnews:Hid (∀j u,(fl ms)[j]?=Z u->(w.alloc (AT #[] 70)).cell? (a.add j)=Z u):=by
   intro j u hj;rcases h with h|⟨b,off,h,hb,hr⟩
   .subst h;simp[fl] at hj
   .cases h
    have Sm:j<ms.length*5:=by rw[<- cT];exact(List.getElem?_eq_some_iff.1 hj).1
    have h1:=ed ms (j/5) (by omega) (j%5) (by omega);rw[show j/5*5+j%5=j by omega,hj] at h1;rw[Addr.add_lit,World.cell?_alloc_past (w:=w) _ b _ hb];obtain⟨c0,c1,c2,c3,c4⟩:=hr (j/5) (by omega);have cM:j%5=0\/j%5=1\/j%5=2\/j%5=3\/j%5=4:=by omega
    rcases cM with e|e|e|e|e
    .rw[show off+j=off+j/5*5 by omega,c0];rw[e] at h1;simpa[Mem.cs] using h1.symm
    .rw[show off+j=off+j/5*5+1 by omega,c1];rw[e] at h1;simpa[Mem.cs] using h1.symm
    .rw[show off+j=off+j/5*5+2 by omega,c2];rw[e] at h1;simpa[Mem.cs] using h1.symm
    .rw[show off+j=off+j/5*5+3 by omega,c3];rw[e] at h1;simpa[Mem.cs] using h1.symm
    .rw[show off+j=off+j/5*5+4 by omega,c4];rw[e] at h1;simpa[Mem.cs] using h1.symm
  have HO:Hid ((w.alloc (AT #[] 70)).ownsRow w.heap.size 70 5 (U (Z ⟨w.heap.size,0,Y⟩) 0 0) 0 []):=World.ownsRow_made w #[] 0 (By _) (by unfold Ij;omega) rfl;clear h hs;go_enter Tryz.func89,Tryz.ntmps89;go_wp2_with (at_builtin;refine wpList_append_own _ rfl _ _ 22 rfl w.heap.size 70 i0 _ 5 48 Od ei bW fs eU rfl (by omega) _ 0 [] rfl HO.out a ms.length cap (fl ms) rfl (cT ms) hnews.out (fi ms) (by unfold Ij;omega) (by omega) (by simp) ?_);intro v' w' r1 r2 r3;go_wp2_with fail;go_ret;refine⟨v',rfl,?_,?_⟩
  .simpa using r1
  .exact((Ib _ _).alloc (By _) _).grown r2 (by simp) (λk hk=>by simp[Value.ownBlock] at hk;omega)
theorem ko(a b:List Mem)(va vb:Value)(pb cap:Nat)(w:World)(ha:Sl w va a)(hb:Sl w vb b)(hpb:pb<w.heap.size)(hc0:w.cell? ⟨pb,0,Y⟩=Z va)(hc1:w.cell? ⟨pb,1,Y⟩=Z vb) :
 Calls be 200 #[U (Z ⟨pb,0,Y⟩) 2 cap] w λe w'=>∃v',e=sh (Il #[v',O J (aA a b)])/\Below w.heap.size w w' /\
  (aA a b≠0->v'=U Y 0 0)/\(aA a b=0->Own w.heap.size w' v' (ay a b)):=by
 by_cases h0:aJ a b=0
 .refine(kj a b va vb pb cap w ha hb hpb hc0 hc1 h0).mono ?_
  rintro e w' ⟨v',rfl,h1,h2,h3⟩;have hE:aA a b=if 20<(ay a b).length then 2 else 0:=if_pos h0;refine⟨v',rfl,h1,λbu=>h2 ?_,λhz=>h3 ?_⟩
  .rw[hE] at bu;split at bu
   .assumption
   .exact absurd rfl bu
  .rw[hE] at hz;split at hz
   .cases hz
   .omega
 .refine(mh a b va vb pb cap w ha hb hpb hc0 hc1 h0).mono ?_
  rintro e w' ⟨rfl,h1⟩;have hE:aA a b=aJ a b:=if_neg h0;exact⟨_,rfl,h1,λ_=>rfl,λhz=>absurd (hE▸hz) h0⟩
theorem MK(ms:List Mem)(m:Mem)(v:Value)(w:World)(hv:Sl w v ms)(hm:m.name.size<=Ij) :
 Calls be 144 #[v,Im #[I m.name,O J m.state,O J m.aX,O J m.addr,AI m.server]] w λe w'=>∃(v':Value) (r:Bool),e=sh (Il #[v',AI r,O J (aA ms [m])])/\Below w.heap.size w w' /\
  (aA ms [m]≠0->v'=U Y 0 0/\r=false)/\(aA ms [m]=0->Own w.heap.size w' v' (aZ ms m)/\(r=true↔aZ ms m≠ms)):=by
 have HV:=hv;obtain⟨pa,ca,rfl,ns,_⟩:=hv;obtain⟨W,hW⟩:∃W,W=(((w.alloc (AT #[I m.name,O J m.state,O J m.aX,O J m.addr,AI m.server] 70)).alloc (AT #[I m.name,O J m.state,O J m.aX,O J m.addr,AI m.server] 70)).alloc (AT #[I m.name,O J m.state,O J m.aX,O J m.addr,AI m.server] 70)).alloc (AT #[U pa ms.length ca,U (Z ⟨w.heap.size+1+1,0,Y⟩) 1 1] 22):=⟨_,rfl⟩;go_enter Tryz.func144,Tryz.ntmps144;go_wp2_with (go_at_call 201;refine(mY _ _ _ _ _ _).mono ?_;rintro e w' ⟨rfl,rfl⟩);obtain⟨M,hM⟩:∃M:Obj,M=AT #[I m.name,O J m.state,O J m.aX,O J m.addr,AI m.server] 70:=⟨_,rfl⟩;have df:Below w.heap.size w W:=by rw[hW];exact((((Ib _ _).alloc (By _) _).alloc (by simp) _).alloc (by simp;omega) _).alloc (by simp;omega) _
 have oX:W.heap.size=w.heap.size+1+1+1+1:=by rw[hW];simp
 have vt:W.heap[w.heap.size+1+1+1]?=Z (AT #[U pa ms.length ca,U (Z ⟨w.heap.size+1+1,0,Y⟩) 1 1] 22 (0,0)):=by rw[hW];have:=Ie (((w.alloc M).alloc M).alloc M) (AT #[U pa ms.length ca,U (Z ⟨w.heap.size+1+1,0,Y⟩) 1 1] 22);rw[hM] at this;simpa using this
 have iL:W.heap[w.heap.size+1+1]?=Z (AT #[I m.name,O J m.state,O J m.aX,O J m.addr,AI m.server] 70 (0,0)):=by
  rw[hW,Below.heap_alloc _ _ _ (by simp)];have:=Ie ((w.alloc M).alloc M) M;rw[hM] at this;simpa using this
 rw[<- hW];refine(ko ms [m] (U pa ms.length ca) (U (Z ⟨w.heap.size+1+1,0,Y⟩) 1 1) (w.heap.size+1+1+1) 2 W (HV.below df) (qe W _ 1 m hm iL) (by omega) (af vt 0) (af vt 1)).mono ?_;rintro e w2 ⟨v',rfl,h1,h2,h3⟩;have HB:Hid _:=df.trans (h1.mono (by omega));have HV2:Hid (Sl _ _ _):=HV.below HB.out;have H2:Hid _:=h2;have H3:Hid (aA ms [m]=0->Own w.heap.size w2 v' (aZ ms m)):=λh=>(h3 h).mono (by omega);clear h2 h3 h1 iL vt oX df hW hM HV;rcases he:decide (aA ms [m]=0) with _|_
 .have ki:(aA ms [m]!=0)=true:=by simpa using he
  have bu:Hid (aA ms [m]≠0):=(show aA ms [m]≠0 by simpa using he);clear he;go_wp2_with fail;go_ret3
  exact⟨_,false,rfl,HB.out,λ_=>⟨rfl,rfl⟩,λh=>absurd h bu.out⟩
 .have ki:(aA ms [m]!=0)=false:=by simpa using he
  have hz:Hid (aA ms [m]=0):=(show aA ms [m]=0 by simpa using he);clear he;have HO:Hid (Own _ _ _ _):=H3.out hz.out;have Sn:ba ms=0:=by
   have h:=hz.out;unfold Hid aA aJ at h;by_cases h1:ba ms=0
   .exact h1
   .rw[if_neg h1,if_neg h1] at h;exact absurd h h1
  have HC:Hid _:=Sn;clear Sn;have NS:Hid _:=sP (cZ ns) hm;have hlen:Hid ((aZ ms m).length<=1000):=by have h1:=kt ms m;have h2:=aF HC.out;show(aZ ms m).length<=1000;omega
  go_wp2_with (go_at_call 202;refine(Gm (aZ ms m) ms _ _ _ (gd HO.out NS.out) HV2.out hlen.out).mono ?_;rintro e w3 ⟨r,rfl,h5,h6⟩);go_ret3
  refine⟨v',!r,by rw[show aA ms [m]=0 from hz.out];rfl,HB.out.trans (h6.mono HB.out.size),λh=>absurd hz.out h,λ_=>⟨HO.out.below h6,?_⟩⟩;cases r
  .simp at h5;simpa using h5
  .simp at h5;simpa using h5
theorem j1(nm:ByteArray)(st lf ad:Int)(sv:Bool)(w:World) :
 Calls be 248 #[Im #[I nm,O J st,O J lf,O J ad,AI sv]] w λe w'=>e=sh (AI (decide (st=2)||decide (st=3)))/\w'=w.alloc (AT #[I nm,O J st,O J lf,O J ad,AI sv] 70):=by
 by_cases h:st=2
 .subst h
  go_enter Tryz.func248,Tryz.ntmps248;go_wp2;go_ret;exact⟨aD (by simp),rfl⟩
 .have h':(st==2)=false:=by simpa using h
  go_enter Tryz.func248,Tryz.ntmps248;go_wp2;go_ret;exact⟨aD (by rw[Bool.eq_iff_iff];simp[h]),rfl⟩
def eo(m:Mem):Mem:=⟨m.name,1,m.aX+1,m.addr,m.server⟩
theorem Te(ms:List Mem)(p:Nat)(hp:p<ms.length):((fl ms).set (p*5+1) (O J 1)).set (p*5+2) (O J ((ms.getD p dm).aX+1))=fl (ms.set p (eo (ms.getD p dm))):=by
 induction ms generalizing p with
 |nil=>simp at hp
 |cons x r ih=>
  cases p with
  |zero=>simp[fl,Mem.cs,eo]
  |succ p=>
   have XK:=ih p (by simpa using hp);rw[List.set_cons_succ,aT,aT,List.getD_cons_succ,<- XK];simp only[Nat.add_mul,Nat.one_mul];have e:∀(l:List Value) (k:Nat) (v:Value),(x.cs++l).set (k+5) v=x.cs++l.set k v:=λl k v=>by
    rw[List.set_append,if_neg (by rw[bl];omega),bl,Nat.add_sub_cancel]
   rw[show p*5+5+1=(p*5+1)+5 by omega,show p*5+5+2=(p*5+2)+5 by omega];rw[e,e]
theorem MM{base g c p:Nat}{W:World}{ms:List Mem}(h:Own base W (U (Z ⟨g,0,Y⟩) ms.length c) ms)(hp:p<ms.length) :
 Own base ((W.setCell ⟨g,p*5+1,Y⟩ (O J 1)).setCell ⟨g,p*5+2,Y⟩ (O J ((ms.getD p dm).aX+1))) (U (Z ⟨g,0,Y⟩) ms.length c) (ms.set p (eo (ms.getD p dm))):=by
 have h1:=IW h (p*5+1) (O J 1);have h2:=IW h1.1 (p*5+2) (O J ((ms.getD p dm).aX+1));have e:=h2.1;rw[Te ms p hp] at e;show World.ownsRow _ _ _ _ _ (ms.set p (eo (ms.getD p dm))).length _;rw[List.length_set];exact e
theorem Gp{nm:ByteArray}{st lf ad:Int}(h:wk nm st lf ad=0):aN nm=true/\(1<=st/\st<=4)/\(1<=lf/\lf<=1000000)/\(0<=ad/\ad<=4294967295):=by
 have hw:∀n a b:Int,within n a b=true->a<=n/\n<=b:=λn a b h=>by simpa[within] using h
 unfold wk at h;split at h
 .rename_i h1
  split at h
  .rename_i h2
   split at h
   .rename_i h3
    split at h
    .rename_i h4
     exact⟨h1,hw _ _ _ h2,hw _ _ _ h3,hw _ _ _ h4⟩
    .omega
   .omega
  .omega
 .omega
theorem dh:∀(ms:List Mem),aV ms=0->∀m∈ms,m.e=0
 |[],_,m,h=>by simp at h
 |x::r,h,m,hm=>by
  rw[aV] at h;split at h
  .rename_i h1
   rcases List.mem_cons.1 hm with rfl|hm
   .exact h1
   .exact dh r h m hm
  .rename_i h1;exact absurd h h1
theorem tD{ms:List Mem}(h:aV ms=0)(p:Nat)(hp:p<ms.length):(ms.getD p dm).e=0:=by
 have:=dh ms h ms[p] (List.getElem_mem hp);simpa[Io,Ic hp] using this
def jI(ms:List Mem)(p:Nat)(f:Bool):Bool:=f&&(decide ((ms.getD p dm).state=2)||decide ((ms.getD p dm).state=3))&&!((ms.getD p dm).aX==1000000)
def jJ(ms:List Mem)(p:Nat)(f:Bool):Int:=if f&&(decide ((ms.getD p dm).state=2)||decide ((ms.getD p dm).state=3))&&((ms.getD p dm).aX==1000000) then 3 else 0
def Ab(ms:List Mem)(p:Nat)(f:Bool):List Mem:=if jI ms p f=true then ms.set p (eo (ms.getD p dm)) else ms
def Tf(ms:List Mem)(p:Nat)(f:Bool)(w:World)(e:Ending)(w':World):Prop:=
 ∃v':Value,e=sh (Il #[v',AI (jI ms p f),O J (jJ ms p f)])/\Below w.heap.size w w'/\(jJ ms p f≠0->v'=U Y 0 0)/\(jJ ms p f=0->Own w.heap.size w' v' (Ab ms p f))
theorem Ac(ms:List Mem)(v:Value)(me:ByteArray)(w:World)(hv:Sl w v ms)(h0:ba ms=0)(hs:me.size<=Ij)(hl:aN me=true)(p:Nat)(f:Bool)(cA:At ms me p f) :
 Calls be 204 #[v,I me] w λe w'=>Tf ms p f w e w':=by
 have he:(ba ms !=0)=false:=by simpa using h0
 have hz:=aF h0;have HN:Hid (∀x∈ms,x.name.size<=Ij):=by obtain⟨a,c,_,hn,_⟩:=hv;exact cZ hn
 have HV:Hid (Sl w v ms):=hv;have HM:Hid (bO ms):=hz.2.1;have hlen:=hz.1;have zH:Hid _:=hz.2.2;have fw:Hid _:=cA;clear hv h0 hz cA;go_enter Tryz.func204,Tryz.ntmps204;go_wp2_with (first|(go_at_call 127;refine(aW ms _ _ HV.out).mono ?_;rintro e w1 ⟨rfl,al⟩)|(go_at_call 65;refine(bc _ _ hs).mono ?_;rintro e w' ⟨rfl,rfl⟩;rw[hl]));refine(fZ ms _ _ (HV.out.below al) (by omega)).mono ?_;rintro e w2 ⟨kv,rfl,ly,aC⟩;have gv:Hid (Own _ _ _ _):=ly.mono al.size;have bw:Hid _:=al.trans (aC.mono al.size);clear ly aC al;go_wp2_with fail;refine(fH ms _ ⟨me,0,0,0,false⟩ _ (gd gv.out HN.out) (by omega) HM.out).mono ?_;rintro e w3 ⟨p',f',rfl,bf,yq⟩;obtain⟨rfl,rfl⟩:=eV fw.out yq;have eB:Hid (Own _ _ _ _):=gv.out.below bf;have da:Hid _:=bw.out.trans (bf.mono bw.out.size);clear yq bf gv bw;cases f with
 |false=>
  go_wp2_with fail;go_ret3
  exact⟨kv,rfl,da.out,λh=>absurd rfl h,λ_=>eB.out⟩
 |true=>
  have hp:=(fw.out.is.1 rfl).1;have hlf:=(Gp (tD zH.out p hp)).2.2.1;obtain⟨g,c,hkv⟩:∃g c,kv=U (Z ⟨g,0,Y⟩) ms.length c:=by
   rcases eB.out.2 with⟨_,h0⟩|⟨g,c,cur,h,_⟩
   .omega
   .exact⟨g,c,h⟩
  subst hkv;have jZ:=eB.out.lt g rfl;have gF:∀o,w3.frozen? ⟨g,o,Y⟩=false:=λo=>Ja eB.out o;have XH:=jZ.2;obtain⟨b',al0,Ww,zI,dL⟩:∃b off,(Z ⟨g,0,Y⟩:Option Addr)=Z ⟨b,off,Y⟩/\b<w3.heap.size/\Row w3 b off ms:=by
   obtain⟨a,cap,h1,_,h2⟩:=gd eB.out HN.out;simp only[Value.slice.injEq] at h1;obtain⟨rfl,_⟩:=h1;rcases h2 with h2|h2
   .rw[h2] at hp;simp at hp
   .exact h2
  simp only[Option.some.injEq,Addr.mk.injEq,and_true] at Ww;obtain⟨rfl,rfl⟩:=Ww;obtain⟨c0,c1,c2,c3,c4⟩:=dL p hp;clear dL zI;simp only[IM] at c0 c1 c2 c3 c4;generalize hm:ms.getD p dm=m2 at *;have Hm:Hid _:=hm;clear hm;obtain⟨n2,s2,l2,a2,v2⟩:=m2;simp only at c0 c1 c2 c3 c4 hlf;obtain⟨al1,al2⟩:=hlf;rcases hd:(decide (s2=2)||decide (s2=3)) with _|_
  .go_wp2_with (go_at_call 248;refine(j1 _ _ _ _ _ _).mono ?_;rintro e w' ⟨rfl,rfl⟩;rw[hd])
   go_ret3
   have e1:jI ms p true=false:=by unfold jI;rw[Hm.out];simp only[hd];rfl
   have e2:jJ ms p true=0:=by unfold jJ;rw[Hm.out];simp only[hd];rfl
   refine⟨U (Z ⟨g,0,Y⟩) ms.length c,by rw[e1,e2];rfl,da.out.alloc da.out.size _,λh=>absurd e2 h,λ_=>?_⟩;rw[Ab,e1,if_neg (by simp)];exact eB.out.below ((Ib _ _).alloc (By _) _)
  .rcases fG:((l2:Int)==1000000) with _|_
   .have e1:jI ms p true=true:=by unfold jI;rw[Hm.out];simp only[hd,fG];rfl
    have e2:jJ ms p true=0:=by unfold jJ;rw[Hm.out];simp only[hd,fG];rfl
    have E1:Hid _:=e1;have E2:Hid _:=e2;clear e1 e2;have HS:=MM eB.out hp;rw[Hm.out] at HS;have Ad:Hid (Own _ _ _ _):=HS;clear HS;go_wp2_with (go_at_call 248;refine(j1 _ _ _ _ _ _).mono ?_;rintro e w' ⟨rfl,rfl⟩;rw[hd]);go_ret3
    refine⟨U (Z ⟨g,0,Y⟩) ms.length c,by rw[E1.out,E2.out];rfl,?_,λh=>absurd E2.out h,λ_=>?_⟩
    .have hB2:=(da.out.setCell (p:=⟨g,p*5+1,Y⟩) jZ.1 (O J 1)).setCell (p:=⟨g,p*5+2,Y⟩) jZ.1 (O J (l2+1))
     exact hB2.alloc (by have:=da.out.size;simpa using this) _
    .rw[Ab,if_pos E1.out,Hm.out]
     exact Ad.out.below ((Ib _ _).alloc (By _) _)
   .have E1:Hid (jI ms p true=false):=(show jI ms p true=false by unfold jI;rw[Hm.out];simp only[hd,fG];rfl)
    have E2:Hid (jJ ms p true=3):=(show jJ ms p true=3 by unfold jJ;rw[Hm.out];simp only[hd,fG];rfl);go_wp2_with (go_at_call 248;refine(j1 _ _ _ _ _ _).mono ?_;rintro e w' ⟨rfl,rfl⟩;rw[hd]);go_ret3
    exact⟨U Y 0 0,by rw[E1.out,E2.out];rfl,da.out.alloc da.out.size _,λ_=>rfl,λh=>by rw[E2.out] at h;cases h⟩
end Go.Proofs.YtfidjlcdlakceaaGreatDoor
namespace Go.Proofs.YtfidjlcdlakceaaGreatDoor
open Go.RowKit Go.WideMaps Go.Maps
structure bE where
 m:Mem
 told:Int
def dr:bE:=⟨dm,0⟩
def mi(w:World)(b off:Nat)(rs:List bE):Prop:=∀j,j<rs.length ->
 w.cell? ⟨b,off+j*6,Y⟩=Z (I (rs.getD j dr).m.name)/\w.cell? ⟨b,off+j*6+1,Y⟩=Z (O J (rs.getD j dr).m.state) /\
 w.cell? ⟨b,off+j*6+2,Y⟩=Z (O J (rs.getD j dr).m.aX)/\w.cell? ⟨b,off+j*6+3,Y⟩=Z (O J (rs.getD j dr).m.addr) /\
 w.cell? ⟨b,off+j*6+4,Y⟩=Z (AI (rs.getD j dr).m.server)/\w.cell? ⟨b,off+j*6+5,Y⟩=Z (O J (rs.getD j dr).told)
theorem mi.below{w w':World}{b off B:Nat}{rs:List bE}(h:mi w b off rs)(hb:Below B w w')(hB:b<B):mi w' b off rs:=λk hk=>by
 obtain⟨h0,h1,h2,h3,h4,h5⟩:=h k hk;exact⟨by rw[hb.cell hB];exact h0,by rw[hb.cell hB];exact h1,by rw[hb.cell hB];exact h2,by rw[hb.cell hB];exact h3,by rw[hb.cell hB];exact h4,by rw[hb.cell hB];exact h5⟩
def mj(w:World)(v:Value)(rs:List bE):Prop:=
 ∃(a:Option Addr) (cap:Nat),v=U a rs.length cap/\(∀j,(rs.getD j dr).m.name.size<=Ij) /\
  (rs=[]\/∃b off,a=Z ⟨b,off,Y⟩/\b<w.heap.size/\mi w b off rs)
theorem mj.below{w w':World}{v:Value}{rs:List bE}(h:mj w v rs)(hb:Below w.heap.size w w'):mj w' v rs:=by
 obtain⟨a,c,hv,hn,h⟩:=h;refine⟨a,c,hv,hn,?_⟩;rcases h with h|⟨b,off,ha,aL,hr⟩
 .exact .inl h
 .exact .inr ⟨b,off,ha,Iv aL hb.size,hr.below hb aL⟩
def eS(rs:List bE):List ByteArray:=rs.map (·.m.name)
theorem di(rs:List bE)(k:Nat):(eS rs).getD k Ih=(rs.getD k dr).m.name:=by
 by_cases h:k<rs.length
 .simp[eS,Io,Ic h]
 .simp[eS,Io,List.getElem?_eq_none (by omega:rs.length<=k),dr,dm]
theorem Tg:Keyed be 9:=string_keyed IE
theorem MN(w:World):(zeroValue 3).run be w=.ok (O J 0) w:=by kernel_rfl
theorem lz(n:Int)(w:World):(Instr.makeMap 223 (Z (O J n))).run be w=.ok (.map (Z w.heap.size)) (w.alloc (.map #[] 0)):=by
 have h:=run_underlying JH;simp[Instr.makeMap,h,asInt,newObj];rfl
theorem oY(rs:List bE)(v:Value)(w:World)(hv:mj w v rs)(hn:rs.length<=1000) :
 Calls be 179 #[v] w λe w'=>e=sh (.map (Z w.heap.size))/\w'.ownsMap be 9 (Jo (H:=Unit) be 3) w.heap.size rs.length (Dm (eS rs) rs.length)/\Below w.heap.size w w':=by
 obtain⟨pa,ca,rfl,bA,ha⟩:=hv;have HA:Hid _:=ha;have HS:Hid _:=bA;clear ha bA;generalize hN:rs.length=n at *;have HN:Hid _:=hN;clear hN;have zJ:=lz;go_enter Tryz.func179,Tryz.ntmps179;go_wp2;go_loopw [11] (λi wr=>∃k:Nat,k<=n/\i=O J k/\Hid (wr.ownsMap be 9 (Jo (H:=Unit) be 3) w.heap.size k (Dm (eS rs) k))/\Hid (Below w.heap.size w wr))
  (λi _=>n-(intOf i).toNat)
 case atStart=>exact⟨0,II _,rfl,World.ownsMap_made _ _ _ _,(Ib _ _).alloc (By _) _⟩
 case round=>
  obtain⟨k,hk,rfl,HO,HB⟩:=hrel;by_cases aL:k<n
  .obtain⟨b,off,hp,hl,hr⟩:∃b off,pa=Z ⟨b,off,Y⟩/\b<w.heap.size/\mi w b off rs:=by
    rcases HA.out with h|h
    .have:=HN.out;rw[h] at this;simp at this;omega
    .exact h
   subst hp;obtain⟨c0,c1,c2,c3,c4,c5⟩:=hr.below HB.out hl k (by rw[HN.out];exact aL);have CL:=keyOf_string_mk IE (HS.out k);have lG:Hid (∀w1:World,w1.ownsMap be 9 (Jo (H:=Unit) be 3) w.heap.size (k+1) ((Dm (eS rs) k).put (kS (rs.getD k dr).m.name) (.lit (.int J k)))->w1.ownsMap be 9 (Jo (H:=Unit) be 3) w.heap.size (k+1) (Dm (eS rs) (k+1))):=λw1 h=>by
    rw[Dm,di];exact h
   generalize(rs.getD k dr)=rk at *;obtain⟨⟨nm,st,lf,ad,sv⟩,td⟩:=rk;simp only at c0 c1 c2 c3 c4 c5 CL lG;clear hr;go_wp2_with (first
    |(at_mapUpdate;refine wpList_mapUpdate_own _ rfl _ _ _ 223 rfl 9 3 Tg JH _ w.heap.size k _ rfl (HO.out.alloc _) (by unfold Ij;omega) _ _ _ rfl rfl CL _ [] (plainElem_int IG (WalkArith.wf_i64 (by omega))) ?_)
    |fail)
   intro w1 iI MO;have R1:Hid (w1.ownsMap _ _ _ _ _ _):=lG.out w1 iI;have R2:Hid _:=(HB.out.alloc HB.out.size _).grown MO (by have:=HB.out.size;simp;omega) (λj hj=>by cases hj;exact By _);clear iI MO HO HB c0 c1 c2 c3 c4 c5 lG;go_wp2_with fail;go_roundw
   case rel=>exact⟨k+1,by omega,by go_num,R1,R2⟩
   case measure=>simp[intOf];omega
  .have fM:k=n:=by omega
   subst fM;go_wp2_with fail;go_ret;exact⟨rfl,HO.out,HB.out⟩
end Go.Proofs.YtfidjlcdlakceaaGreatDoor
