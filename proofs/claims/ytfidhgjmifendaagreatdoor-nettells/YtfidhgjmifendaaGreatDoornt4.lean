import Derived.Test.YtfidhgjmifendaaGreatDoornt3
set_option maxHeartbeats 4000000
set_option maxRecDepth 100000
open Go.IntKind renaming i64→O
open ByteArray renaming empty→Iv
open Go.Maps renaming has→QJ,size→JB
open Go.Value renaming slice→J,func→IQ,bool→Ia,int→U,agg→Ij,string→Y,tuple→Ik
open Go.Ending renaming returned→By
open Option renaming some→AI,none→be
open Go.Proofs.Tryz renaming prog→AS,underlying3→ID,underlying9→Ja,underlying34→JP,underlying125→Jz
open Go.RowKit.Below renaming refl→Ib
open Nat renaming not_lt_zero→Jq,lt_succ_iff_lt_or_eq→Jc,zero_le→II,le_refl→Ic,zero_add→IC,lt_of_lt_of_le→IN
open Go.Sort renaming grow→Io
open Go renaming redrawn→Iz,Regrown→JW,wp_region_quiet_below→IJ,below_drewN→I8,maxLen→Il,heap_alloc_new→Ih,plainElem→O7
open Go.Calls renaming regrown_of→I3
open Go.Obj renaming cells→AT
open Go.World.ownsRow renaming frozenAt→I7,stored→IG
open List renaming getD→Ip,getElem?_eq_getElem→If,getElem?_eq_none→IZ,range→JD,all_eq_true→OK
namespace Go.Proofs.YtfidhgjmifendaaGreatDoor
open Go.RowKit Go.WideMaps Go.Maps
abbrev kS(s:ByteArray):Lit:=.string s.data.toList
theorem nY(s:ByteArray):WideAt.IsKeyLit (kS s):=by simp[WideAt.IsKeyLit]
theorem yJ{a b:ByteArray}(h:a≠b):kS a≠kS b:=λe=>h (by
 have h2:a.data.toList=b.data.toList:=by injection e
 obtain⟨⟨a⟩⟩:=a;obtain⟨⟨b⟩⟩:=b;simp at h2;rw[h2])
def Dm(ns:List ByteArray):Nat->DataW Unit
 |0=>.map []
 |k+1=>(Dm ns k).put (kS (ns.getD k Iv)) (.lit (.int O k))
theorem oW(ns:List ByteArray):∀k,Tidy (Dm ns k)
 |0=>tidy_empty
 |k+1=>(oW ns k).put (nY _) _
theorem qA(ns:List ByteArray)(s:ByteArray):∀k,QJ (Dm ns k) (kS s)=true↔∃j,j<k/\ns.getD j Iv=s
 |0=>by simp[Dm,QJ]
 |k+1=>by
  by_cases h:ns.getD k Iv=s
  .subst h
   rw[Dm,has_put_same (oW ns k).isMap (nY _)];exact⟨λ_=>⟨k,by omega,rfl⟩,λ_=>rfl⟩
  .rw[Dm,has_put_other (yJ (Ne.symm h)),qA ns s k]
   constructor
   .rintro⟨j,hj,e⟩;exact⟨j,by omega,e⟩
   .rintro⟨j,hj,e⟩
    by_cases LP:j=k
    .subst LP;exact absurd e h
    .exact⟨j,by omega,e⟩
theorem sd(ns:List ByteArray)(k:Nat):JB (Dm ns (k+1))=if QJ (Dm ns k) (kS (ns.getD k Iv))=true then JB (Dm ns k) else JB (Dm ns k)+1:=by
 rw[Dm,size_put (oW ns k)]
theorem oH(ns:List ByteArray):∀k,JB (Dm ns k)<=k
 |0=>by simp[Dm,JB]
 |k+1=>by
  have:=oH ns k;rw[sd];split<;>omega
theorem lz(ns:List ByteArray):∀k,(∀i j,i<j->j<k->ns.getD i Iv≠ns.getD j Iv)->JB (Dm ns k)=k
 |0,_=>by simp[Dm,JB]
 |k+1,h=>by
  have h1:=lz ns k (λi j hi hj=>h i j hi (by omega));have h2:¬ QJ (Dm ns k) (kS (ns.getD k Iv))=true:=by
   rw[qA];rintro⟨j,hj,e⟩;exact h j k hj (by omega) e
  rw[sd,if_neg h2,h1]
theorem lv(ns:List ByteArray):∀k,(∃i j,i<j/\j<k/\ns.getD i Iv=ns.getD j Iv)->JB (Dm ns k)<k
 |0,⟨i,j,_,hj,_⟩=>by omega
 |k+1,⟨i,j,iY,hj,e⟩=>by
  rw[sd];by_cases LP:j=k
  .subst LP
   rw[if_pos ((qA ns _ j).2 ⟨i,iY,e⟩)];have:=oH ns j;omega
  .have:=lv ns k ⟨i,j,iY,by omega,e⟩
   split<;>omega
theorem GY(ns:List ByteArray)(s:ByteArray)(z:DataW Unit):∀k j,j<k->ns.getD j Iv=s->(∀i,j<i->i<k->ns.getD i Iv≠s)->(Dm ns k).atKey (kS s) z=.lit (.int O j)
 |0,j,hj,_,_=>by omega
 |k+1,j,hj,e,h=>by
  by_cases LP:j=k
  .subst LP
   subst e;rw[Dm,atKey_put_same (oW ns j).isMap (nY _)]
  .rw[Dm,atKey_put_other (yJ (λx=>h k (by omega) (by omega) x.symm))]
   exact GY ns s z k j (by omega) e (λi hi hk=>h i hi (by omega))
end Go.Proofs.YtfidhgjmifendaaGreatDoor
namespace Go.Proofs.YtfidhgjmifendaaGreatDoor
open Go.RowKit
theorem jF(ms:List Mem)(b off cap:Nat)(w:World)(hr:Row w b off ms)(hb:b<w.heap.size)(hn:ms.length<=20) :
 Calls AS 121 #[J (AI ⟨b,off,be⟩) ms.length cap,IQ (.func 122) #[] #[]] w λe w'=>e=By (Ia (aL ms))/\Below w.heap.size w w':=by
 have HR:Hid (Row w b off ms):=hr;clear hr;have H4:Hid (∀k,k+1<ms.length->0<=bO (ms.getD k dm).name (ms.getD (k+1) dm).name->aL ms=false):=λk hk hl=>by
  rcases h:aL ms with _|_
  .rfl
  .have:=fq ms h k hk;omega
 have H0:Hid ((∀j,j+1<ms.length->bO (ms.getD j dm).name (ms.getD (j+1) dm).name<0)->aL ms=true):=fp ms;generalize hN:ms.length=n at *;have HN:Hid (ms.length=n):=hN;clear hN;generalize hC:aL ms=res at *;have HC:Hid (aL ms=res):=hC;clear hC;go_enter Tryz.func121,Tryz.ntmps121;go_wp2_with fail;go_loopw [5] (λi w'=>∃k:Nat,(k+1<=n\/k=0)/\i=U O (k+1)/\Below w.heap.size w w'/\Hid (∀j,j<k->bO (ms.getD j dm).name (ms.getD (j+1) dm).name<0)) (λi _=>n-(intOf i).toNat)
 case atStart=>exact⟨0,.inr rfl,rfl,Ib _ _,λj h=>absurd h (Jq _)⟩
 case round=>
  obtain⟨q,hq,rfl,aN,hz⟩:=hrel;obtain⟨eG,nz⟩:=cz aN;have cF:=aN.size;by_cases aW:q+1<n
  .have F:=((HR.out q (by rw[HN.out];omega)).eq (λo=>eG b o hb)).re
   have G:=((HR.out (q+1) (by rw[HN.out];exact aW)).eq (λo=>eG b o hb)).re;have HK:Hid (0<=bO (ms.getD q dm).name (ms.getD (q+1) dm).name->res=false):=λh=>H4.out q aW h;have HZ:Hid (bO (ms.getD q dm).name (ms.getD (q+1) dm).name<0->∀j,j<q+1->bO (ms.getD j dm).name (ms.getD (j+1) dm).name<0):=λh j hj=>by
    rcases Jc.1 hj with h2|rfl
    .exact hz.out j h2
    .exact h
   generalize ms.getD q dm=m1 at *;generalize ms.getD (q+1) dm=m2 at *;have hN:∀d os,Calls AS 122 #[Ij #[Y m1.name,U O m1.state,U O m1.aI,U O m1.addr,Ia m1.server],Ij #[Y m2.name,U O m2.state,U O m2.aI,U O m2.addr,Ia m2.server]] (Io (Iz wr d) os) λe gD=>e=By (U O (bO m1.name m2.name))/\∃p:JW,gD=Io (Iz wr p.d) p.os:=λd os=>I3 (dj m1 m2 _);simp only[As] at F G;clear eG nz;generalize bO m1.name m2.name=r at *;have Gl:IntKind.i64.wrap (q:Int)=(q:Int):=by rw[IntKind.wrap_i64];omega
   have Eg:q<n:=by omega
   have TW:(q:Int)+1<(n:Int):=by omega
   have TX:(0:Int)<=(q:Int)+1:=by omega
   have DZ:((q:Int)+1).toNat=q+1:=by omega
   go_wp2_with fail;refine IJ (by kernel_rfl) (by kernel_rfl) ?_;repeat(quiet_step (exact hN _ _))
   refine bN λdq kj ed=>?_;clear hN F G;by_cases hl:r<0
   .have mB:¬ (0<=r):=by omega
    go_wp2_with fail;go_roundw
    case rel=>exact⟨q+1,.inl (by omega),by go_num,aN.trans (ed.out.mono cF),HZ.out hl⟩
    case measure=>simp[intOf];omega
   .have mB:0<=r:=by omega
    have h4:Hid (res=false):=HK.out mB;go_wp2_with fail;go_ret;exact⟨ba h4.out.symm,aN.trans (ed.out.mono cF)⟩
  .have h0:Hid (res=true):=H0.out λj hj=>hz.out j (by omega)
   go_wp2_with fail;go_ret;exact⟨ba h0.out.symm,aN⟩
theorem gj(a:Option Addr)(cap:Nat)(fv:Value)(w:World) :
 Calls AS 121 #[J a 0 cap,fv] w λe w'=>e=By (Ia true)/\w'=w:=by
 go_enter Tryz.func121,Tryz.ntmps121;go_wp2_with fail;go_loop [5] (λi=>i=U O 1) (λ_=>0)
 case atStart=>rfl
 case round=>
  subst hrel;go_wp2_with fail;go_ret;exact⟨rfl,rfl⟩
theorem gk(ms:List Mem)(b off cap:Nat)(lk:Mem)(w:World)(hr:Row w b off ms)(hb:b<w.heap.size)(hn:ms.length<=40)(gV:∀i j,i<=j->j<ms.length->bO (ms.getD j dm).name lk.name<0->bO (ms.getD i dm).name lk.name<0) :
 Calls AS 243 #[J (AI ⟨b,off,be⟩) ms.length cap,Ij #[Y lk.name,U O lk.state,U O lk.aI,U O lk.addr,Ia lk.server],IQ (.func 122) #[] #[]] w λe w'=>∃(p:Nat) (f:Bool),e=By (Ik #[U O p,Ia f])/\Below w.heap.size w w' /\
  p<=ms.length/\(∀j,j<p->bO (ms.getD j dm).name lk.name<0)/\(∀j,p<=j->j<ms.length->0<=bO (ms.getD j dm).name lk.name)/\(f=true↔p<ms.length/\bO (ms.getD p dm).name lk.name=0):=by
 have HR:Hid (Row w b off ms):=hr;clear hr;have HM:Hid _:=gV;clear gV;generalize hN:ms.length=n at *;have HN:Hid (ms.length=n):=hN;clear hN;go_enter Tryz.func243,Tryz.ntmps243;go_wp2_with fail;obtain⟨W0,bJ,bM,eE,dG⟩:=bW w #[Y lk.name,U O lk.state,U O lk.aI,U O lk.addr,Ia lk.server] 50;have Es:Hid (Row W0 b off ms):=HR.out.later bM hb;have HT:Hid (As W0 w.heap.size 0 lk):=⟨ae dG 0,ae dG 1,ae dG 2,ae dG 3,ae dG 4⟩;have da:Hid (Below w.heap.size w W0):=bM;have sJ:Hid (W0=w.alloc (AT #[Y lk.name,U O lk.state,U O lk.aI,U O lk.addr,Ia lk.server] 50)):=bJ;clear dG bM HR bJ;have wG:b<w.heap.size+1:=by omega
 go_loopw [9,10] (λi j w'=>∃k l:Nat,k<=l/\l<=n/\i=U O k/\j=U O l/\Below (w.heap.size+1) W0 w'/\Hid (∀j,j<k->bO (ms.getD j dm).name lk.name<0)/\Hid (∀j,l<=j->j<n->0<=bO (ms.getD j dm).name lk.name)) (λi j _=>(intOf j).toNat-(intOf i).toNat)
 case atStart=>exact⟨0,n,II _,Ic _,rfl,rfl,by rw[sJ.out];exact Ib _ _,λj h=>absurd h (Jq _),λj h1 h2=>by omega⟩
 case round=>
  obtain⟨k,l,iH,Ks,rfl,rfl,aN,yq,yr⟩:=hrel;have cF:=aN.size;have eG:∀b o,b<w.heap.size+1->wr.cell? ⟨b,o,be⟩=W0.cell? ⟨b,o,be⟩:=λb o h=>aN.cell (p:=⟨b,o,be⟩) h;have G:=(HT.out.eq (λo=>eG w.heap.size o (by omega))).re;simp only[As,IC] at G;by_cases aW:k<l
  .obtain⟨h,hh,h1,h2⟩:∃h:Nat,((k:Int)+(l:Int))/2=(h:Int)/\k<=h/\h<l:=⟨(k+l)/2,by omega,by omega,by omega⟩
   have F:=((Es.out h (by rw[HN.out];omega)).eq (λo=>eG b o wG)).re;have pF:=HM.out;have HK:Hid (bO (ms.getD h dm).name lk.name<0->∀j,j<h+1->bO (ms.getD j dm).name lk.name<0):=λhx j hj=>pF j h (by omega) (by omega) hx;have HL:Hid (0<=bO (ms.getD h dm).name lk.name->∀j,h<=j->j<n->0<=bO (ms.getD j dm).name lk.name):=λhx j hj CB=>by
    apply Int.not_lt.1;intro hq;have:=pF h j hj CB hq;omega
   clear pF;have hhn:h<n:=by omega
   generalize ms.getD h dm=m at *;have hO:∀d os,Calls AS 122 #[Ij #[Y m.name,U O m.state,U O m.aI,U O m.addr,Ia m.server],Ij #[Y lk.name,U O lk.state,U O lk.aI,U O lk.addr,Ia lk.server]] (Io (Iz wr d) os) λe gD=>e=By (U O (bO m.name lk.name))/\∃p:JW,gD=Io (Iz wr p.d) p.os:=λd os=>I3 (dj m lk _);simp only[As] at F;clear eG;generalize bO m.name lk.name=r at *;go_wp2_with fail;refine IJ (by kernel_rfl) (by kernel_rfl) ?_;repeat(quiet_step (exact hO _ _))
   refine bN λdq kj ed=>?_;clear hO F G;by_cases mW:r<0
   .go_wp2_with fail
    exact⟨⟨h+1,l,by omega,by omega,by go_num,rfl,aN.trans (ed.out.mono (by omega)),HK.out mW,yr⟩,by simp[intOf];omega⟩
   .have rT:0<=r:=by omega
    go_wp2_with fail;exact⟨⟨k,h,by omega,by omega,rfl,rfl,aN.trans (ed.out.mono (by omega)),yq,HL.out rT⟩,by simp[intOf];omega⟩
  .have BS:l=k:=by omega
   subst BS;by_cases fQ:l<n
   .have F:=((Es.out l (by rw[HN.out];omega)).eq (λo=>eG b o wG)).re
    generalize hm:ms.getD l dm=m at *;have Hm:Hid (ms.getD l dm=m):=hm;clear hm;have hO:∀d os,Calls AS 122 #[Ij #[Y m.name,U O m.state,U O m.aI,U O m.addr,Ia m.server],Ij #[Y lk.name,U O lk.state,U O lk.aI,U O lk.addr,Ia lk.server]] (Io (Iz wr d) os) λe gD=>e=By (U O (bO m.name lk.name))/\∃p:JW,gD=Io (Iz wr p.d) p.os:=λd os=>I3 (dj m lk _);simp only[As] at F;clear eG;generalize EU:bO m.name lk.name=r at *;have Hr:Hid (bO m.name lk.name=r):=EU;clear EU;go_wp2_with fail;refine IJ (by kernel_rfl) (by kernel_rfl) ?_;repeat(quiet_step (exact hO _ _))
    refine bN λdq kj ed=>?_;clear hO F G;go_wp2_with fail;go_ret2;refine⟨l,_,rfl,da.out.trans ((aN.trans (ed.out.mono (by omega))).mono (by omega)),by omega,yq.out,yr.out,?_⟩;rw[Hm.out,Hr.out];simp[fQ]
   .clear G
    have hkd:decide ((l:Int)<(n:Int))=false:=by simp;omega
    go_wp2_with fail;go_quiet (fail)
    go_wp2_with fail;go_ret2;refine⟨l,_,rfl,da.out.trans ((I8 aN _).mono (by omega)),by omega,yq.out,yr.out,?_⟩;simp[fQ]
theorem fw(a:Option Addr)(cap:Nat)(lk:Mem)(fv:Value)(w:World) :
 Calls AS 243 #[J a 0 cap,Ij #[Y lk.name,U O lk.state,U O lk.aI,U O lk.addr,Ia lk.server],fv] w λe w'=>e=By (Ik #[U O 0,Ia false])/\Below w.heap.size w w':=by
 go_enter Tryz.func243,Tryz.ntmps243;go_wp2_with fail;go_loop [9,10] (λi j=>i=U O 0/\j=U O 0) (λ_ _=>0)
 case atStart=>exact⟨rfl,rfl⟩
 case round=>
  obtain⟨rfl,rfl⟩:=hrel;go_wp2_with fail;go_quiet (fail)
  go_wp2_with fail;go_ret2;exact⟨rfl,I8 ((Ib _ _).alloc (Ic _) _) _⟩
theorem fx(ms:List Mem)(v:Value)(lk:Mem)(w:World)(h:Sl w v ms)(hn:ms.length<=40)(gV:∀i j,i<=j->j<ms.length->bO (ms.getD j dm).name lk.name<0->bO (ms.getD i dm).name lk.name<0) :
 Calls AS 243 #[v,Ij #[Y lk.name,U O lk.state,U O lk.aI,U O lk.addr,Ia lk.server],IQ (.func 122) #[] #[]] w λe w'=>∃(p:Nat) (f:Bool),e=By (Ik #[U O p,Ia f])/\Below w.heap.size w w'/\At ms lk.name p f:=by
 obtain⟨a,cap,rfl,hs,h⟩:=h;rcases h with rfl|⟨b,off,rfl,hb,hr⟩
 .refine(fw a cap lk _ w).mono ?_
  rintro e w' ⟨rfl,hb⟩;exact⟨0,false,rfl,hb,⟨by simp,λj h=>by omega,λj h h2=>by simp at h2,by simp⟩⟩
 .refine(gk ms b off cap lk w hr hb hn gV).mono ?_
  rintro e w' ⟨p,f,rfl,aN,g1,g2,g3,g4⟩;exact⟨p,f,rfl,aN,⟨g1,g2,g3,g4⟩⟩
theorem ff(ms:List Mem)(v:Value)(lk:Mem)(w:World)(h:Sl w v ms)(hn:ms.length<=40)(hr:bn ms) :
 Calls AS 211 #[v,Ij #[Y lk.name,U O lk.state,U O lk.aI,U O lk.addr,Ia lk.server],IQ (.func 122) #[] #[]] w λe w'=>∃(p:Nat) (f:Bool),e=By (Ik #[U O p,Ia f])/\Below w.heap.size w w'/\At ms lk.name p f:=by
 have HC:Hid (∀w',Below w.heap.size w w'->Calls AS 243 #[v,Ij #[Y lk.name,U O lk.state,U O lk.aI,U O lk.addr,Ia lk.server],IQ (.func 122) #[] #[]] w' λe gD=>∃(p:Nat) (f:Bool),e=By (Ik #[U O p,Ia f])/\Below w'.heap.size w' gD/\At ms lk.name p f):=
  λw' hb=>fx ms v lk w' (h.below hb) hn (dP hr lk.name)
 clear h hn hr;go_enter Tryz.func211,Tryz.ntmps211;go_wp2_with (go_at_call 243;refine(HC.out _ ?hb).mono ?_)
 case hb=>exact(Ib _ _).alloc (Ic _) _
 rintro e w' ⟨p,f,rfl,aN,cv⟩;have fS:Hid (At ms lk.name p f):=cv;clear cv;go_wp2_with fail;go_ret2;exact⟨p,f,rfl,((Ib _ _).alloc (Ic _) _).trans (aN.mono (by simp)),fS.out⟩
theorem lP{a b:List Mem}(kL:a.length<=20)(kK:b.length<=20)(k:Nat):(dF a b k).length<=40:=by
 unfold dF;split
 .simp
 .split
  .omega
  .have:=di b a;omega
structure Bn(w:World)(pb:Nat)(a b:List Mem)(k:Nat)(l:List Mem)(pk:Option Addr)(ck:Nat):Prop where
 cell:w.cell? ⟨pb,k,be⟩=AI (J pk l.length ck)
 row:l=[]\/∃b off,pk=AI ⟨b,off,be⟩/\b<w.heap.size/\Row w b off l
 Hv:∀m∈l,(m).name.size<=Il
 len:l.length<=20
 Bo:(dF a b k).length<=20
 tr:bn (dF a b k)
 Bp:∀m∈dF a b k,(m).name.size<=Il
 step:dF a b (k+1)=av (dF a b k) l
theorem ox{a b:List Mem}{va vb:Value}{pb:Nat}{w:World}(ha:Sl w va a)(hb:Sl w vb b)(hc0:w.cell? ⟨pb,0,be⟩=AI va)(hc1:w.cell? ⟨pb,1,be⟩=AI vb)(kL:a.length<=20)(kK:b.length<=20)(ra:bn a)(k:Nat)(hk:k<2) :
 ∃l pk ck,Bn w pb a b k l pk ck:=by
 obtain⟨pa,ca,rfl,Hw,ha⟩:=ha;obtain⟨pv,cb,rfl,R6,hb⟩:=hb;have fZ:k=0\/k=1:=by omega
 rcases fZ with rfl|rfl
 .exact⟨a,pa,ca,hc0,ha,dw Hw,kL,by simp[dF],by simp[dF],by simp[dF],(iq a ra).symm⟩
 .exact⟨b,pv,cb,hc1,hb,dw R6,kK,kL,ra,dw Hw,rfl⟩
theorem iu(a b:List Mem)(va vb:Value)(pb cap:Nat)(w:World)(ha:Sl w va a)(hb:Sl w vb b)(hpb:pb<w.heap.size)(hc0:w.cell? ⟨pb,0,be⟩=AI va)(hc1:w.cell? ⟨pb,1,be⟩=AI vb)(kL:a.length<=20)(kK:b.length<=20)(ra:bn a) :
 Calls AS 209 #[IQ (.func 122) #[] #[],IQ (.func 208) #[] #[],J (AI ⟨pb,0,be⟩) 2 cap] w λe w'=>∃v',e=By v'/\Own w.heap.size w' v' (av a b)/\Below w.heap.size w w':=by
 have HK:Hid (∀k,k<2->∃l pk ck,Bn w pb a b k l pk ck):=λk hk=>ox ha hb hc0 hc1 kL kK ra k hk;have uK:Hid (∀k,(dF a b k).length<=40):=lP kL kK;clear ha hb hc0 hc1 kL kK ra;go_enter Tryz.func209,Tryz.ntmps209;go_wp2_with fail;go_loopw [7,16] (λkn i w'=>∃k:Nat,k<=2/\i=U O k/\Below w.heap.size w w'/\Hid (Own w.heap.size w' kn (dF a b k))) (λ_ i _=>2-(intOf i).toNat)
 case atStart=>exact⟨0,by omega,rfl,Ib _ _,bY _ _⟩
 case round=>
  obtain⟨k,hk,rfl,aN,HO⟩:=hrel;obtain⟨eG,nz⟩:=cz aN;have cF:=aN.size;by_cases jz:k<2
  .obtain⟨l,pk,ck,oy⟩:=HK.out k jz
   have oz:Hid (Bn w pb a b k l pk ck):=oy;have fM:=oy.cell;clear oy;generalize ri:l.length=nl at *;have jZ:Hid (l.length=nl):=ri;clear ri;have Hx:nl<=20:=by have:=oz.out.len;have:=jZ.out;omega
   have R7:(k:Int)<2:=by omega
   go_wp2_with fail;go_loopw [7,22] (λkn j w'=>∃q:Nat,q<=nl/\j=U O q/\Below w.heap.size w w'/\Hid (Own w.heap.size w' kn (av (dF a b k) (l.take q)))) (λ_ j _=>nl-(intOf j).toNat)
   case atStart=>exact⟨0,II _,rfl,aN,HO⟩
   case round=>
    clear eG nz cF aN HO fM;obtain⟨q,hq,rfl,aN,HO⟩:=hrel;obtain⟨eG,nz⟩:=cz aN;have cF:=aN.size;by_cases aW:q<nl
    .obtain⟨b2,off,Bq,Pu,cQ⟩:∃xk off,pk=AI ⟨xk,off,be⟩/\xk<w.heap.size/\Row w xk off l:=by
      rcases oz.out.row with h|h
      .have:=jZ.out;rw[h] at this;simp at this;omega
      .exact h
     subst Bq;obtain⟨c0,c1,c2,c3,c4⟩:=cQ q (by rw[jZ.out];exact aW);clear cQ;have HJ:Hid (av (dF a b k) (l.take (q+1))=aP (av (dF a b k) (l.take q)) (l.getD q dm)):=gd (dF a b k) l q (by rw[jZ.out];exact aW);have HR:Hid (bn (av (dF a b k) (l.take q))):=dE _ _ oz.out.tr;have Mr:Hid (∀j,((av (dF a b k) (l.take q)).getD j dm).name.size<=Il):=cB (iI _ _ oz.out.Bp (λx hx=>oz.out.Hv x (List.mem_of_mem_take hx)));have HL:Hid ((av (dF a b k) (l.take q)).length<=40):=by
      have h1:=di (l.take q) (dF a b k);have h2:(l.take q).length<=q:=List.length_take_le _ _;have h3:=oz.out.Bo;show(av (dF a b k) (l.take q)).length<=40;omega
     generalize l.getD q dm=m at *;generalize av (dF a b k) (l.take q)=known at *;have Ef:known.length<=40:=HL.out;obtain⟨W1,cM,aB,fg,cK⟩:=bW wr #[Y m.name,U O m.state,U O m.aI,U O m.addr,Ia m.server] 50;have lC:Hid (Own w.heap.size W1 u7 known):=HO.out.below aB;have HF:Hid (Calls AS 211 #[u7,Ij #[Y m.name,U O m.state,U O m.aI,U O m.addr,Ia m.server],IQ (.func 122) #[] #[]] W1 λe w'=>∃(p:Nat) (f:Bool),e=By (Ik #[U O p,Ia f])/\Below W1.heap.size W1 w'/\At known m.name p f):=
      ff known u7 m W1 (lC.out.sl Mr.out) HL.out HR.out
     have aV:Hid (Below w.heap.size w W1):=aN.trans (aB.mono cF);have HT:Hid (As W1 wr.heap.size 0 m):=⟨ae cK 0,ae cK 1,ae cK 2,ae cK 3,ae cK 4⟩;have nZ:Hid _:=cM;have uR:w.heap.size<=W1.heap.size:=by omega
     clear cK aB HO HL HR cM;go_wp2_with fail;rw[<- nZ.out];refine HF.out.mono ?_;rintro e w2 ⟨p,f,rfl,aJ,cv⟩;have fS:Hid _:=cv;have R8:=cv.le;have R9:=aJ.size;have gX:Hid (Own _ _ _ _):=lC.out.below aJ;have bp:Hid _:=aV.out.trans (aJ.mono uR);have xl:Hid (As w2 wr.heap.size 0 m):=HT.out.eq (λo=>aJ.cell (p:=⟨wr.heap.size,o,be⟩) (by show wr.heap.size<W1.heap.size;omega));obtain⟨t0,t1,t2,t3,t4⟩:w2.cell? ⟨wr.heap.size,0,be⟩=AI (Y m.name)/\w2.cell? ⟨wr.heap.size,1,be⟩=AI (U O m.state)/\w2.cell? ⟨wr.heap.size,2,be⟩=AI (U O m.aI)/\w2.cell? ⟨wr.heap.size,3,be⟩=AI (U O m.addr)/\w2.cell? ⟨wr.heap.size,4,be⟩=AI (Ia m.server):=xl.out;have gY:w.heap.size<=w2.heap.size:=by omega
     have Br:wr.heap.size<w2.heap.size:=by omega
     clear cv HF eG nz c0 c1 c2 c3 c4 aJ lC aV HT;cases f
     .have aM:Hid (u7.ownBlock≠AI w2.heap.size):=λe=>by have:=gX.out.lt _ e;omega
      have dY:Hid (Own w.heap.size (w2.alloc (AT #[Y m.name,U O m.state,U O m.aI,U O m.addr,Ia m.server] 50)) u7 known):=gX.out.below ((Ib _ _).alloc (Ic _) _);have pt:Hid ((w2.alloc (AT #[Y m.name,U O m.state,U O m.aI,U O m.addr,Ia m.server] 50)).heap[w2.heap.size]?=AI (AT m.cs.toArray 50 (0,0))):=Ih w2 _;go_wp2_with (go_at_call 242;refine(fj w.heap.size p w2.heap.size u7 known m _ dY.out fS.out.le (by omega) (by simp;omega) pt.out aM.out).mono ?_;rintro e w4 ⟨v',rfl,g1,g2⟩);go_roundw
      case rel=>
       have jf:∃oA:Nat,oA<=nl/\U O ((q:Int)+1)=U O oA/\Below w.heap.size w w4/\Hid (Own w.heap.size w4 v' (av (dF a b k) (l.take oA))):=⟨q+1,by omega,by go_num,fc (bp.out.alloc gY _) dY.out g2 (by simp;omega),by rw[HJ.out,dd known m p false fS.out];exact g1⟩;first|exact jf|((repeat apply Exists.intro);exact⟨jf,rfl⟩)
      case measure=>simp[intOf];omega
     .have hp:p<known.length:=(fS.out.is.1 rfl).1
      obtain⟨g,c,hu⟩:=jJ gX.out p hp;subst hu;have F:=(ez gX.out p hp).re;have dn:=gX.out.lt g rfl;have Mw:g<w2.heap.size:=dn.2;generalize hm:known.getD p dm=m2 at *;have Hm:Hid _:=hm;clear hm;have hN:∀d os,Calls AS 208 #[Ij #[Y m.name,U O m.state,U O m.aI,U O m.addr,Ia m.server],Ij #[Y m2.name,U O m2.state,U O m2.aI,U O m2.addr,Ia m2.server]] (Io (Iz w2 d) os) λe gD=>e=By (Ia (eB m m2))/\∃p:JW,gD=Io (Iz w2 p.d) p.os:=λd os=>I3 (gf m m2 _);have G:=xl.out.re;simp only[As,IC] at F G;have rf:∀o,w2.frozen? ⟨g,o,be⟩=false:=λo=>I7 gX.out o;have TF:Hid _:=rf;clear rf t0 t1 t2 t3 t4;generalize Hy:eB m m2=nw at *;have Hz:Hid _:=Hy;clear Hy;go_wp2_with fail;refine IJ (by kernel_rfl) (by kernel_rfl) ?_;repeat(quiet_step (exact hN _ _))
      refine bN λdq kj ed=>?_;clear hN F G;cases nw
      .go_wp2_with fail
       go_roundw
       case rel=>
        have jf:∃oA:Nat,oA<=nl/\U O ((q:Int)+1)=U O oA/\Below w.heap.size w (Io (Iz w2 dq) kj)/\Hid (Own w.heap.size (Io (Iz w2 dq) kj) (J (AI ⟨g,0,be⟩) known.length c) (av (dF a b k) (l.take oA))):=⟨q+1,by omega,by go_num,bp.out.trans (ed.out.mono gY),by rw[HJ.out,dd known m p true fS.out,if_pos rfl,Hm.out,if_neg (λh=>Bool.false_ne_true (Hz.out.symm.trans h))];exact gX.out.below ed.out⟩;first|exact jf|((repeat apply Exists.intro);exact⟨jf,rfl⟩)
       case measure=>simp[intOf];omega
      .generalize Io (Iz w2 dq) kj=w3 at *
       have dY:Hid (Own _ _ _ _):=gX.out.below ed.out;obtain⟨c0,c1,c2,c3,c4⟩:=ez dY.out p hp;rw[Hm.out] at c0 c1 c2 c3 c4;have ji:=(dY.out.lt g rfl).2;have rf:∀o,w3.frozen? ⟨g,o,be⟩=false:=λo=>I7 dY.out o;obtain⟨s0,s1,s2,s3,s4⟩:w3.cell? ⟨wr.heap.size,0,be⟩=AI (Y m.name)/\w3.cell? ⟨wr.heap.size,1,be⟩=AI (U O m.state)/\w3.cell? ⟨wr.heap.size,2,be⟩=AI (U O m.aI)/\w3.cell? ⟨wr.heap.size,3,be⟩=AI (U O m.addr)/\w3.cell? ⟨wr.heap.size,4,be⟩=AI (Ia m.server):=xl.out.eq (λo=>ed.out.cell (p:=⟨wr.heap.size,o,be⟩) Br);go_wp2_with fail;refine⟨⟨q+1,by omega,by go_num,?_,?_⟩,by simp[intOf];omega⟩
       .exact((((((bp.out.trans (ed.out.mono gY)).setCell (p:=⟨g,p*5,be⟩) dn.1 (Y m.name)).setCell (p:=⟨g,p*5+1,be⟩) dn.1 (U O m.state)).setCell (p:=⟨g,p*5+2,be⟩) dn.1 (U O m.aI)).setCell (p:=⟨g,p*5+3,be⟩) dn.1 (U O m.addr)).setCell (p:=⟨g,p*5+4,be⟩) dn.1 (Ia m.server))
       .rw[HJ.out,dd known m p true fS.out,if_pos rfl,Hm.out,if_pos Hz.out]
        exact lr dY.out hp m
    .have Eg:q=nl:=by omega
     subst Eg;have dY:Hid (Own w.heap.size wr u7 (dF a b (k+1))):=by
      have h:=HO.out;rw[List.take_of_length_le (by rw[jZ.out];exact Ic _)] at h;rw[oz.out.step];exact h
     go_wp2_with fail;go_roundw
     case rel=>exact⟨k+1,by omega,by go_num,aN,dY⟩
     case measure=>simp[intOf];omega
  .have jO:k=2:=by omega
   subst jO;go_wp2_with fail;go_ret;exact⟨_,rfl,HO.out,aN⟩
theorem fO(m:Mem)(w:World)(hm:m.name.size<=Il) :
 Calls AS 120 #[Ij #[Y m.name,U O m.state,U O m.aI,U O m.addr,Ia m.server]] w λe w'=>e=By (U O m.e)/\Below w.heap.size w w':=by
 refine(xz m.name m.state m.aI m.addr m.server w hm).mono ?_;rintro e w' ⟨rfl,rfl⟩;exact⟨rfl,(Ib _ _).alloc (Ic _) _⟩
theorem iE(ms:List Mem)(b off cap:Nat)(w:World)(hr:Row w b off ms)(hb:b<w.heap.size)(hn:ms.length<=20)(hs:∀j,(ms.getD j dm).name.size<=Il) :
 Calls AS 70 #[J (AI ⟨b,off,be⟩) ms.length cap] w λe w'=>e=By (U O (bj ms))/\Below w.heap.size w w':=by
 have HR:Hid (Row w b off ms):=hr;have HE:Hid (∀k,k<ms.length->(∀j,j<k->(ms.getD j dm).e=0)->(ms.getD k dm).e≠0->bj ms=(ms.getD k dm).e):=λk h1 h2 h3=>tD ms k hn h1 h2 h3;have H4:Hid ((∀j,j<ms.length->(ms.getD j dm).e=0)->bj ms=if aL ms=true then 0 else 4):=λh1=>ry ms hn h1;have KB:Hid (∀w',Below w.heap.size w w'->Calls _ _ _ _ _):=λw' AD=>jF ms b off cap w' (hr.later AD hb) (IN hb AD.size) hn;clear hr;generalize hN:ms.length=n at *;have HN:Hid _:=hN;clear hN;have HS:Hid _:=hs;clear hs;generalize hC:bj ms=res at *;have HC:Hid _:=hC;clear hC;generalize KC:aL ms=rb at *;have LQ:Hid _:=KC;clear KC;go_enter Tryz.func70,Tryz.ntmps70;go_wp2_with fail;go_loopw [11] (λi w'=>∃k:Nat,k<=n/\i=U O k/\Below w.heap.size w w'/\Hid (∀j,j<k->(ms.getD j dm).e=0)) (λi _=>n-(intOf i).toNat)
 case atStart=>exact⟨0,II _,rfl,Ib _ _,λj h=>absurd h (Jq _)⟩
 case round=>
  obtain⟨k,hk,rfl,aN,hz⟩:=hrel;obtain⟨eG,nz⟩:=cz aN;have cF:=aN.size;by_cases aW:k<n
  .obtain⟨c0,c1,c2,c3,c4⟩:=HR.out k (by rw[HN.out];exact aW)
   have Dn:Hid _:=HS.out k;have HK:Hid ((ms.getD k dm).e≠0->res=(ms.getD k dm).e):=λh=>HE.out k aW hz.out h;have HZ:Hid ((ms.getD k dm).e=0->∀j,j<k+1->(ms.getD j dm).e=0):=λh j hj=>by
    rcases Jc.1 hj with h2|rfl
    .exact hz.out j h2
    .exact h
   generalize ms.getD k dm=m at *;have HO:Hid (∀w,Calls _ _ _ _ _):=λw=>fO m w Dn.out;generalize m.e=me at *;rcases he:decide (me=0) with _|_
   .have kJ:(me !=0)=true:=by simpa using he
    clear he;go_wp2_with (go_at_call 120;refine(HO.out _).mono ?_;rintro e w' ⟨rfl,aJ⟩);go_ret;have aM:me≠0:=by simpa using kJ
    have sL:=HK.out aM;exact⟨ai sL.symm,(aN.alloc cF _).trans (aJ.mono (by simp;omega))⟩
   .have kJ:(me !=0)=false:=by simpa using he
    clear he;go_wp2_with (go_at_call 120;refine(HO.out _).mono ?_;rintro e w' ⟨rfl,aJ⟩);go_roundw
    case rel=>
     have PW:me=0:=by simpa using kJ
     exact⟨k+1,by omega,by go_num,(aN.alloc cF _).trans (aJ.mono (by simp;omega)),HZ.out PW⟩
    case measure=>simp[intOf];omega
  .have ku:Hid (∀j,j<n->(ms.getD j dm).e=0):=λj hj=>hz.out j (by omega)
   have oI:Hid _:=H4.out ku.out;clear hz ku H4 HE HC LQ;cases rb
   .go_wp2_with (go_at_call 121;refine(KB.out _ aN).mono ?_;rintro e w' ⟨rfl,aJ⟩)
    go_ret;exact⟨ai (by rw[oI.out];rfl),aN.trans (aJ.mono cF)⟩
   .go_wp2_with (go_at_call 121;refine(KB.out _ aN).mono ?_;rintro e w' ⟨rfl,aJ⟩)
    go_ret;exact⟨ai (by rw[oI.out];rfl),aN.trans (aJ.mono cF)⟩
theorem gl(a:Option Addr)(n cap:Nat)(w:World)(hn:20<n) :
 Calls AS 70 #[J a n cap] w λe w'=>e=By (U O 2)/\w'=w:=by
 go_enter Tryz.func70,Tryz.ntmps70;go_wp2_with fail;go_ret;exact⟨rfl,rfl⟩
theorem gm(a:Option Addr)(cap:Nat)(w:World) :
 Calls AS 70 #[J a 0 cap] w λe w'=>e=By (U O 0)/\w'=w:=by
 go_enter Tryz.func70,Tryz.ntmps70;go_wp2_with fail;go_loop [11] (λi=>i=U O 0) (λ_=>0)
 case atStart=>rfl
 case round=>
  subst hrel;go_wp2_with (go_at_call 121;refine(gj _ _ _ _).mono ?_;rintro e w' ⟨rfl,rfl⟩);go_ret;exact⟨rfl,rfl⟩
theorem bo(ms:List Mem)(v:Value)(w:World)(h:Sl w v ms) :
 Calls AS 70 #[v] w λe w'=>e=By (U O (bj ms))/\Below w.heap.size w w':=by
 obtain⟨a,cap,rfl,hs,h⟩:=h;by_cases hn:20<ms.length
 .refine(gl a ms.length cap w hn).mono ?_
  rintro e w' ⟨rfl,rfl⟩;exact⟨ai (by rw[bj,if_pos hn]),Ib _ _⟩
 .rcases h with rfl|⟨b,off,rfl,hb,hr⟩
  .refine(gm a cap w).mono ?_
   rintro e w' ⟨rfl,rfl⟩;exact⟨rfl,Ib _ _⟩
  .exact iE ms b off cap w hr hb (by omega) hs
theorem dL(a b:List Mem)(va vb:Value)(pb cap:Nat)(w:World)(ha:Sl w va a)(hb:Sl w vb b)(hpb:pb<w.heap.size)(hc0:w.cell? ⟨pb,0,be⟩=AI va)(hc1:w.cell? ⟨pb,1,be⟩=AI vb) :
 Calls AS 207 #[J (AI ⟨pb,0,be⟩) 2 cap] w λe w'=>e=By (U O (aO a b))/\Below w.heap.size w w':=by
 have HA:Hid (Sl w va a):=ha;have HB:Hid (Sl w vb b):=hb;clear ha hb;go_enter Tryz.func207,Tryz.ntmps207;go_wp2_with fail;go_loopw [8] (λi w'=>∃k:Nat,k<=2/\i=U O k/\Below w.heap.size w w'/\Hid (0<k->bj a=0)/\Hid (1<k->bj b=0)) (λi _=>2-(intOf i).toNat)
 case atStart=>exact⟨0,by omega,rfl,Ib _ _,λh=>by omega,λh=>by omega⟩
 case round=>
  obtain⟨k,hk,rfl,aN,dh,cZ⟩:=hrel;obtain⟨eG,nz⟩:=cz aN;have cF:=aN.size;have Gd:Hid (Sl wr va a):=HA.out.below aN;have Ge:Hid (Sl wr vb b):=HB.out.below aN;have fZ:k=0\/k=1\/k=2:=by omega
  rcases fZ with rfl|rfl|rfl
  .rcases he:decide (bj a=0) with _|_
   .have kJ:(bj a !=0)=true:=by simpa using he
    clear he;go_wp2_with (go_at_call 70;refine(bo a _ _ Gd.out).mono ?_;rintro e w' ⟨rfl,aJ⟩);go_ret;exact⟨ai (by have h0:bj a≠0:=(by simpa using kJ);rw[aO,if_neg h0]),aN.trans (aJ.mono cF)⟩
   .have kJ:(bj a !=0)=false:=by simpa using he
    clear he;go_wp2_with (go_at_call 70;refine(bo a _ _ Gd.out).mono ?_;rintro e w' ⟨rfl,aJ⟩);go_roundw
    case rel=>exact⟨1,by omega,by go_num,aN.trans (aJ.mono cF),λ_=>(by simpa using kJ),λh=>by omega⟩
    case measure=>simp[intOf]
  .have h0:Hid _:=dh.out (by omega)
   rcases he:decide (bj b=0) with _|_
   .have kJ:(bj b !=0)=true:=by simpa using he
    clear he;go_wp2_with (go_at_call 70;refine(bo b _ _ Ge.out).mono ?_;rintro e w' ⟨rfl,aJ⟩);go_ret;exact⟨ai (by rw[aO,if_pos h0.out]),aN.trans (aJ.mono cF)⟩
   .have kJ:(bj b !=0)=false:=by simpa using he
    clear he;go_wp2_with (go_at_call 70;refine(bo b _ _ Ge.out).mono ?_;rintro e w' ⟨rfl,aJ⟩);go_roundw
    case rel=>exact⟨2,by omega,by go_num,aN.trans (aJ.mono cF),λ_=>h0.out,λ_=>(by simpa using kJ)⟩
    case measure=>simp[intOf]
  .go_wp2_with fail
   go_ret;exact⟨ai (by rw[aO,if_pos (dh.out (by omega)),cZ.out (by omega)]),aN⟩
theorem mL(a b:List Mem)(va vb:Value)(pb cap:Nat)(w:World)(ha:Sl w va a)(hb:Sl w vb b)(hpb:pb<w.heap.size)(hc0:w.cell? ⟨pb,0,be⟩=AI va)(hc1:w.cell? ⟨pb,1,be⟩=AI vb)(aM:aO a b≠0) :
 Calls AS 165 #[J (AI ⟨pb,0,be⟩) 2 cap] w λe w'=>e=By (Ik #[J be 0 0,U O (aE a b)])/\Below w.heap.size w w':=by
 have he:(aO a b !=0)=true:=by simpa using aM
 have HE:Hid (aE a b=aO a b):=if_neg aM;have pS:=dL a b va vb pb cap w ha hb hpb hc0 hc1;have HC:Hid (Calls _ _ _ _ _):=pS;clear pS ha hb aM;go_enter Tryz.func165,Tryz.ntmps165;go_wp2_with (go_at_call 207;refine HC.out.mono ?_;rintro e w' ⟨rfl,aJ⟩);go_ret2;exact⟨by rw[HE.out];rfl,aJ⟩
theorem kR(a b:List Mem)(va vb:Value)(pb cap:Nat)(w:World)(ha:Sl w va a)(hb:Sl w vb b)(hpb:pb<w.heap.size)(hc0:w.cell? ⟨pb,0,be⟩=AI va)(hc1:w.cell? ⟨pb,1,be⟩=AI vb)(h0:aO a b=0) :
 Calls AS 165 #[J (AI ⟨pb,0,be⟩) 2 cap] w λe w'=>∃v',e=By (Ik #[v',U O (aE a b)])/\Below w.heap.size w w' /\
  (20<(av a b).length->v'=J be 0 0)/\((av a b).length<=20->Own w.heap.size w' v' (av a b)):=by
 have he:(aO a b !=0)=false:=by simpa using h0
 have Dp:bj a=0:=by unfold aO at h0;split at h0<;>assumption
 have PX:bj b=0:=by unfold aO at h0;rw[if_pos Dp] at h0;exact h0
 have za:=af Dp;have zb:=af PX;have HE:Hid (aE a b=if 20<(av a b).length then 2 else 0):=if_pos h0;have HC:Hid (Calls _ _ _ _ _):=dL a b va vb pb cap w ha hb hpb hc0 hc1;have HJ:Hid (∀w1,Below w.heap.size w w1->Calls AS 209 #[IQ (.func 122) #[] #[],IQ (.func 208) #[] #[],J (AI ⟨pb,0,be⟩) 2 cap] w1 λe w'=>∃v',e=By v'/\Own w1.heap.size w' v' (av a b)/\Below w1.heap.size w1 w'):=λw1 aB=>
  iu a b va vb pb cap w1 (ha.below aB) (hb.below aB) (IN hpb aB.size) ((cz aB).1 pb 0 hpb |>.trans hc0) ((cz aB).1 pb 1 hpb |>.trans hc1) za.1 zb.1 za.2.1
 have Ef:(av a b).length<=40:=by have h1:=di b a;have h2:=za.1;have h3:=zb.1;omega
 clear h0 Dp PX za zb ha hb hc0 hc1;generalize av a b=jl at *;generalize GL:jl.length=n at *;have WH:Hid _:=GL;clear GL;go_enter Tryz.func165,Tryz.ntmps165;go_wp2_with (go_at_call 207;refine HC.out.mono ?_;rintro e w1 ⟨rfl,aB⟩);refine(HJ.out w1 aB).mono ?_;rintro e w2 ⟨v',rfl,ho,aJ⟩;have zK:∃p c,v'=J p n c:=by
  have hn:=WH.out;rcases ho.2 with⟨h,h0⟩|⟨g,c,cur,h,_⟩
  .exact⟨be,0,by rw[h];congr 1;omega⟩
  .exact⟨_,c,by rw[h,hn]⟩
 obtain⟨p,c,rfl⟩:=zK;have PY:Hid _:=aB.trans (aJ.mono aB.size);have dY:Hid (Own _ _ _ _):=ho.mono aB.size;clear ho aB aJ HC HJ;by_cases aW:20<n
 .go_wp2_with fail
  go_ret2;refine⟨_,by rw[HE.out,if_pos aW];rfl,PY.out,λ_=>rfl,λh=>by omega⟩
 .go_wp2_with fail
  go_ret2;refine⟨J p n c,by rw[HE.out,if_neg aW];rfl,PY.out,λh=>by omega,λ_=>dY.out⟩
theorem nu(nm:ByteArray)(st lf ad:Int)(sv:Bool)(w:World) :
 aF 166 #[Ij #[Y nm,U O st,U O lf,U O ad,Ia sv]] w λe w'=>e=By (J (AI ⟨w.heap.size+1,0,be⟩) 1 1)/\w'=(w.alloc (AT #[Y nm,U O st,U O lf,U O ad,Ia sv] 50)).alloc (AT #[Y nm,U O st,U O lf,U O ad,Ia sv] 50):=by
 go_enter Tryz.func166,Tryz.ntmps166;go_wp2;go_ret;exact⟨rfl,rfl⟩
def mg(x y:Mem):Bool:=x.name.toList==y.name.toList&&(x.state==y.state&&(x.aI==y.aI&&(x.addr==y.addr&&x.server==y.server)))
theorem nv(x y:Mem):mg x y=true↔x=y:=by
 obtain⟨n1,s1,l1,a1,v1⟩:=x;obtain⟨n2,s2,l2,a2,v2⟩:=y;simp only[mg,Bool.and_eq_true,beq_iff_eq,Mem.mk.injEq,Lib.toList_data];constructor
 .rintro⟨h1,h2,h3,h4,h5⟩;exact⟨ky h1,h2,h3,h4,h5⟩
 .rintro⟨rfl,h2,h3,h4,h5⟩;exact⟨rfl,h2,h3,h4,h5⟩
theorem SP(m1 m2:Mem)(w:World):(Op.equalIn 10000 50 (Ij #[Y m1.name,U O m1.state,U O m1.aI,U O m1.addr,Ia m1.server]) (Ij #[Y m2.name,U O m2.state,U O m2.aI,U O m2.addr,Ia m2.server])).run AS w=.ok (mg m1 m2) w:=by
 have u3:=ID;have u4:=Tryz.underlying4;have u9:=Ja;have a3:=Tryz.isAgg3;have z3:=Tryz.sizeOf3;have a4:=Tryz.isAgg4;have z4:=Tryz.sizeOf4;have a9:=Tryz.isAgg9;have z9:=Tryz.sizeOf9;have hS:Tryz.prog.underlying 50=AI (.struct (Tryz.prog.fieldsOf 50)):=by kernel_rfl
 have hp:Tryz.prog.stoodInHeld 50=false:=by kernel_rfl
 rw[show(10000:Nat)=9999+1 from rfl,run_equalIn_agg w 9999 50 _ _ hS hp];simp only[Program.fieldsOf,Tryz.underlying50];go_simp;unfold mg;by_cases h1:m1.name.toList=m2.name.toList<;>by_cases h2:m1.state=m2.state<;>by_cases h3:m1.aI=m2.aI<;>by_cases h4:m1.addr=m2.addr<;>by_cases h5:m1.server=m2.server<;>simp[h1,h2,h3,h4,h5]
theorem WI(m1 m2:Mem)(w:World):Sem.run AS (binOp .neq 50 (Ij #[Y m1.name,U O m1.state,U O m1.aI,U O m1.addr,Ia m1.server]) (Ij #[Y m2.name,U O m2.state,U O m2.aI,U O m2.addr,Ia m2.server])) w=.ok (Ia (!mg m1 m2)) w:=by
 rw[run_neq_struct,SP];rfl
theorem EV(a b:List Mem)(va vb:Value)(w:World)(ha:Sl w va a)(hb:Sl w vb b)(yZ:a.length<=1000) :
 aF 167 #[va,vb] w λe w'=>∃r:Bool,e=By (Ia r)/\(r=true↔a=b)/\Below w.heap.size w w':=by
 obtain⟨pa,ca,rfl,_,ha⟩:=ha;obtain⟨pv,cb,rfl,_,hb⟩:=hb;by_cases hl:a.length=b.length
 .have HA:Hid _:=ha
  have HB:Hid _:=hb;have HL:Hid _:=hl;clear ha hb;rw[<- hl];clear hl;generalize Ho:a.length=n at *;have HN:Hid _:=Ho;clear Ho;have akY:Tryz.prog.eqGuardType Tryz.prog.depth 50=false:=by kernel_rfl
  go_enter Tryz.func167,Tryz.ntmps167;go_wp2_with fail;go_loopw [13] (λi w'=>∃k:Nat,k<=n/\i=U O k/\Below w.heap.size w w'/\Hid (∀j,j<k->a.getD j dm=b.getD j dm)) (λi _=>n-(intOf i).toNat)
  case atStart=>exact⟨0,II _,rfl,Ib _ _,λj h=>absurd h (Jq _)⟩
  case round=>
   obtain⟨k,hk,rfl,aN,hz⟩:=hrel;obtain⟨eG,nz⟩:=cz aN;have cF:=aN.size;by_cases aW:k<n
   .obtain⟨b1,o1,uP,Bd,mj⟩:∃b off,pa=AI ⟨b,off,be⟩/\b<w.heap.size/\Row w b off a:=by
     rcases HA.out with h|h
     .have:=HN.out;rw[h] at this;simp at this;omega
     .exact h
    obtain⟨b2,o2,vG,mB,rh⟩:∃xk off,pv=AI ⟨xk,off,be⟩/\xk<w.heap.size/\Row w xk off b:=by
     rcases HB.out with h|h
     .have h2:=HN.out;have h3:=HL.out;rw[h] at h3;simp at h3;omega
     .exact h
    subst uP;subst vG;obtain⟨c0,c1,c2,c3,c4⟩:=mj k (by rw[HN.out];exact aW);obtain⟨d0,d1,d2,d3,d4⟩:=rh k (by have h2:=HN.out;have h3:=HL.out;omega);clear mj rh;have HF:Hid (a.getD k dm≠b.getD k dm->a≠b):=λh e=>h (by rw[e]);have HZ:Hid (a.getD k dm=b.getD k dm->∀j,j<k+1->a.getD j dm=b.getD j dm):=λh j hj=>by
     rcases Jc.1 hj with h2|rfl
     .exact hz.out j h2
     .exact h
    have xM:=WI (a.getD k dm) (b.getD k dm);generalize a.getD k dm=m1 at *;generalize b.getD k dm=m2 at *;rcases hs:mg m1 m2 with _|_
    .rw[hs] at xM
     have aM:Hid _:=HF.out (λe=>by rw[<- nv,hs] at e;cases e);go_wp2_with fail;go_quiet (fail)
     go_wp2_with fail;go_ret;exact⟨false,rfl,⟨λh=>(by cases h),λh=>absurd h aM.out⟩,I8 aN _⟩
    .rw[hs] at xM
     have heq:Hid _:=(nv m1 m2).1 hs;go_wp2_with fail;go_quiet (fail)
     go_wp2_with fail;go_roundw
     case rel=>exact⟨k+1,by omega,by go_num,I8 aN _,HZ.out heq.out⟩
     case measure=>simp[intOf];omega
   .have jf:Hid (a=b):=by
     apply List.ext_getElem (HN.out.trans HL.out);intro j h1 h2;have:=hz.out j (by have:=HN.out;omega);simpa[Ip,If h1,If h2] using this
    go_wp2_with fail;go_ret;exact⟨true,rfl,⟨λ_=>jf.out,λ_=>rfl⟩,aN⟩
 .have aM:((a.length:Int)!=(b.length:Int))=true:=by rw[bne_iff_ne];omega
  have HF:Hid (a≠b):=λe=>hl (by rw[e]);clear ha hb;go_enter Tryz.func167,Tryz.ntmps167;go_wp2_with fail;go_ret;exact⟨false,rfl,⟨λh=>(by cases h),λh=>absurd h HF.out⟩,Ib _ _⟩
theorem eU(ms:List Mem)(v:Value)(w:World)(h:Sl w v ms)(hn:ms.length<=1000) :
 aF 57 #[v] w λe w'=>∃v',e=By v'/\Own w.heap.size w' v' ms/\Below w.heap.size w w':=by
 obtain⟨a,cap,rfl,hs,h⟩:=h;obtain⟨i0,fL,dh,gW,gG⟩:=info_parts Tryz.oh;cases a with
 |none=>
  have he:ms=[]:=by
   rcases h with h|⟨b,off,h,_⟩
   .exact h
   .cases h
  subst he;clear h hs;have gL:=λ(w:World)=>Lib.run_eql_slice_nil (P:=AS) w 34 50 be 0 cap 0 0 JP;simp only[List.length_nil,Option.isNone_none] at gL ⊢;go_enter Tryz.func57,Tryz.ntmps57;go_wp2_with fail;go_ret;exact⟨_,rfl,bY _ _,Ib _ _⟩
 |some a=>
  have gL:=λ(w:World)=>Lib.run_eql_slice_nil (P:=AS) w 34 50 (AI a) ms.length cap 0 0 JP;simp only[Option.isNone_some] at gL;have hnews:Hid (∀j u,(fl ms)[j]?=AI u->(w.alloc (AT #[] 50)).cell? (a.add j)=AI u):=by
   intro j u hj;rcases h with h|⟨b,off,h,hb,hr⟩
   .subst h;simp[fl] at hj
   .cases h
    have Rh:j<ms.length*5:=by rw[<- cP];exact(List.getElem?_eq_some_iff.1 hj).1
    have h1:=eb ms (j/5) (by omega) (j%5) (by omega);rw[show j/5*5+j%5=j by omega,hj] at h1;rw[Addr.add_lit,World.cell?_alloc_past (w:=w) _ b _ hb];obtain⟨c0,c1,c2,c3,c4⟩:=hr (j/5) (by omega);have b9:j%5=0\/j%5=1\/j%5=2\/j%5=3\/j%5=4:=by omega
    rcases b9 with e|e|e|e|e
    .rw[show off+j=off+j/5*5 by omega,c0];rw[e] at h1;simpa[Mem.cs] using h1.symm
    .rw[show off+j=off+j/5*5+1 by omega,c1];rw[e] at h1;simpa[Mem.cs] using h1.symm
    .rw[show off+j=off+j/5*5+2 by omega,c2];rw[e] at h1;simpa[Mem.cs] using h1.symm
    .rw[show off+j=off+j/5*5+3 by omega,c3];rw[e] at h1;simpa[Mem.cs] using h1.symm
    .rw[show off+j=off+j/5*5+4 by omega,c4];rw[e] at h1;simpa[Mem.cs] using h1.symm
  have HO:Hid ((w.alloc (AT #[] 50)).ownsRow w.heap.size 50 5 (J (AI ⟨w.heap.size,0,be⟩) 0 0) 0 []):=World.ownsRow_made w #[] 0 (Ic _) (by unfold Il;omega) rfl;clear h hs;go_enter Tryz.func57,Tryz.ntmps57;go_wp2_with (at_builtin;refine wpList_append_own _ rfl _ _ 34 rfl w.heap.size 50 i0 _ 5 48 JP fL dh gW gG rfl (by omega) _ 0 [] rfl HO.out a ms.length cap (fl ms) rfl (cP ms) hnews.out (gJ ms) (by unfold Il;omega) (by omega) (by simp) ?_);intro v' w' r1 r2 r3;go_wp2_with fail;go_ret;refine⟨v',rfl,?_,?_⟩
  .simpa using r1
  .exact((Ib _ _).alloc (Ic _) _).grown r2 (by simp) (λk hk=>by simp[Value.ownBlock] at hk;omega)
theorem jR(a b:List Mem)(va vb:Value)(pb cap:Nat)(w:World)(ha:Sl w va a)(hb:Sl w vb b)(hpb:pb<w.heap.size)(hc0:w.cell? ⟨pb,0,be⟩=AI va)(hc1:w.cell? ⟨pb,1,be⟩=AI vb) :
 Calls AS 165 #[J (AI ⟨pb,0,be⟩) 2 cap] w λe w'=>∃v',e=By (Ik #[v',U O (aE a b)])/\Below w.heap.size w w' /\
  (aE a b≠0->v'=J be 0 0)/\(aE a b=0->Own w.heap.size w' v' (av a b)):=by
 by_cases h0:aO a b=0
 .refine(kR a b va vb pb cap w ha hb hpb hc0 hc1 h0).mono ?_
  rintro e w' ⟨v',rfl,h1,h2,h3⟩;have hE:aE a b=if 20<(av a b).length then 2 else 0:=if_pos h0;refine⟨v',rfl,h1,λaM=>h2 ?_,λhz=>h3 ?_⟩
  .rw[hE] at aM;split at aM
   .assumption
   .exact absurd rfl aM
  .rw[hE] at hz;split at hz
   .cases hz
   .omega
 .refine(mL a b va vb pb cap w ha hb hpb hc0 hc1 h0).mono ?_
  rintro e w' ⟨rfl,h1⟩;have hE:aE a b=aO a b:=if_neg h0;exact⟨_,rfl,h1,λ_=>rfl,λhz=>absurd (hE▸hz) h0⟩
theorem H7(ms:List Mem)(m:Mem)(v:Value)(w:World)(hv:Sl w v ms)(hm:m.name.size<=Il) :
 Calls AS 106 #[v,Ij #[Y m.name,U O m.state,U O m.aI,U O m.addr,Ia m.server]] w λe w'=>∃(v':Value) (r:Bool),e=By (Ik #[v',Ia r,U O (aE ms [m])])/\Below w.heap.size w w' /\
  (aE ms [m]≠0->v'=J be 0 0/\r=false)/\(aE ms [m]=0->Own w.heap.size w' v' (aP ms m)/\(r=true↔aP ms m≠ms)):=by
 have HV:=hv;obtain⟨pa,ca,rfl,ns,_⟩:=hv;obtain⟨W,hW⟩:∃W,W=(((w.alloc (AT #[Y m.name,U O m.state,U O m.aI,U O m.addr,Ia m.server] 50)).alloc (AT #[Y m.name,U O m.state,U O m.aI,U O m.addr,Ia m.server] 50)).alloc (AT #[Y m.name,U O m.state,U O m.aI,U O m.addr,Ia m.server] 50)).alloc (AT #[J pa ms.length ca,J (AI ⟨w.heap.size+1+1,0,be⟩) 1 1] 34):=⟨_,rfl⟩;go_enter Tryz.func106,Tryz.ntmps106;go_wp2_with (go_at_call 166;refine(nu _ _ _ _ _ _).mono ?_;rintro e w' ⟨rfl,rfl⟩);obtain⟨M,hM⟩:∃M:Obj,M=AT #[Y m.name,U O m.state,U O m.aI,U O m.addr,Ia m.server] 50:=⟨_,rfl⟩;have bM:Below w.heap.size w W:=by rw[hW];exact((((Ib _ _).alloc (Ic _) _).alloc (by simp) _).alloc (by simp;omega) _).alloc (by simp;omega) _
 have Mn:W.heap.size=w.heap.size+1+1+1+1:=by rw[hW];simp
 have ji:W.heap[w.heap.size+1+1+1]?=AI (AT #[J pa ms.length ca,J (AI ⟨w.heap.size+1+1,0,be⟩) 1 1] 34 (0,0)):=by rw[hW];have:=Ih (((w.alloc M).alloc M).alloc M) (AT #[J pa ms.length ca,J (AI ⟨w.heap.size+1+1,0,be⟩) 1 1] 34);rw[hM] at this;simpa using this
 have dQ:W.heap[w.heap.size+1+1]?=AI (AT #[Y m.name,U O m.state,U O m.aI,U O m.addr,Ia m.server] 50 (0,0)):=by
  rw[hW,Below.heap_alloc _ _ _ (by simp)];have:=Ih ((w.alloc M).alloc M) M;rw[hM] at this;simpa using this
 rw[<- hW];refine(jR ms [m] (J pa ms.length ca) (J (AI ⟨w.heap.size+1+1,0,be⟩) 1 1) (w.heap.size+1+1+1) 2 W (HV.below bM) (oj W _ 1 m hm dQ) (by omega) (ae ji 0) (ae ji 1)).mono ?_;rintro e w2 ⟨v',rfl,h1,h2,h3⟩;have HB:Hid _:=bM.trans (h1.mono (by omega));have HV2:Hid (Sl _ _ _):=HV.below HB.out;have H2:Hid _:=h2;have H3:Hid (aE ms [m]=0->Own w.heap.size w2 v' (aP ms m)):=λh=>(h3 h).mono (by omega);clear h2 h3 h1 dQ ji Mn bM hW hM HV;rcases he:decide (aE ms [m]=0) with _|_
 .have kJ:(aE ms [m]!=0)=true:=by simpa using he
  have aM:Hid (aE ms [m]≠0):=(show aE ms [m]≠0 by simpa using he);clear he;go_wp2_with fail;go_ret3
  exact⟨_,false,rfl,HB.out,λ_=>⟨rfl,rfl⟩,λh=>absurd h aM.out⟩
 .have kJ:(aE ms [m]!=0)=false:=by simpa using he
  have hz:Hid (aE ms [m]=0):=(show aE ms [m]=0 by simpa using he);clear he;have HO:Hid (Own _ _ _ _):=H3.out hz.out;have Hd:bj ms=0:=by
   have h:=hz.out;unfold Hid aE aO at h;by_cases h1:bj ms=0
   .exact h1
   .rw[if_neg h1,if_neg h1] at h;exact absurd h h1
  have HC:Hid _:=Hd;clear Hd;have NS:Hid _:=pL (dw ns) hm;have hlen:Hid ((aP ms m).length<=1000):=by have h1:=kT ms m;have h2:=af HC.out;show(aP ms m).length<=1000;omega
  go_wp2_with (go_at_call 167;refine(EV (aP ms m) ms _ _ _ (bD HO.out NS.out) HV2.out hlen.out).mono ?_;rintro e w3 ⟨r,rfl,h5,h6⟩);go_ret3
  refine⟨v',!r,by rw[show aE ms [m]=0 from hz.out];rfl,HB.out.trans (h6.mono HB.out.size),λh=>absurd hz.out h,λ_=>⟨HO.out.below h6,?_⟩⟩;cases r
  .simp at h5;simpa using h5
  .simp at h5;simpa using h5
theorem kF(nm:ByteArray)(st lf ad:Int)(sv:Bool)(w:World) :
 Calls AS 212 #[Ij #[Y nm,U O st,U O lf,U O ad,Ia sv]] w λe w'=>e=By (Ia (decide (st=2)||decide (st=3)))/\w'=w.alloc (AT #[Y nm,U O st,U O lf,U O ad,Ia sv] 50):=by
 by_cases h:st=2
 .subst h
  go_enter Tryz.func212,Tryz.ntmps212;go_wp2;go_ret;exact⟨ba (by simp),rfl⟩
 .have h':(st==2)=false:=by simpa using h
  go_enter Tryz.func212,Tryz.ntmps212;go_wp2;go_ret;exact⟨ba (by rw[Bool.eq_iff_iff];simp[h]),rfl⟩
def cO(m:Mem):Mem:=⟨m.name,1,m.aI+1,m.addr,m.server⟩
theorem M6(ms:List Mem)(p:Nat)(hp:p<ms.length):((fl ms).set (p*5+1) (U O 1)).set (p*5+2) (U O ((ms.getD p dm).aI+1))=fl (ms.set p (cO (ms.getD p dm))):=by
 induction ms generalizing p with
 |nil=>simp at hp
 |cons x r ih=>
  cases p with
  |zero=>simp[fl,Mem.cs,cO]
  |succ p=>
   have L1:=ih p (by simpa using hp);rw[List.set_cons_succ,aZ,aZ,List.getD_cons_succ,<- L1];simp only[Nat.add_mul,Nat.one_mul];have e:∀(l:List Value) (k:Nat) (v:Value),(x.cs++l).set (k+5) v=x.cs++l.set k v:=λl k v=>by
    rw[List.set_append,if_neg (by rw[bB];omega),bB,Nat.add_sub_cancel]
   rw[show p*5+5+1=(p*5+1)+5 by omega,show p*5+5+2=(p*5+2)+5 by omega];rw[e,e]
theorem KD{base g c p:Nat}{W:World}{ms:List Mem}(h:Own base W (J (AI ⟨g,0,be⟩) ms.length c) ms)(hp:p<ms.length) :
 Own base ((W.setCell ⟨g,p*5+1,be⟩ (U O 1)).setCell ⟨g,p*5+2,be⟩ (U O ((ms.getD p dm).aI+1))) (J (AI ⟨g,0,be⟩) ms.length c) (ms.set p (cO (ms.getD p dm))):=by
 have h1:=IG h (p*5+1) (U O 1);have h2:=IG h1.1 (p*5+2) (U O ((ms.getD p dm).aI+1));have e:=h2.1;rw[M6 ms p hp] at e;show World.ownsRow _ _ _ _ _ (ms.set p (cO (ms.getD p dm))).length _;rw[List.length_set];exact e
theorem EY{nm:ByteArray}{st lf ad:Int}(h:uY nm st lf ad=0):bb nm=true/\(1<=st/\st<=4)/\(1<=lf/\lf<=1000000)/\(0<=ad/\ad<=4294967295):=by
 have hw:∀n a b:Int,within n a b=true->a<=n/\n<=b:=λn a b h=>by simpa[within] using h
 unfold uY at h;split at h
 .rename_i h1
  split at h
  .rename_i h2
   split at h
   .rename_i h3
    split at h
    .rename_i h4
     exact⟨h1,hw _ _ _ h2,hw _ _ _ h3,hw _ _ _ h4⟩
    .omega
   .omega
  .omega
 .omega
theorem bc:∀(ms:List Mem),aR ms=0->∀m∈ms,m.e=0
 |[],_,m,h=>by simp at h
 |x::r,h,m,hm=>by
  rw[aR] at h;split at h
  .rename_i h1
   rcases List.mem_cons.1 hm with rfl|hm
   .exact h1
   .exact bc r h m hm
  .rename_i h1;exact absurd h h1
theorem sW{ms:List Mem}(h:aR ms=0)(p:Nat)(hp:p<ms.length):(ms.getD p dm).e=0:=by
 have:=bc ms h ms[p] (List.getElem_mem hp);simpa[Ip,If hp] using this
def iT(ms:List Mem)(p:Nat)(f:Bool):Bool:=f&&(decide ((ms.getD p dm).state=2)||decide ((ms.getD p dm).state=3))&&!((ms.getD p dm).aI==1000000)
def jw(ms:List Mem)(p:Nat)(f:Bool):Int:=if f&&(decide ((ms.getD p dm).state=2)||decide ((ms.getD p dm).state=3))&&((ms.getD p dm).aI==1000000) then 3 else 0
def tu(ms:List Mem)(p:Nat)(f:Bool):List Mem:=if iT ms p f=true then ms.set p (cO (ms.getD p dm)) else ms
def M7(ms:List Mem)(p:Nat)(f:Bool)(w:World)(e:Ending)(w':World):Prop:=
 ∃v':Value,e=By (Ik #[v',Ia (iT ms p f),U O (jw ms p f)])/\Below w.heap.size w w'/\(jw ms p f≠0->v'=J be 0 0)/\(jw ms p f=0->Own w.heap.size w' v' (tu ms p f))
theorem zz(ms:List Mem)(v:Value)(me:ByteArray)(w:World)(hv:Sl w v ms)(h0:bj ms=0)(hs:me.size<=Il)(hl:bb me=true)(p:Nat)(f:Bool)(cv:At ms me p f) :
 Calls AS 169 #[v,Y me] w λe w'=>M7 ms p f w e w':=by
 have he:(bj ms !=0)=false:=by simpa using h0
 have hz:=af h0;have HN:Hid (∀x∈ms,x.name.size<=Il):=by obtain⟨a,c,_,hn,_⟩:=hv;exact dw hn
 have HV:Hid (Sl w v ms):=hv;have HM:Hid (bn ms):=hz.2.1;have hlen:=hz.1;have Ax:Hid _:=hz.2.2;have fS:Hid _:=cv;clear hv h0 hz cv;go_enter Tryz.func169,Tryz.ntmps169;go_wp2_with (first|(go_at_call 70;refine(bo ms _ _ HV.out).mono ?_;rintro e w1 ⟨rfl,aB⟩)|(go_at_call 53;refine(bR _ _ hs).mono ?_;rintro e w' ⟨rfl,rfl⟩;rw[hl]));refine(eU ms _ _ (HV.out.below aB) (by omega)).mono ?_;rintro e w2 ⟨kv,rfl,fA,aJ⟩;have gX:Hid (Own _ _ _ _):=fA.mono aB.size;have bp:Hid _:=aB.trans (aJ.mono aB.size);clear fA aJ aB;go_wp2_with fail;refine(ff ms _ ⟨me,0,0,0,false⟩ _ (bD gX.out HN.out) (by omega) HM.out).mono ?_;rintro e w3 ⟨p',f',rfl,bV,qD⟩;obtain⟨rfl,rfl⟩:=ey fS.out qD;have dY:Hid (Own _ _ _ _):=gX.out.below bV;have cj:Hid _:=bp.out.trans (bV.mono bp.out.size);clear qD bV gX bp;cases f with
 |false=>
  go_wp2_with fail;go_ret3
  exact⟨kv,rfl,cj.out,λh=>absurd rfl h,λ_=>dY.out⟩
 |true=>
  have hp:=(fS.out.is.1 rfl).1;have M8:=(EY (sW Ax.out p hp)).2.2.1;obtain⟨g,c,hkv⟩:∃g c,kv=J (AI ⟨g,0,be⟩) ms.length c:=by
   rcases dY.out.2 with⟨_,h0⟩|⟨g,c,cur,h,_⟩
   .omega
   .exact⟨g,c,h⟩
  subst hkv;have dn:=dY.out.lt g rfl;have rf:∀o,w3.frozen? ⟨g,o,be⟩=false:=λo=>I7 dY.out o;have Mw:=dn.2;obtain⟨b',ak0,DX,AW,cQ⟩:∃b off,(AI ⟨g,0,be⟩:Option Addr)=AI ⟨b,off,be⟩/\b<w3.heap.size/\Row w3 b off ms:=by
   obtain⟨a,cap,h1,_,h2⟩:=bD dY.out HN.out;simp only[Value.slice.injEq] at h1;obtain⟨rfl,_⟩:=h1;rcases h2 with h2|h2
   .rw[h2] at hp;simp at hp
   .exact h2
  simp only[Option.some.injEq,Addr.mk.injEq,and_true] at DX;obtain⟨rfl,rfl⟩:=DX;obtain⟨c0,c1,c2,c3,c4⟩:=cQ p hp;clear cQ AW;simp only[IC] at c0 c1 c2 c3 c4;generalize hm:ms.getD p dm=m2 at *;have Hm:Hid _:=hm;clear hm;obtain⟨n2,s2,l2,a2,v2⟩:=m2;simp only at c0 c1 c2 c3 c4 M8;obtain⟨ak1,ak2⟩:=M8;rcases hd:(decide (s2=2)||decide (s2=3)) with _|_
  .go_wp2_with (go_at_call 212;refine(kF _ _ _ _ _ _).mono ?_;rintro e w' ⟨rfl,rfl⟩;rw[hd])
   go_ret3
   have e1:iT ms p true=false:=by unfold iT;rw[Hm.out];simp only[hd];rfl
   have e2:jw ms p true=0:=by unfold jw;rw[Hm.out];simp only[hd];rfl
   refine⟨J (AI ⟨g,0,be⟩) ms.length c,by rw[e1,e2];rfl,cj.out.alloc cj.out.size _,λh=>absurd e2 h,λ_=>?_⟩;rw[tu,e1,if_neg (by simp)];exact dY.out.below ((Ib _ _).alloc (Ic _) _)
  .rcases mB:((l2:Int)==1000000) with _|_
   .have e1:iT ms p true=true:=by unfold iT;rw[Hm.out];simp only[hd,mB];rfl
    have e2:jw ms p true=0:=by unfold jw;rw[Hm.out];simp only[hd,mB];rfl
    have E1:Hid _:=e1;have E2:Hid _:=e2;clear e1 e2;have HS:=KD dY.out hp;rw[Hm.out] at HS;have TY:Hid (Own _ _ _ _):=HS;clear HS;go_wp2_with (go_at_call 212;refine(kF _ _ _ _ _ _).mono ?_;rintro e w' ⟨rfl,rfl⟩;rw[hd]);go_ret3
    refine⟨J (AI ⟨g,0,be⟩) ms.length c,by rw[E1.out,E2.out];rfl,?_,λh=>absurd E2.out h,λ_=>?_⟩
    .have hB2:=(cj.out.setCell (p:=⟨g,p*5+1,be⟩) dn.1 (U O 1)).setCell (p:=⟨g,p*5+2,be⟩) dn.1 (U O (l2+1))
     exact hB2.alloc (by have:=cj.out.size;simpa using this) _
    .rw[tu,if_pos E1.out,Hm.out]
     exact TY.out.below ((Ib _ _).alloc (Ic _) _)
   .have E1:Hid (iT ms p true=false):=(show iT ms p true=false by unfold iT;rw[Hm.out];simp only[hd,mB];rfl)
    have E2:Hid (jw ms p true=3):=(show jw ms p true=3 by unfold jw;rw[Hm.out];simp only[hd,mB];rfl);go_wp2_with (go_at_call 212;refine(kF _ _ _ _ _ _).mono ?_;rintro e w' ⟨rfl,rfl⟩;rw[hd]);go_ret3
    exact⟨J be 0 0,by rw[E1.out,E2.out];rfl,cj.out.alloc cj.out.size _,λ_=>rfl,λh=>by rw[E2.out] at h;cases h⟩
end Go.Proofs.YtfidhgjmifendaaGreatDoor
namespace Go.Proofs.YtfidhgjmifendaaGreatDoor
open Go.RowKit Go.WideMaps Go.Maps
structure bL where
 m:Mem
 told:Int
def dr:bL:=⟨dm,0⟩
def mK(w:World)(b off:Nat)(rs:List bL):Prop:=∀j,j<rs.length ->
 w.cell? ⟨b,off+j*6,be⟩=AI (Y (rs.getD j dr).m.name)/\w.cell? ⟨b,off+j*6+1,be⟩=AI (U O (rs.getD j dr).m.state) /\
 w.cell? ⟨b,off+j*6+2,be⟩=AI (U O (rs.getD j dr).m.aI)/\w.cell? ⟨b,off+j*6+3,be⟩=AI (U O (rs.getD j dr).m.addr) /\
 w.cell? ⟨b,off+j*6+4,be⟩=AI (Ia (rs.getD j dr).m.server)/\w.cell? ⟨b,off+j*6+5,be⟩=AI (U O (rs.getD j dr).told)
theorem mK.below{w w':World}{b off B:Nat}{rs:List bL}(h:mK w b off rs)(hb:Below B w w')(hB:b<B):mK w' b off rs:=λk hk=>by
 obtain⟨h0,h1,h2,h3,h4,h5⟩:=h k hk;exact⟨by rw[hb.cell hB];exact h0,by rw[hb.cell hB];exact h1,by rw[hb.cell hB];exact h2,by rw[hb.cell hB];exact h3,by rw[hb.cell hB];exact h4,by rw[hb.cell hB];exact h5⟩
def mJ(w:World)(v:Value)(rs:List bL):Prop:=
 ∃(a:Option Addr) (cap:Nat),v=J a rs.length cap/\(∀j,(rs.getD j dr).m.name.size<=Il) /\
  (rs=[]\/∃b off,a=AI ⟨b,off,be⟩/\b<w.heap.size/\mK w b off rs)
theorem mJ.below{w w':World}{v:Value}{rs:List bL}(h:mJ w v rs)(hb:Below w.heap.size w w'):mJ w' v rs:=by
 obtain⟨a,c,hv,hn,h⟩:=h;refine⟨a,c,hv,hn,?_⟩;rcases h with h|⟨b,off,ha,aW,hr⟩
 .exact .inl h
 .exact .inr ⟨b,off,ha,IN aW hb.size,hr.below hb aW⟩
def eX(rs:List bL):List ByteArray:=rs.map (·.m.name)
theorem dD(rs:List bL)(k:Nat):(eX rs).getD k Iv=(rs.getD k dr).m.name:=by
 by_cases h:k<rs.length
 .simp[eX,Ip,If h]
 .simp[eX,Ip,IZ (by omega:rs.length<=k),dr,dm]
theorem DM:Keyed AS 9:=string_keyed Ja
theorem AK(w:World):(zeroValue 3).run AS w=.ok (U O 0) w:=by kernel_rfl
theorem ja(n:Int)(w:World):(Instr.makeMap 125 (AI (U O n))).run AS w=.ok (.map (AI w.heap.size)) (w.alloc (.map #[] 0)):=by
 have h:=run_underlying Jz;simp[Instr.makeMap,h,asInt,newObj];rfl
theorem pd(rs:List bL)(v:Value)(w:World)(hv:mJ w v rs)(hn:rs.length<=1000) :
 Calls AS 126 #[v] w λe w'=>e=By (.map (AI w.heap.size))/\w'.ownsMap AS 9 (O7 (H:=Unit) AS 3) w.heap.size rs.length (Dm (eX rs) rs.length)/\Below w.heap.size w w':=by
 obtain⟨pa,ca,rfl,cF,ha⟩:=hv;have HA:Hid _:=ha;have HS:Hid _:=cF;clear ha cF;generalize hN:rs.length=n at *;have HN:Hid _:=hN;clear hN;have GA:=ja;go_enter Tryz.func126,Tryz.ntmps126;go_wp2;go_loopw [11] (λi wr=>∃k:Nat,k<=n/\i=U O k/\Hid (wr.ownsMap AS 9 (O7 (H:=Unit) AS 3) w.heap.size k (Dm (eX rs) k))/\Hid (Below w.heap.size w wr))
  (λi _=>n-(intOf i).toNat)
 case atStart=>exact⟨0,II _,rfl,World.ownsMap_made _ _ _ _,(Ib _ _).alloc (Ic _) _⟩
 case round=>
  obtain⟨k,hk,rfl,HO,HB⟩:=hrel;by_cases aW:k<n
  .obtain⟨b,off,hp,hl,hr⟩:∃b off,pa=AI ⟨b,off,be⟩/\b<w.heap.size/\mK w b off rs:=by
    rcases HA.out with h|h
    .have:=HN.out;rw[h] at this;simp at this;omega
    .exact h
   subst hp;obtain⟨c0,c1,c2,c3,c4,c5⟩:=hr.below HB.out hl k (by rw[HN.out];exact aW);have yL:=keyOf_string_mk Ja (HS.out k);have sI:Hid (∀w1:World,w1.ownsMap AS 9 (O7 (H:=Unit) AS 3) w.heap.size (k+1) ((Dm (eX rs) k).put (kS (rs.getD k dr).m.name) (.lit (.int O k)))->w1.ownsMap AS 9 (O7 (H:=Unit) AS 3) w.heap.size (k+1) (Dm (eX rs) (k+1))):=λw1 h=>by
    rw[Dm,dD];exact h
   generalize(rs.getD k dr)=rk at *;obtain⟨⟨nm,st,lf,ad,sv⟩,td⟩:=rk;simp only at c0 c1 c2 c3 c4 c5 yL sI;clear hr;go_wp2_with (first
    |(at_mapUpdate;refine wpList_mapUpdate_own _ rfl _ _ _ 125 rfl 9 3 DM Jz _ w.heap.size k _ rfl (HO.out.alloc _) (by unfold Il;omega) _ _ _ rfl rfl yL _ [] (plainElem_int ID (WalkArith.wf_i64 (by omega))) ?_)
    |fail)
   intro w1 yU KE;have R1:Hid (w1.ownsMap _ _ _ _ _ _):=sI.out w1 yU;have R2:Hid _:=(HB.out.alloc HB.out.size _).grown KE (by have:=HB.out.size;simp;omega) (λj hj=>by cases hj;exact Ic _);clear yU KE HO HB c0 c1 c2 c3 c4 c5 sI;go_wp2_with fail;go_roundw
   case rel=>exact⟨k+1,by omega,by go_num,R1,R2⟩
   case measure=>simp[intOf];omega
  .have fQ:k=n:=by omega
   subst fQ;go_wp2_with fail;go_ret;exact⟨rfl,HO.out,HB.out⟩
theorem jL(m:Mem):bj [m]=m.e:=by
 unfold bj;by_cases h:m.e=0
 .simp[aR,h,aL]
 .simp[aR,h]
theorem cT{W:World}{cs:Array Value}{t:TypeId}{g k:Nat}(hg:g=W.heap.size):(W.alloc (AT cs t)).cell? ⟨g,k,be⟩=cs[k]?:=by subst hg;simp
theorem eR(m:Mem)(w:World)(hs:m.name.size<=Il) :
 Calls AS 125 #[Ij #[Y m.name,U O m.state,U O m.aI,U O m.addr,Ia m.server]] w λe w'=>e=By (U O m.e)/\Below w.heap.size w w':=by
 go_enter Tryz.func125,Tryz.ntmps125;go_wp2_with fail;refine(bo [m] _ _ ⟨_,_,rfl,cB (by simpa using hs),.inr ⟨w.heap.size+1,0,rfl,by simp,?_⟩⟩).mono ?_
 .intro j hj
  have:j=0:=by simpa using hj
  subst this;exact⟨cT (by simp),cT (by simp),cT (by simp),cT (by simp),cT (by simp)⟩
 rintro e w1 ⟨rfl,aB⟩;have HB:Hid _:=(((Ib _ _).alloc (Ic _) _).alloc (by simp) _).trans (aB.mono (by simp;omega));clear aB;rw[jL];go_wp2_with fail;go_ret;exact⟨rfl,HB.out⟩
def dJ(rs:List bL):Prop:=∀i j,i<j->j<rs.length->(rs.getD i dr).m.name≠(rs.getD j dr).m.name
def gR(rs:List bL):List Mem:=rs.map (·.m)
theorem kQ(rs:List bL)(k:Nat):(gR rs).getD k dm=(rs.getD k dr).m:=by
 by_cases h:k<rs.length
 .simp[gR,Ip,If h]
 .simp[gR,Ip,IZ (by omega:rs.length<=k),dr]
theorem kP(rs:List bL):(gR rs).length=rs.length:=by simp[gR]
def gQ(rs:List bL):Prop:=∀j,j<rs.length->within (rs.getD j dr).told 0 100=true
theorem zL(rs:List bL):((JD rs.length).all λj=>within (rs.getD j dr).told 0 100)=true↔gQ rs:=by
 unfold gQ;simp only[OK,List.mem_range]
theorem xN(rs:List bL):((JD rs.length).all λj=>(JD j).all λi=>decide ((rs.getD i dr).m.name≠(rs.getD j dr).m.name))=true↔dJ rs:=by
 unfold dJ;simp only[OK,List.mem_range,decide_eq_true_eq];exact⟨λh i j hi hj=>h j hj i hi,λh j hj i hi=>h i j hi hj⟩
def dW(rs:List bL):Int:=
 if 20<rs.length then 2 else if aR (gR rs)=0 then(@ite _ (gQ rs) (decidable_of_iff _ (zL rs)) (@ite _ (dJ rs) (decidable_of_iff _ (xN rs)) 0 6) 3) else aR (gR rs)
theorem vX{rs:List bL}(h:20<rs.length):dW rs=2:=by unfold dW;rw[if_pos h]
theorem KF{rs:List bL}{k:Nat}(hn:rs.length<=20)(hk:k<rs.length)(hz:∀j,j<k->(rs.getD j dr).m.e=0)(aM:(rs.getD k dr).m.e≠0):dW rs=(rs.getD k dr).m.e:=by
 have h:=dU (gR rs) k (by rw[kP];exact hk) (λj hj=>by rw[kQ];exact hz j hj) (by rw[kQ];exact aM);rw[kQ] at h;unfold dW;rw[if_neg (by omega),if_neg (by rw[h];exact aM),h]
theorem mX{rs:List bL}(hz:∀j,j<rs.length->(rs.getD j dr).m.e=0):aR (gR rs)=0:=
 cE _ (λj hj=>by rw[kQ];exact hz j (by rw[kP] at hj;exact hj))
theorem EZ{rs:List bL}{k:Nat}(hn:rs.length<=20)(hz:∀j,j<rs.length->(rs.getD j dr).m.e=0)(hk:k<rs.length)(aM:within (rs.getD k dr).told 0 100=false):dW rs=3:=by
 unfold dW;rw[if_neg (by omega),if_pos (mX hz),if_neg];intro h;rw[h k hk] at aM;cases aM
theorem BU{rs:List bL}(hn:rs.length<=20)(hz:∀j,j<rs.length->(rs.getD j dr).m.e=0)(ht:gQ rs)(hd:¬ dJ rs):dW rs=6:=by
 unfold dW;rw[if_neg (by omega),if_pos (mX hz),if_pos ht,if_neg hd]
theorem xq{rs:List bL}(hn:rs.length<=20)(hz:∀j,j<rs.length->(rs.getD j dr).m.e=0)(ht:gQ rs)(hd:dJ rs):dW rs=0:=by
 unfold dW;rw[if_neg (by omega),if_pos (mX hz),if_pos ht,if_pos hd]
theorem WJ{rs:List bL}(hd:¬ dJ rs):JB (Dm (eX rs) rs.length)<rs.length:=by
 apply lv;apply Classical.byContradiction;intro h;apply hd;intro i j iY hj e;exact h ⟨i,j,iY,hj,by rw[dD,dD];exact e⟩
theorem WK{rs:List bL}(hd:dJ rs):JB (Dm (eX rs) rs.length)=rs.length:=
 lz _ _ (λi j iY hj=>by rw[dD,dD];exact hd i j iY hj)
theorem fW(rs:List bL)(v:Value)(w:World)(hv:mJ w v rs) :
 Calls AS 72 #[v] w λe w'=>e=By (U O (dW rs))/\Below w.heap.size w w':=by
 have HV:Hid (mJ w v rs):=hv;obtain⟨pa,ca,rfl,cF,ha⟩:=hv;by_cases hmany:20<rs.length
 .have HE:Hid _:=vX hmany
  go_enter Tryz.func72,Tryz.ntmps72;go_wp2_with fail;go_ret;exact⟨ai HE.out.symm,Ib _ _⟩
 have HA:Hid _:=ha;have HS:Hid _:=cF;clear ha cF;generalize hN:rs.length=n at *;have HN:Hid _:=hN;clear hN;have A7:n<=20:=by omega
 go_enter Tryz.func72,Tryz.ntmps72;go_wp2;go_loopw [13] (λi wr=>∃k:Nat,k<=n/\i=U O k/\Hid (∀j,j<k->(rs.getD j dr).m.e=0)/\Hid (Below w.heap.size w wr))
  (λi _=>n-(intOf i).toNat)
 case atStart=>exact⟨0,II _,rfl,λj hj=>by omega,Ib _ _⟩
 case round=>
  obtain⟨k,hk,rfl,HZ,HB⟩:=hrel;by_cases aW:k<n
  .obtain⟨b,off,hp,hl,hr⟩:∃b off,pa=AI ⟨b,off,be⟩/\b<w.heap.size/\mK w b off rs:=by
    rcases HA.out with h|h
    .have:=HN.out;rw[h] at this;simp at this;omega
    .exact h
   subst hp;obtain⟨c0,c1,c2,c3,c4,c5⟩:=hr.below HB.out hl k (by rw[HN.out];exact aW);have cV:=HS.out k;have HX:Hid ((rs.getD k dr).m.e≠0->dW rs=(rs.getD k dr).m.e):=λh=>KF (by rw[HN.out];exact A7) (by rw[HN.out];exact aW) HZ.out h;have lB:Hid ((rs.getD k dr).m.e=0->∀j,j<k+1->(rs.getD j dr).m.e=0):=λh j hj=>by
    by_cases e:j=k
    .subst e;exact h
    .exact HZ.out j (by omega)
   generalize(rs.getD k dr)=rk at *;obtain⟨⟨nm,st,lf,ad,sv⟩,td⟩:=rk;simp only at c0 c1 c2 c3 c4 c5 cV HX lB;clear hr HZ;go_wp2_with fail;refine(eR ⟨nm,st,lf,ad,sv⟩ _ cV).mono ?_;rintro e w1 ⟨rfl,aB⟩;have aV:Hid _:=(HB.out.alloc HB.out.size _).trans (aB.mono (by have:=HB.out.size;simp;omega));clear aB c0 c1 c2 c3 c4 c5 HB;by_cases he:(Mem.mk nm st lf ad sv).e=0
   .have kJ:((Mem.mk nm st lf ad sv).e !=0)=false:=by simpa using he
    have qg:Hid _:=lB.out he;clear HX lB he;go_wp2_with fail;go_roundw
    case rel=>exact⟨k+1,by omega,by go_num,qg,aV⟩
    case measure=>simp[intOf];omega
   .have kJ:((Mem.mk nm st lf ad sv).e !=0)=true:=by simpa using he
    have HE:Hid _:=HX.out he;clear HX lB he;go_wp2_with fail;go_ret;exact⟨ai HE.out.symm,aV.out⟩
  .have HZA:Hid (∀j,j<rs.length->(rs.getD j dr).m.e=0):=λj hj=>HZ.out j (by rw[HN.out] at hj;omega)
   clear HZ;go_wp2_with fail;go_loopw [26] (λi wr=>∃k:Nat,k<=n/\i=U O k/\Hid (∀j,j<k->within (rs.getD j dr).told 0 100=true)/\Hid (Below w.heap.size w wr))
    (λi _=>n-(intOf i).toNat)
   case atStart=>exact⟨0,II _,rfl,λj hj=>by omega,HB⟩
   case round=>
    clear HB aW hk;obtain⟨k2,hk,rfl,HZ,HB⟩:=hrel;by_cases aW:k2<n
    .obtain⟨b,off,hp,hl,hr⟩:∃b off,pa=AI ⟨b,off,be⟩/\b<w.heap.size/\mK w b off rs:=by
      rcases HA.out with h|h
      .have:=HN.out;rw[h] at this;simp at this;omega
      .exact h
     subst hp;obtain⟨c0,c1,c2,c3,c4,c5⟩:=hr.below HB.out hl k2 (by rw[HN.out];exact aW);have HX:Hid (within (rs.getD k2 dr).told 0 100=false->dW rs=3):=λh=>EZ (by rw[HN.out];exact A7) HZA.out (by rw[HN.out];exact aW) h;have lB:Hid (within (rs.getD k2 dr).told 0 100=true->∀j,j<k2+1->within (rs.getD j dr).told 0 100=true):=λh j hj=>by
      by_cases e:j=k2
      .subst e;exact h
      .exact HZ.out j (by omega)
     generalize(rs.getD k2 dr)=rk at *;obtain⟨⟨nm,st,lf,ad,sv⟩,td⟩:=rk;simp only at c0 c1 c2 c3 c4 c5 HX lB;clear hr HZ;rcases ht:within td 0 100 with _|_
     .have HE:Hid _:=HX.out ht
      clear HX lB;go_wp2_with (go_at_call 54;refine(cy _ _ _ _).mono ?_;rintro e w' ⟨rfl,rfl⟩;rw[ht]);go_ret;exact⟨ai HE.out.symm,HB.out.alloc HB.out.size _⟩
     .have qg:Hid _:=lB.out ht
      clear HX lB;go_wp2_with (go_at_call 54;refine(cy _ _ _ _).mono ?_;rintro e w' ⟨rfl,rfl⟩;rw[ht]);go_roundw
      case rel=>exact⟨k2+1,by omega,by go_num,qg,HB.out.alloc HB.out.size _⟩
      case measure=>simp[intOf];omega
    .have HTA:Hid (gQ rs):=λj hj=>HZ.out j (by rw[HN.out] at hj;omega)
     clear HZ;go_wp2_with fail;refine(pd rs _ _ (HV.out.below HB.out) (by rw[HN.out];omega)).mono ?_;rintro e w1 ⟨rfl,hown,aB⟩;have HO:Hid (w1.ownsMap _ _ _ _ _ _):=hown;have aV:Hid _:=HB.out.trans (aB.mono HB.out.size);clear hown aB;have DK:(JB (Dm (eX rs) rs.length):Nat)<=n:=by rw[<- HN.out];exact oH _ _
     by_cases hd:dJ rs
     .have HE:Hid _:=xq (by rw[HN.out];exact A7) HZA.out HTA.out hd
      have HSZ:¬ ((JB (Dm (eX rs) rs.length):Nat):Int)<n:=by rw[WK hd,HN.out];omega
      go_wp2_with (at_len;refine wpList_len_own _ rfl _ 125 rfl 9 3 Jz _ _ _ _ rfl HO.out ?_);go_ret;exact⟨ai HE.out.symm,aV.out⟩
     .have HE:Hid _:=BU (by rw[HN.out];exact A7) HZA.out HTA.out hd
      have HSZ:((JB (Dm (eX rs) rs.length):Nat):Int)<n:=by have:=WJ hd;have:=HN.out;omega
      go_wp2_with (at_len;refine wpList_len_own _ rfl _ 125 rfl 9 3 Jz _ _ _ _ rfl HO.out ?_);go_ret;exact⟨ai HE.out.symm,aV.out⟩
end Go.Proofs.YtfidhgjmifendaaGreatDoor
