import Derived.Test.YtfidhgjmifendaaGreatDoorns3
set_option maxHeartbeats 4000000
set_option maxRecDepth 100000
open Go.IntKind renaming i64→O
open ByteArray renaming empty→Iv
open Go.Maps renaming has→QK,size→JC
open Go.Value renaming agg→Ij,string→Y,int→U,bool→Ia,slice→J,func→IT,tuple→Ik
open Go.Ending renaming returned→AT
open Go.RowKit.Below renaming refl→Ib
open Nat renaming le_refl→Ic,not_lt_zero→Jv,lt_succ_iff_lt_or_eq→Jh,zero_le→IP,zero_add→IC,lt_of_lt_of_le→IL
open Option renaming some→AI,none→be
open Go.Proofs.Tryz renaming prog→AS,underlying3→ID,underlying9→Jb,underlying34→JP,underlying125→JA
open Go.Sort renaming grow→Im
open Go renaming redrawn→Iz,Regrown→JT,wp_region_quiet_below→IG,maxLen→Il,heap_alloc_new→Ih,plainElem→O6
open Go.Calls renaming regrown_of→IZ
open Go.Obj renaming cells→By
open Go.World.ownsRow renaming frozenAt→I7,stored→II
open List renaming getD→Ip,getElem?_eq_getElem→If
namespace Go.Proofs.YtfidhgjmifendaaGreatDoor
open Go.RowKit Go.WideMaps Go.Maps
abbrev kS(s:ByteArray):Lit:=.string s.data.toList
theorem oC(s:ByteArray):WideAt.IsKeyLit (kS s):=by simp[WideAt.IsKeyLit]
theorem zd{a b:ByteArray}(h:a≠b):kS a≠kS b:=λe=>h (by
 have h2:a.data.toList=b.data.toList:=by injection e
 obtain⟨⟨a⟩⟩:=a;obtain⟨⟨b⟩⟩:=b;simp at h2;rw[h2])
def Dm(ns:List ByteArray):Nat->DataW Unit
 |0=>.map []
 |k+1=>(Dm ns k).put (kS (ns.getD k Iv)) (.lit (.int O k))
theorem pN(ns:List ByteArray):∀k,Tidy (Dm ns k)
 |0=>tidy_empty
 |k+1=>(pN ns k).put (oC _) _
theorem qV(ns:List ByteArray)(s:ByteArray):∀k,QK (Dm ns k) (kS s)=true↔∃j,j<k/\ns.getD j Iv=s
 |0=>by simp[Dm,QK]
 |k+1=>by
  by_cases h:ns.getD k Iv=s
  .subst h
   rw[Dm,has_put_same (pN ns k).isMap (oC _)];exact⟨λ_=>⟨k,by omega,rfl⟩,λ_=>rfl⟩
  .rw[Dm,has_put_other (zd (Ne.symm h)),qV ns s k]
   constructor
   .rintro⟨j,hj,e⟩;exact⟨j,by omega,e⟩
   .rintro⟨j,hj,e⟩
    by_cases Ms:j=k
    .subst Ms;exact absurd e h
    .exact⟨j,by omega,e⟩
theorem sI(ns:List ByteArray)(k:Nat):JC (Dm ns (k+1))=if QK (Dm ns k) (kS (ns.getD k Iv))=true then JC (Dm ns k) else JC (Dm ns k)+1:=by
 rw[Dm,size_put (pN ns k)]
theorem pd(ns:List ByteArray):∀k,JC (Dm ns k)<=k
 |0=>by simp[Dm,JC]
 |k+1=>by
  have:=pd ns k;rw[sI];split<;>omega
theorem lN(ns:List ByteArray):∀k,(∀i j,i<j->j<k->ns.getD i Iv≠ns.getD j Iv)->JC (Dm ns k)=k
 |0,_=>by simp[Dm,JC]
 |k+1,h=>by
  have h1:=lN ns k (λi j hi hj=>h i j hi (by omega));have h2:¬ QK (Dm ns k) (kS (ns.getD k Iv))=true:=by
   rw[qV];rintro⟨j,hj,e⟩;exact h j k hj (by omega) e
  rw[sI,if_neg h2,h1]
theorem lM(ns:List ByteArray):∀k,(∃i j,i<j/\j<k/\ns.getD i Iv=ns.getD j Iv)->JC (Dm ns k)<k
 |0,⟨i,j,_,hj,_⟩=>by omega
 |k+1,⟨i,j,iS,hj,e⟩=>by
  rw[sI];by_cases Ms:j=k
  .subst Ms
   rw[if_pos ((qV ns _ j).2 ⟨i,iS,e⟩)];have:=pd ns j;omega
  .have:=lM ns k ⟨i,j,iS,by omega,e⟩
   split<;>omega
theorem Hv(ns:List ByteArray)(s:ByteArray)(z:DataW Unit):∀k j,j<k->ns.getD j Iv=s->(∀i,j<i->i<k->ns.getD i Iv≠s)->(Dm ns k).atKey (kS s) z=.lit (.int O j)
 |0,j,hj,_,_=>by omega
 |k+1,j,hj,e,h=>by
  by_cases Ms:j=k
  .subst Ms
   subst e;rw[Dm,atKey_put_same (pN ns j).isMap (oC _)]
  .rw[Dm,atKey_put_other (zd (λx=>h k (by omega) (by omega) x.symm))]
   exact Hv ns s z k j (by omega) e (λi hi hk=>h i hi (by omega))
end Go.Proofs.YtfidhgjmifendaaGreatDoor
namespace Go.Proofs.YtfidhgjmifendaaGreatDoor
open Go.RowKit
theorem dt(a b:Mem)(w:World) :
 aI 122 #[Ij #[Y a.name,U O a.state,U O a.aJ,U O a.addr,Ia a.server],Ij #[Y b.name,U O b.state,U O b.aJ,U O b.addr,Ia b.server]] w λe w'=>e=AT (U O (bR a.name b.name))/\Below w.heap.size w w':=by
 go_enter Tryz.func122,Tryz.ntmps122;go_wp2_with (go_at_call 49;refine(gE _ _ _).mono ?_;rintro e w' ⟨rfl,rfl⟩);go_ret;exact⟨rfl,((Ib _ _).alloc (Ic _) _).alloc (by simp) _⟩
theorem gu(a b:Mem)(w:World) :
 aI 208 #[Ij #[Y a.name,U O a.state,U O a.aJ,U O a.addr,Ia a.server],Ij #[Y b.name,U O b.state,U O b.aJ,U O b.addr,Ia b.server]] w λe w'=>e=AT (Ia (eb a b))/\Below w.heap.size w w':=by
 refine(vV a.name b.name a.state a.aJ a.addr a.server b.state b.aJ b.addr b.server w).mono ?_;rintro e w' ⟨rfl,rfl⟩;exact⟨rfl,((Ib _ _).alloc (Ic _) _).alloc (by simp) _⟩
theorem jQ(ms:List Mem)(b off cap:Nat)(w:World)(hr:Row w b off ms)(hb:b<w.heap.size)(hn:ms.length<=20) :
 Calls AS 121 #[J (AI ⟨b,off,be⟩) ms.length cap,IT (.func 122) #[] #[]] w λe w'=>e=AT (Ia (aM ms))/\Below w.heap.size w w':=by
 have HR:Hid (Row w b off ms):=hr;clear hr;have H4:Hid (∀k,k+1<ms.length->0<=bR (ms.getD k dm).name (ms.getD (k+1) dm).name->aM ms=false):=λk hk hl=>by
  rcases h:aM ms with _|_
  .rfl
  .have:=fE ms h k hk;omega
 have H0:Hid ((∀j,j+1<ms.length->bR (ms.getD j dm).name (ms.getD (j+1) dm).name<0)->aM ms=true):=fD ms;generalize hN:ms.length=n at *;have HN:Hid (ms.length=n):=hN;clear hN;generalize hC:aM ms=res at *;have HC:Hid (aM ms=res):=hC;clear hC;go_enter Tryz.func121,Tryz.ntmps121;go_wp2_with fail;go_loopw [5] (λi w'=>∃k:Nat,(k+1<=n\/k=0)/\i=U O (k+1)/\Below w.heap.size w w'/\Hid (∀j,j<k->bR (ms.getD j dm).name (ms.getD (j+1) dm).name<0)) (λi _=>n-(intOf i).toNat)
 case atStart=>exact⟨0,.inr rfl,rfl,Ib _ _,λj h=>absurd h (Jv _)⟩
 case round=>
  obtain⟨q,hq,rfl,aR,hz⟩:=hrel;obtain⟨eM,nQ⟩:=cC aR;have cI:=aR.size;by_cases aX:q+1<n
  .have F:=((HR.out q (by rw[HN.out];omega)).eq (λo=>eM b o hb)).re
   have G:=((HR.out (q+1) (by rw[HN.out];exact aX)).eq (λo=>eM b o hb)).re;have HK:Hid (0<=bR (ms.getD q dm).name (ms.getD (q+1) dm).name->res=false):=λh=>H4.out q aX h;have HZ:Hid (bR (ms.getD q dm).name (ms.getD (q+1) dm).name<0->∀j,j<q+1->bR (ms.getD j dm).name (ms.getD (j+1) dm).name<0):=λh j hj=>by
    rcases Jh.1 hj with h2|rfl
    .exact hz.out j h2
    .exact h
   generalize ms.getD q dm=m1 at *;generalize ms.getD (q+1) dm=m2 at *;have hN:∀d os,Calls AS 122 #[Ij #[Y m1.name,U O m1.state,U O m1.aJ,U O m1.addr,Ia m1.server],Ij #[Y m2.name,U O m2.state,U O m2.aJ,U O m2.addr,Ia m2.server]] (Im (Iz wr d) os) λe fT=>e=AT (U O (bR m1.name m2.name))/\∃p:JT,fT=Im (Iz wr p.d) p.os:=λd os=>IZ (dt m1 m2 _);simp only[As] at F G;clear eM nQ;generalize bR m1.name m2.name=r at *;have GQ:IntKind.i64.wrap (q:Int)=(q:Int):=by rw[IntKind.wrap_i64];omega
   have EF:q<n:=by omega
   have hq1:(q:Int)+1<(n:Int):=by omega
   have hq0:(0:Int)<=(q:Int)+1:=by omega
   have Et:((q:Int)+1).toNat=q+1:=by omega
   go_wp2_with fail;refine IG (by kernel_rfl) (by kernel_rfl) ?_;repeat(quiet_step (exact hN _ _))
   refine bM λdq jL ee=>?_;clear hN F G;by_cases hl:r<0
   .have mJ:¬ (0<=r):=by omega
    go_wp2_with fail;go_roundw
    case rel=>exact⟨q+1,.inl (by omega),by go_num,aR.trans (ee.out.mono cI),HZ.out hl⟩
    case measure=>simp[intOf];omega
   .have mJ:0<=r:=by omega
    have h4:Hid (res=false):=HK.out mJ;go_wp2_with fail;go_ret;exact⟨aW h4.out.symm,aR.trans (ee.out.mono cI)⟩
  .have h0:Hid (res=true):=H0.out λj hj=>hz.out j (by omega)
   go_wp2_with fail;go_ret;exact⟨aW h0.out.symm,aR⟩
theorem gz(a:Option Addr)(cap:Nat)(fv:Value)(w:World) :
 Calls AS 121 #[J a 0 cap,fv] w λe w'=>e=AT (Ia true)/\w'=w:=by
 go_enter Tryz.func121,Tryz.ntmps121;go_wp2_with fail;go_loop [5] (λi=>i=U O 1) (λ_=>0)
 case atStart=>rfl
 case round=>
  subst hrel;go_wp2_with fail;go_ret;exact⟨rfl,rfl⟩
theorem gA(ms:List Mem)(b off cap:Nat)(lk:Mem)(w:World)(hr:Row w b off ms)(hb:b<w.heap.size)(hn:ms.length<=40)(ij:∀i j,i<=j->j<ms.length->bR (ms.getD j dm).name lk.name<0->bR (ms.getD i dm).name lk.name<0) :
 Calls AS 243 #[J (AI ⟨b,off,be⟩) ms.length cap,Ij #[Y lk.name,U O lk.state,U O lk.aJ,U O lk.addr,Ia lk.server],IT (.func 122) #[] #[]] w λe w'=>∃(p:Nat) (f:Bool),e=AT (Ik #[U O p,Ia f])/\Below w.heap.size w w' /\
  p<=ms.length/\(∀j,j<p->bR (ms.getD j dm).name lk.name<0)/\(∀j,p<=j->j<ms.length->0<=bR (ms.getD j dm).name lk.name)/\(f=true↔p<ms.length/\bR (ms.getD p dm).name lk.name=0):=by
 have HR:Hid (Row w b off ms):=hr;clear hr;have HM:Hid _:=ij;clear ij;generalize hN:ms.length=n at *;have HN:Hid (ms.length=n):=hN;clear hN;go_enter Tryz.func243,Tryz.ntmps243;go_wp2_with fail;obtain⟨W0,bN,bO,eK,dI⟩:=bY w #[Y lk.name,U O lk.state,U O lk.aJ,U O lk.addr,Ia lk.server] 50;have ET:Hid (Row W0 b off ms):=HR.out.later bO hb;have HT:Hid (As W0 w.heap.size 0 lk):=⟨ae dI 0,ae dI 1,ae dI 2,ae dI 3,ae dI 4⟩;have db:Hid (Below w.heap.size w W0):=bO;have tj:Hid (W0=w.alloc (By #[Y lk.name,U O lk.state,U O lk.aJ,U O lk.addr,Ia lk.server] 50)):=bN;clear dI bO HR bN;have xb:b<w.heap.size+1:=by omega
 go_loopw [9,10] (λi j w'=>∃k l:Nat,k<=l/\l<=n/\i=U O k/\j=U O l/\Below (w.heap.size+1) W0 w'/\Hid (∀j,j<k->bR (ms.getD j dm).name lk.name<0)/\Hid (∀j,l<=j->j<n->0<=bR (ms.getD j dm).name lk.name)) (λi j _=>(intOf j).toNat-(intOf i).toNat)
 case atStart=>exact⟨0,n,IP _,Ic _,rfl,rfl,by rw[tj.out];exact Ib _ _,λj h=>absurd h (Jv _),λj h1 h2=>by omega⟩
 case round=>
  obtain⟨k,l,iT,KV,rfl,rfl,aR,yO,yP⟩:=hrel;have cI:=aR.size;have eM:∀b o,b<w.heap.size+1->wr.cell? ⟨b,o,be⟩=W0.cell? ⟨b,o,be⟩:=λb o h=>aR.cell (p:=⟨b,o,be⟩) h;have G:=(HT.out.eq (λo=>eM w.heap.size o (by omega))).re;simp only[As,IC] at G;by_cases aX:k<l
  .obtain⟨h,hh,h1,h2⟩:∃h:Nat,((k:Int)+(l:Int))/2=(h:Int)/\k<=h/\h<l:=⟨(k+l)/2,by omega,by omega,by omega⟩
   have F:=((ET.out h (by rw[HN.out];omega)).eq (λo=>eM b o xb)).re;have oP:=HM.out;have HK:Hid (bR (ms.getD h dm).name lk.name<0->∀j,j<h+1->bR (ms.getD j dm).name lk.name<0):=λhx j hj=>oP j h (by omega) (by omega) hx;have HL:Hid (0<=bR (ms.getD h dm).name lk.name->∀j,h<=j->j<n->0<=bR (ms.getD j dm).name lk.name):=λhx j hj xe=>by
    apply Int.not_lt.1;intro hq;have:=oP h j hj xe hq;omega
   clear oP;have hhn:h<n:=by omega
   generalize ms.getD h dm=m at *;have hO:∀d os,Calls AS 122 #[Ij #[Y m.name,U O m.state,U O m.aJ,U O m.addr,Ia m.server],Ij #[Y lk.name,U O lk.state,U O lk.aJ,U O lk.addr,Ia lk.server]] (Im (Iz wr d) os) λe fT=>e=AT (U O (bR m.name lk.name))/\∃p:JT,fT=Im (Iz wr p.d) p.os:=λd os=>IZ (dt m lk _);simp only[As] at F;clear eM;generalize bR m.name lk.name=r at *;go_wp2_with fail;refine IG (by kernel_rfl) (by kernel_rfl) ?_;repeat(quiet_step (exact hO _ _))
   refine bM λdq jL ee=>?_;clear hO F G;by_cases vC:r<0
   .go_wp2_with fail
    exact⟨⟨h+1,l,by omega,by omega,by go_num,rfl,aR.trans (ee.out.mono (by omega)),HK.out vC,yP⟩,by simp[intOf];omega⟩
   .have zQ:0<=r:=by omega
    go_wp2_with fail;exact⟨⟨k,h,by omega,by omega,rfl,rfl,aR.trans (ee.out.mono (by omega)),yO,HL.out zQ⟩,by simp[intOf];omega⟩
  .have Co:l=k:=by omega
   subst Co;by_cases eV:l<n
   .have F:=((ET.out l (by rw[HN.out];omega)).eq (λo=>eM b o xb)).re
    generalize hm:ms.getD l dm=m at *;have Hm:Hid (ms.getD l dm=m):=hm;clear hm;have hO:∀d os,Calls AS 122 #[Ij #[Y m.name,U O m.state,U O m.aJ,U O m.addr,Ia m.server],Ij #[Y lk.name,U O lk.state,U O lk.aJ,U O lk.addr,Ia lk.server]] (Im (Iz wr d) os) λe fT=>e=AT (U O (bR m.name lk.name))/\∃p:JT,fT=Im (Iz wr p.d) p.os:=λd os=>IZ (dt m lk _);simp only[As] at F;clear eM;generalize Fq:bR m.name lk.name=r at *;have Hr:Hid (bR m.name lk.name=r):=Fq;clear Fq;go_wp2_with fail;refine IG (by kernel_rfl) (by kernel_rfl) ?_;repeat(quiet_step (exact hO _ _))
    refine bM λdq jL ee=>?_;clear hO F G;go_wp2_with fail;go_ret2;refine⟨l,_,rfl,db.out.trans ((aR.trans (ee.out.mono (by omega))).mono (by omega)),by omega,yO.out,yP.out,?_⟩;rw[Hm.out,Hr.out];simp[eV]
   .clear G
    have hkd:decide ((l:Int)<(n:Int))=false:=by simp;omega
    go_wp2_with fail;go_quiet (fail)
    go_wp2_with fail;go_ret2;refine⟨l,_,rfl,db.out.trans ((below_drewN aR _).mono (by omega)),by omega,yO.out,yP.out,?_⟩;simp[eV]
theorem fH(a:Option Addr)(cap:Nat)(lk:Mem)(fv:Value)(w:World) :
 Calls AS 243 #[J a 0 cap,Ij #[Y lk.name,U O lk.state,U O lk.aJ,U O lk.addr,Ia lk.server],fv] w λe w'=>e=AT (Ik #[U O 0,Ia false])/\Below w.heap.size w w':=by
 go_enter Tryz.func243,Tryz.ntmps243;go_wp2_with fail;go_loop [9,10] (λi j=>i=U O 0/\j=U O 0) (λ_ _=>0)
 case atStart=>exact⟨rfl,rfl⟩
 case round=>
  obtain⟨rfl,rfl⟩:=hrel;go_wp2_with fail;go_quiet (fail)
  go_wp2_with fail;go_ret2;exact⟨rfl,below_drewN ((Ib _ _).alloc (Ic _) _) _⟩
theorem fI(ms:List Mem)(v:Value)(lk:Mem)(w:World)(h:Sl w v ms)(hn:ms.length<=40)(ij:∀i j,i<=j->j<ms.length->bR (ms.getD j dm).name lk.name<0->bR (ms.getD i dm).name lk.name<0) :
 Calls AS 243 #[v,Ij #[Y lk.name,U O lk.state,U O lk.aJ,U O lk.addr,Ia lk.server],IT (.func 122) #[] #[]] w λe w'=>∃(p:Nat) (f:Bool),e=AT (Ik #[U O p,Ia f])/\Below w.heap.size w w'/\At ms lk.name p f:=by
 obtain⟨a,cap,rfl,hs,h⟩:=h;rcases h with rfl|⟨b,off,rfl,hb,hr⟩
 .refine(fH a cap lk _ w).mono ?_
  rintro e w' ⟨rfl,hb⟩;exact⟨0,false,rfl,hb,⟨by simp,λj h=>by omega,λj h h2=>by simp at h2,by simp⟩⟩
 .refine(gA ms b off cap lk w hr hb hn ij).mono ?_
  rintro e w' ⟨p,f,rfl,aR,g1,g2,g3,g4⟩;exact⟨p,f,rfl,aR,⟨g1,g2,g3,g4⟩⟩
theorem fu(ms:List Mem)(v:Value)(lk:Mem)(w:World)(h:Sl w v ms)(hn:ms.length<=40)(hr:bp ms) :
 Calls AS 211 #[v,Ij #[Y lk.name,U O lk.state,U O lk.aJ,U O lk.addr,Ia lk.server],IT (.func 122) #[] #[]] w λe w'=>∃(p:Nat) (f:Bool),e=AT (Ik #[U O p,Ia f])/\Below w.heap.size w w'/\At ms lk.name p f:=by
 have HC:Hid (∀w',Below w.heap.size w w'->Calls AS 243 #[v,Ij #[Y lk.name,U O lk.state,U O lk.aJ,U O lk.addr,Ia lk.server],IT (.func 122) #[] #[]] w' λe fT=>∃(p:Nat) (f:Bool),e=AT (Ik #[U O p,Ia f])/\Below w'.heap.size w' fT/\At ms lk.name p f):=
  λw' hb=>fI ms v lk w' (h.below hb) hn (dU hr lk.name)
 clear h hn hr;go_enter Tryz.func211,Tryz.ntmps211;go_wp2_with (go_at_call 243;refine(HC.out _ ?hb).mono ?_)
 case hb=>exact(Ib _ _).alloc (Ic _) _
 rintro e w' ⟨p,f,rfl,aR,cH⟩;have gj:Hid (At ms lk.name p f):=cH;clear cH;go_wp2_with fail;go_ret2;exact⟨p,f,rfl,((Ib _ _).alloc (Ic _) _).trans (aR.mono (by simp)),gj.out⟩
theorem mf{a b:List Mem}(kC:a.length<=20)(kA:b.length<=20)(k:Nat):(dG a b k).length<=40:=by
 unfold dG;split
 .simp
 .split
  .omega
  .have:=dj b a;omega
structure BZ(w:World)(pb:Nat)(a b:List Mem)(k:Nat)(l:List Mem)(pk:Option Addr)(ck:Nat):Prop where
 cell:w.cell? ⟨pb,k,be⟩=AI (J pk l.length ck)
 row:l=[]\/∃b off,pk=AI ⟨b,off,be⟩/\b<w.heap.size/\Row w b off l
 Ku:∀m∈l,(m).name.size<=Il
 len:l.length<=20
 B0:(dG a b k).length<=20
 tS:bp (dG a b k)
 B1:∀m∈dG a b k,(m).name.size<=Il
 step:dG a b (k+1)=av (dG a b k) l
theorem oX{a b:List Mem}{va vb:Value}{pb:Nat}{w:World}(ha:Sl w va a)(hb:Sl w vb b)(hc0:w.cell? ⟨pb,0,be⟩=AI va)(hc1:w.cell? ⟨pb,1,be⟩=AI vb)(kC:a.length<=20)(kA:b.length<=20)(ra:bp a)(k:Nat)(hk:k<2) :
 ∃l pk ck,BZ w pb a b k l pk ck:=by
 obtain⟨pa,ca,rfl,Kv,ha⟩:=ha;obtain⟨pv,cb,rfl,SA,hb⟩:=hb;have gr:k=0\/k=1:=by omega
 rcases gr with rfl|rfl
 .exact⟨a,pa,ca,hc0,ha,dy Kv,kC,by simp[dG],by simp[dG],by simp[dG],(iJ a ra).symm⟩
 .exact⟨b,pv,cb,hc1,hb,dy SA,kA,kC,ra,dy Kv,rfl⟩
theorem iL(a b:List Mem)(va vb:Value)(pb cap:Nat)(w:World)(ha:Sl w va a)(hb:Sl w vb b)(hpb:pb<w.heap.size)(hc0:w.cell? ⟨pb,0,be⟩=AI va)(hc1:w.cell? ⟨pb,1,be⟩=AI vb)(kC:a.length<=20)(kA:b.length<=20)(ra:bp a) :
 Calls AS 209 #[IT (.func 122) #[] #[],IT (.func 208) #[] #[],J (AI ⟨pb,0,be⟩) 2 cap] w λe w'=>∃v',e=AT v'/\Own w.heap.size w' v' (av a b)/\Below w.heap.size w w':=by
 have HK:Hid (∀k,k<2->∃l pk ck,BZ w pb a b k l pk ck):=λk hk=>oX ha hb hc0 hc1 kC kA ra k hk;have vi:Hid (∀k,(dG a b k).length<=40):=mf kC kA;clear ha hb hc0 hc1 kC kA ra;go_enter Tryz.func209,Tryz.ntmps209;go_wp2_with fail;go_loopw [7,16] (λkn i w'=>∃k:Nat,k<=2/\i=U O k/\Below w.heap.size w w'/\Hid (Own w.heap.size w' kn (dG a b k))) (λ_ i _=>2-(intOf i).toNat)
 case atStart=>exact⟨0,by omega,rfl,Ib _ _,b9 _ _⟩
 case round=>
  obtain⟨k,hk,rfl,aR,HO⟩:=hrel;obtain⟨eM,nQ⟩:=cC aR;have cI:=aR.size;by_cases jJ:k<2
  .obtain⟨l,pk,ck,oY⟩:=HK.out k jJ
   have oZ:Hid (BZ w pb a b k l pk ck):=oY;have fW:=oY.cell;clear oY;generalize oD:l.length=nl at *;have iu:Hid (l.length=nl):=oD;clear oD;have Kw:nl<=20:=by have:=oZ.out.len;have:=iu.out;omega
   have SB:(k:Int)<2:=by omega
   go_wp2_with fail;go_loopw [7,22] (λkn j w'=>∃q:Nat,q<=nl/\j=U O q/\Below w.heap.size w w'/\Hid (Own w.heap.size w' kn (av (dG a b k) (l.take q)))) (λ_ j _=>nl-(intOf j).toNat)
   case atStart=>exact⟨0,IP _,rfl,aR,HO⟩
   case round=>
    clear eM nQ cI aR HO fW;obtain⟨q,hq,rfl,aR,HO⟩:=hrel;obtain⟨eM,nQ⟩:=cC aR;have cI:=aR.size;by_cases aX:q<nl
    .obtain⟨b2,off,B2,Mo,cR⟩:∃xR off,pk=AI ⟨xR,off,be⟩/\xR<w.heap.size/\Row w xR off l:=by
      rcases oZ.out.row with h|h
      .have:=iu.out;rw[h] at this;simp at this;omega
      .exact h
     subst B2;obtain⟨c0,c1,c2,c3,c4⟩:=cR q (by rw[iu.out];exact aX);clear cR;have HJ:Hid (av (dG a b k) (l.take (q+1))=aO (av (dG a b k) (l.take q)) (l.getD q dm)):=gl (dG a b k) l q (by rw[iu.out];exact aX);have HR:Hid (bp (av (dG a b k) (l.take q))):=dF _ _ oZ.out.tS;have MS:Hid (∀j,((av (dG a b k) (l.take q)).getD j dm).name.size<=Il):=cy (iU _ _ oZ.out.B1 (λx hx=>oZ.out.Ku x (List.mem_of_mem_take hx)));have HL:Hid ((av (dG a b k) (l.take q)).length<=40):=by
      have h1:=dj (l.take q) (dG a b k);have h2:(l.take q).length<=q:=List.length_take_le _ _;have h3:=oZ.out.B0;show(av (dG a b k) (l.take q)).length<=40;omega
     generalize l.getD q dm=m at *;generalize av (dG a b k) (l.take q)=known at *;have ED:known.length<=40:=HL.out;obtain⟨W1,cT,aB,ft,cO⟩:=bY wr #[Y m.name,U O m.state,U O m.aJ,U O m.addr,Ia m.server] 50;have lQ:Hid (Own w.heap.size W1 u7 known):=HO.out.below aB;have HF:Hid (Calls AS 211 #[u7,Ij #[Y m.name,U O m.state,U O m.aJ,U O m.addr,Ia m.server],IT (.func 122) #[] #[]] W1 λe w'=>∃(p:Nat) (f:Bool),e=AT (Ik #[U O p,Ia f])/\Below W1.heap.size W1 w'/\At known m.name p f):=
      fu known u7 m W1 (lQ.out.sl MS.out) HL.out HR.out
     have ba:Hid (Below w.heap.size w W1):=aR.trans (aB.mono cI);have HT:Hid (As W1 wr.heap.size 0 m):=⟨ae cO 0,ae cO 1,ae cO 2,ae cO 3,ae cO 4⟩;have oE:Hid _:=cT;have vt:w.heap.size<=W1.heap.size:=by omega
     clear cO aB HO HL HR cT;go_wp2_with fail;rw[<- oE.out];refine HF.out.mono ?_;rintro e w2 ⟨p,f,rfl,aK,cH⟩;have gj:Hid _:=cH;have SC:=cH.le;have SD:=aK.size;have iq:Hid (Own _ _ _ _):=lQ.out.below aK;have bu:Hid _:=ba.out.trans (aK.mono vt);have xl:Hid (As w2 wr.heap.size 0 m):=HT.out.eq (λo=>aK.cell (p:=⟨wr.heap.size,o,be⟩) (by show wr.heap.size<W1.heap.size;omega));obtain⟨t0,t1,t2,t3,t4⟩:w2.cell? ⟨wr.heap.size,0,be⟩=AI (Y m.name)/\w2.cell? ⟨wr.heap.size,1,be⟩=AI (U O m.state)/\w2.cell? ⟨wr.heap.size,2,be⟩=AI (U O m.aJ)/\w2.cell? ⟨wr.heap.size,3,be⟩=AI (U O m.addr)/\w2.cell? ⟨wr.heap.size,4,be⟩=AI (Ia m.server):=xl.out;have iv:w.heap.size<=w2.heap.size:=by omega
     have B3:wr.heap.size<w2.heap.size:=by omega
     clear cH HF eM nQ c0 c1 c2 c3 c4 aK lQ ba HT;cases f
     .have aQ:Hid (u7.ownBlock≠AI w2.heap.size):=λe=>by have:=iq.out.lt _ e;omega
      have ec:Hid (Own w.heap.size (w2.alloc (By #[Y m.name,U O m.state,U O m.aJ,U O m.addr,Ia m.server] 50)) u7 known):=iq.out.below ((Ib _ _).alloc (Ic _) _);have qf:Hid ((w2.alloc (By #[Y m.name,U O m.state,U O m.aJ,U O m.addr,Ia m.server] 50)).heap[w2.heap.size]?=AI (By m.cs.toArray 50 (0,0))):=Ih w2 _;go_wp2_with (go_at_call 242;refine(fC w.heap.size p w2.heap.size u7 known m _ ec.out gj.out.le (by omega) (by simp;omega) qf.out aQ.out).mono ?_;rintro e w4 ⟨v',rfl,g1,g2⟩);go_roundw
      case rel=>
       have jy:∃o5:Nat,o5<=nl/\U O ((q:Int)+1)=U O o5/\Below w.heap.size w w4/\Hid (Own w.heap.size w4 v' (av (dG a b k) (l.take o5))):=⟨q+1,by omega,by go_num,fq (bu.out.alloc iv _) ec.out g2 (by simp;omega),by rw[HJ.out,df known m p false gj.out];exact g1⟩;first|exact jy|((repeat apply Exists.intro);exact⟨jy,rfl⟩)
      case measure=>simp[intOf];omega
     .have hp:p<known.length:=(gj.out.is.1 rfl).1
      obtain⟨g,c,hu⟩:=jT iq.out p hp;subst hu;have F:=(eE iq.out p hp).re;have du:=iq.out.lt g rfl;have Ng:g<w2.heap.size:=du.2;generalize hm:known.getD p dm=m2 at *;have Hm:Hid _:=hm;clear hm;have hN:∀d os,Calls AS 208 #[Ij #[Y m.name,U O m.state,U O m.aJ,U O m.addr,Ia m.server],Ij #[Y m2.name,U O m2.state,U O m2.aJ,U O m2.addr,Ia m2.server]] (Im (Iz w2 d) os) λe fT=>e=AT (Ia (eb m m2))/\∃p:JT,fT=Im (Iz w2 p.d) p.os:=λd os=>IZ (gu m m2 _);have G:=xl.out.re;simp only[As,IC] at F G;have rI:∀o,w2.frozen? ⟨g,o,be⟩=false:=λo=>I7 iq.out o;have Va:Hid _:=rI;clear rI t0 t1 t2 t3 t4;generalize EE:eb m m2=nw at *;have Kx:Hid _:=EE;clear EE;go_wp2_with fail;refine IG (by kernel_rfl) (by kernel_rfl) ?_;repeat(quiet_step (exact hN _ _))
      refine bM λdq jL ee=>?_;clear hN F G;cases nw
      .go_wp2_with fail
       go_roundw
       case rel=>
        have jy:∃o5:Nat,o5<=nl/\U O ((q:Int)+1)=U O o5/\Below w.heap.size w (Im (Iz w2 dq) jL)/\Hid (Own w.heap.size (Im (Iz w2 dq) jL) (J (AI ⟨g,0,be⟩) known.length c) (av (dG a b k) (l.take o5))):=⟨q+1,by omega,by go_num,bu.out.trans (ee.out.mono iv),by rw[HJ.out,df known m p true gj.out,if_pos rfl,Hm.out,if_neg (λh=>Bool.false_ne_true (Kx.out.symm.trans h))];exact iq.out.below ee.out⟩;first|exact jy|((repeat apply Exists.intro);exact⟨jy,rfl⟩)
       case measure=>simp[intOf];omega
      .generalize Im (Iz w2 dq) jL=w3 at *
       have ec:Hid (Own _ _ _ _):=iq.out.below ee.out;obtain⟨c0,c1,c2,c3,c4⟩:=eE ec.out p hp;rw[Hm.out] at c0 c1 c2 c3 c4;have lF:=(ec.out.lt g rfl).2;have rI:∀o,w3.frozen? ⟨g,o,be⟩=false:=λo=>I7 ec.out o;obtain⟨s0,s1,s2,s3,s4⟩:w3.cell? ⟨wr.heap.size,0,be⟩=AI (Y m.name)/\w3.cell? ⟨wr.heap.size,1,be⟩=AI (U O m.state)/\w3.cell? ⟨wr.heap.size,2,be⟩=AI (U O m.aJ)/\w3.cell? ⟨wr.heap.size,3,be⟩=AI (U O m.addr)/\w3.cell? ⟨wr.heap.size,4,be⟩=AI (Ia m.server):=xl.out.eq (λo=>ee.out.cell (p:=⟨wr.heap.size,o,be⟩) B3);go_wp2_with fail;refine⟨⟨q+1,by omega,by go_num,?_,?_⟩,by simp[intOf];omega⟩
       .exact((((((bu.out.trans (ee.out.mono iv)).setCell (p:=⟨g,p*5,be⟩) du.1 (Y m.name)).setCell (p:=⟨g,p*5+1,be⟩) du.1 (U O m.state)).setCell (p:=⟨g,p*5+2,be⟩) du.1 (U O m.aJ)).setCell (p:=⟨g,p*5+3,be⟩) du.1 (U O m.addr)).setCell (p:=⟨g,p*5+4,be⟩) du.1 (Ia m.server))
       .rw[HJ.out,df known m p true gj.out,if_pos rfl,Hm.out,if_pos Kx.out]
        exact lK ec.out hp m
    .have EF:q=nl:=by omega
     subst EF;have ec:Hid (Own w.heap.size wr u7 (dG a b (k+1))):=by
      have h:=HO.out;rw[List.take_of_length_le (by rw[iu.out];exact Ic _)] at h;rw[oZ.out.step];exact h
     go_wp2_with fail;go_roundw
     case rel=>exact⟨k+1,by omega,by go_num,aR,ec⟩
     case measure=>simp[intOf];omega
  .have jY:k=2:=by omega
   subst jY;go_wp2_with fail;go_ret;exact⟨_,rfl,HO.out,aR⟩
theorem fX(m:Mem)(w:World)(hm:m.name.size<=Il) :
 Calls AS 120 #[Ij #[Y m.name,U O m.state,U O m.aJ,U O m.addr,Ia m.server]] w λe w'=>e=AT (U O m.e)/\Below w.heap.size w w':=by
 refine(yd m.name m.state m.aJ m.addr m.server w hm).mono ?_;rintro e w' ⟨rfl,rfl⟩;exact⟨rfl,(Ib _ _).alloc (Ic _) _⟩
theorem iP(ms:List Mem)(b off cap:Nat)(w:World)(hr:Row w b off ms)(hb:b<w.heap.size)(hn:ms.length<=20)(hs:∀j,(ms.getD j dm).name.size<=Il) :
 Calls AS 70 #[J (AI ⟨b,off,be⟩) ms.length cap] w λe w'=>e=AT (U O (bl ms))/\Below w.heap.size w w':=by
 have HR:Hid (Row w b off ms):=hr;have HE:Hid (∀k,k<ms.length->(∀j,j<k->(ms.getD j dm).e=0)->(ms.getD k dm).e≠0->bl ms=(ms.getD k dm).e):=λk h1 h2 h3=>tI ms k hn h1 h2 h3;have H4:Hid ((∀j,j<ms.length->(ms.getD j dm).e=0)->bl ms=if aM ms=true then 0 else 4):=λh1=>rM ms hn h1;have K3:Hid (∀w',Below w.heap.size w w'->Calls _ _ _ _ _):=λw' A5=>jQ ms b off cap w' (hr.later A5 hb) (IL hb A5.size) hn;clear hr;generalize hN:ms.length=n at *;have HN:Hid _:=hN;clear hN;have HS:Hid _:=hs;clear hs;generalize hC:bl ms=res at *;have HC:Hid _:=hC;clear hC;generalize K5:aM ms=rb at *;have GS:Hid _:=K5;clear K5;go_enter Tryz.func70,Tryz.ntmps70;go_wp2_with fail;go_loopw [11] (λi w'=>∃k:Nat,k<=n/\i=U O k/\Below w.heap.size w w'/\Hid (∀j,j<k->(ms.getD j dm).e=0)) (λi _=>n-(intOf i).toNat)
 case atStart=>exact⟨0,IP _,rfl,Ib _ _,λj h=>absurd h (Jv _)⟩
 case round=>
  obtain⟨k,hk,rfl,aR,hz⟩:=hrel;obtain⟨eM,nQ⟩:=cC aR;have cI:=aR.size;by_cases aX:k<n
  .obtain⟨c0,c1,c2,c3,c4⟩:=HR.out k (by rw[HN.out];exact aX)
   have DK:Hid _:=HS.out k;have HK:Hid ((ms.getD k dm).e≠0->res=(ms.getD k dm).e):=λh=>HE.out k aX hz.out h;have HZ:Hid ((ms.getD k dm).e=0->∀j,j<k+1->(ms.getD j dm).e=0):=λh j hj=>by
    rcases Jh.1 hj with h2|rfl
    .exact hz.out j h2
    .exact h
   generalize ms.getD k dm=m at *;have HO:Hid (∀w,Calls _ _ _ _ _):=λw=>fX m w DK.out;generalize m.e=me at *;rcases he:decide (me=0) with _|_
   .have kW:(me !=0)=true:=by simpa using he
    clear he;go_wp2_with (go_at_call 120;refine(HO.out _).mono ?_;rintro e w' ⟨rfl,aK⟩);go_ret;have aQ:me≠0:=by simpa using kW
    have tn:=HK.out aQ;exact⟨ai tn.symm,(aR.alloc cI _).trans (aK.mono (by simp;omega))⟩
   .have kW:(me !=0)=false:=by simpa using he
    clear he;go_wp2_with (go_at_call 120;refine(HO.out _).mono ?_;rintro e w' ⟨rfl,aK⟩);go_roundw
    case rel=>
     have Rg:me=0:=by simpa using kW
     exact⟨k+1,by omega,by go_num,(aR.alloc cI _).trans (aK.mono (by simp;omega)),HZ.out Rg⟩
    case measure=>simp[intOf];omega
  .have kK:Hid (∀j,j<n->(ms.getD j dm).e=0):=λj hj=>hz.out j (by omega)
   have pj:Hid _:=H4.out kK.out;clear hz kK H4 HE HC GS;cases rb
   .go_wp2_with (go_at_call 121;refine(K3.out _ aR).mono ?_;rintro e w' ⟨rfl,aK⟩)
    go_ret;exact⟨ai (by rw[pj.out];rfl),aR.trans (aK.mono cI)⟩
   .go_wp2_with (go_at_call 121;refine(K3.out _ aR).mono ?_;rintro e w' ⟨rfl,aK⟩)
    go_ret;exact⟨ai (by rw[pj.out];rfl),aR.trans (aK.mono cI)⟩
theorem gB(a:Option Addr)(n cap:Nat)(w:World)(hn:20<n) :
 Calls AS 70 #[J a n cap] w λe w'=>e=AT (U O 2)/\w'=w:=by
 go_enter Tryz.func70,Tryz.ntmps70;go_wp2_with fail;go_ret;exact⟨rfl,rfl⟩
theorem gC(a:Option Addr)(cap:Nat)(w:World) :
 Calls AS 70 #[J a 0 cap] w λe w'=>e=AT (U O 0)/\w'=w:=by
 go_enter Tryz.func70,Tryz.ntmps70;go_wp2_with fail;go_loop [11] (λi=>i=U O 0) (λ_=>0)
 case atStart=>rfl
 case round=>
  subst hrel;go_wp2_with (go_at_call 121;refine(gz _ _ _ _).mono ?_;rintro e w' ⟨rfl,rfl⟩);go_ret;exact⟨rfl,rfl⟩
theorem bq(ms:List Mem)(v:Value)(w:World)(h:Sl w v ms) :
 Calls AS 70 #[v] w λe w'=>e=AT (U O (bl ms))/\Below w.heap.size w w':=by
 obtain⟨a,cap,rfl,hs,h⟩:=h;by_cases hn:20<ms.length
 .refine(gB a ms.length cap w hn).mono ?_
  rintro e w' ⟨rfl,rfl⟩;exact⟨ai (by rw[bl,if_pos hn]),Ib _ _⟩
 .rcases h with rfl|⟨b,off,rfl,hb,hr⟩
  .refine(gC a cap w).mono ?_
   rintro e w' ⟨rfl,rfl⟩;exact⟨rfl,Ib _ _⟩
  .exact iP ms b off cap w hr hb (by omega) hs
theorem dO(a b:List Mem)(va vb:Value)(pb cap:Nat)(w:World)(ha:Sl w va a)(hb:Sl w vb b)(hpb:pb<w.heap.size)(hc0:w.cell? ⟨pb,0,be⟩=AI va)(hc1:w.cell? ⟨pb,1,be⟩=AI vb) :
 Calls AS 207 #[J (AI ⟨pb,0,be⟩) 2 cap] w λe w'=>e=AT (U O (aP a b))/\Below w.heap.size w w':=by
 have HA:Hid (Sl w va a):=ha;have HB:Hid (Sl w vb b):=hb;clear ha hb;go_enter Tryz.func207,Tryz.ntmps207;go_wp2_with fail;go_loopw [8] (λi w'=>∃k:Nat,k<=2/\i=U O k/\Below w.heap.size w w'/\Hid (0<k->bl a=0)/\Hid (1<k->bl b=0)) (λi _=>2-(intOf i).toNat)
 case atStart=>exact⟨0,by omega,rfl,Ib _ _,λh=>by omega,λh=>by omega⟩
 case round=>
  obtain⟨k,hk,rfl,aR,di,da⟩:=hrel;obtain⟨eM,nQ⟩:=cC aR;have cI:=aR.size;have GG:Hid (Sl wr va a):=HA.out.below aR;have GH:Hid (Sl wr vb b):=HB.out.below aR;have gr:k=0\/k=1\/k=2:=by omega
  rcases gr with rfl|rfl|rfl
  .rcases he:decide (bl a=0) with _|_
   .have kW:(bl a !=0)=true:=by simpa using he
    clear he;go_wp2_with (go_at_call 70;refine(bq a _ _ GG.out).mono ?_;rintro e w' ⟨rfl,aK⟩);go_ret;exact⟨ai (by have h0:bl a≠0:=(by simpa using kW);rw[aP,if_neg h0]),aR.trans (aK.mono cI)⟩
   .have kW:(bl a !=0)=false:=by simpa using he
    clear he;go_wp2_with (go_at_call 70;refine(bq a _ _ GG.out).mono ?_;rintro e w' ⟨rfl,aK⟩);go_roundw
    case rel=>exact⟨1,by omega,by go_num,aR.trans (aK.mono cI),λ_=>(by simpa using kW),λh=>by omega⟩
    case measure=>simp[intOf]
  .have h0:Hid _:=di.out (by omega)
   rcases he:decide (bl b=0) with _|_
   .have kW:(bl b !=0)=true:=by simpa using he
    clear he;go_wp2_with (go_at_call 70;refine(bq b _ _ GH.out).mono ?_;rintro e w' ⟨rfl,aK⟩);go_ret;exact⟨ai (by rw[aP,if_pos h0.out]),aR.trans (aK.mono cI)⟩
   .have kW:(bl b !=0)=false:=by simpa using he
    clear he;go_wp2_with (go_at_call 70;refine(bq b _ _ GH.out).mono ?_;rintro e w' ⟨rfl,aK⟩);go_roundw
    case rel=>exact⟨2,by omega,by go_num,aR.trans (aK.mono cI),λ_=>h0.out,λ_=>(by simpa using kW)⟩
    case measure=>simp[intOf]
  .go_wp2_with fail
   go_ret;exact⟨ai (by rw[aP,if_pos (di.out (by omega)),da.out (by omega)]),aR⟩
theorem mT(a b:List Mem)(va vb:Value)(pb cap:Nat)(w:World)(ha:Sl w va a)(hb:Sl w vb b)(hpb:pb<w.heap.size)(hc0:w.cell? ⟨pb,0,be⟩=AI va)(hc1:w.cell? ⟨pb,1,be⟩=AI vb)(aQ:aP a b≠0) :
 Calls AS 165 #[J (AI ⟨pb,0,be⟩) 2 cap] w λe w'=>e=AT (Ik #[J be 0 0,U O (aE a b)])/\Below w.heap.size w w':=by
 have he:(aP a b !=0)=true:=by simpa using aQ
 have HE:Hid (aE a b=aP a b):=if_neg aQ;have qp:=dO a b va vb pb cap w ha hb hpb hc0 hc1;have HC:Hid (Calls _ _ _ _ _):=qp;clear qp ha hb aQ;go_enter Tryz.func165,Tryz.ntmps165;go_wp2_with (go_at_call 207;refine HC.out.mono ?_;rintro e w' ⟨rfl,aK⟩);go_ret2;exact⟨by rw[HE.out];rfl,aK⟩
theorem lj(a b:List Mem)(va vb:Value)(pb cap:Nat)(w:World)(ha:Sl w va a)(hb:Sl w vb b)(hpb:pb<w.heap.size)(hc0:w.cell? ⟨pb,0,be⟩=AI va)(hc1:w.cell? ⟨pb,1,be⟩=AI vb)(h0:aP a b=0) :
 Calls AS 165 #[J (AI ⟨pb,0,be⟩) 2 cap] w λe w'=>∃v',e=AT (Ik #[v',U O (aE a b)])/\Below w.heap.size w w' /\
  (20<(av a b).length->v'=J be 0 0)/\((av a b).length<=20->Own w.heap.size w' v' (av a b)):=by
 have he:(aP a b !=0)=false:=by simpa using h0
 have DL:bl a=0:=by unfold aP at h0;split at h0<;>assumption
 have Rh:bl b=0:=by unfold aP at h0;rw[if_pos DL] at h0;exact h0
 have za:=af DL;have zb:=af Rh;have HE:Hid (aE a b=if 20<(av a b).length then 2 else 0):=if_pos h0;have HC:Hid (Calls _ _ _ _ _):=dO a b va vb pb cap w ha hb hpb hc0 hc1;have HJ:Hid (∀w1,Below w.heap.size w w1->Calls AS 209 #[IT (.func 122) #[] #[],IT (.func 208) #[] #[],J (AI ⟨pb,0,be⟩) 2 cap] w1 λe w'=>∃v',e=AT v'/\Own w1.heap.size w' v' (av a b)/\Below w1.heap.size w1 w'):=λw1 aB=>
  iL a b va vb pb cap w1 (ha.below aB) (hb.below aB) (IL hpb aB.size) ((cC aB).1 pb 0 hpb |>.trans hc0) ((cC aB).1 pb 1 hpb |>.trans hc1) za.1 zb.1 za.2.1
 have ED:(av a b).length<=40:=by have h1:=dj b a;have h2:=za.1;have h3:=zb.1;omega
 clear h0 DL Rh za zb ha hb hc0 hc1;generalize av a b=jl at *;generalize Hp:jl.length=n at *;have WW:Hid _:=Hp;clear Hp;go_enter Tryz.func165,Tryz.ntmps165;go_wp2_with (go_at_call 207;refine HC.out.mono ?_;rintro e w1 ⟨rfl,aB⟩);refine(HJ.out w1 aB).mono ?_;rintro e w2 ⟨v',rfl,ho,aK⟩;have Aa:∃p c,v'=J p n c:=by
  have hn:=WW.out;rcases ho.2 with⟨h,h0⟩|⟨g,c,cur,h,_⟩
  .exact⟨be,0,by rw[h];congr 1;omega⟩
  .exact⟨_,c,by rw[h,hn]⟩
 obtain⟨p,c,rfl⟩:=Aa;have Ri:Hid _:=aB.trans (aK.mono aB.size);have ec:Hid (Own _ _ _ _):=ho.mono aB.size;clear ho aB aK HC HJ;by_cases aX:20<n
 .go_wp2_with fail
  go_ret2;refine⟨_,by rw[HE.out,if_pos aX];rfl,Ri.out,λ_=>rfl,λh=>by omega⟩
 .go_wp2_with fail
  go_ret2;refine⟨J p n c,by rw[HE.out,if_neg aX];rfl,Ri.out,λh=>by omega,λ_=>ec.out⟩
theorem nK(nm:ByteArray)(st lf ad:Int)(sv:Bool)(w:World) :
 aI 166 #[Ij #[Y nm,U O st,U O lf,U O ad,Ia sv]] w λe w'=>e=AT (J (AI ⟨w.heap.size+1,0,be⟩) 1 1)/\w'=(w.alloc (By #[Y nm,U O st,U O lf,U O ad,Ia sv] 50)).alloc (By #[Y nm,U O st,U O lf,U O ad,Ia sv] 50):=by
 go_enter Tryz.func166,Tryz.ntmps166;go_wp2;go_ret;exact⟨rfl,rfl⟩
def wN(x y:Mem):Bool:=x.name.toList==y.name.toList&&(x.state==y.state&&(x.aJ==y.aJ&&(x.addr==y.addr&&x.server==y.server)))
theorem wO(x y:Mem):wN x y=true↔x=y:=by
 obtain⟨n1,s1,l1,a1,v1⟩:=x;obtain⟨n2,s2,l2,a2,v2⟩:=y;simp only[wN,Bool.and_eq_true,beq_iff_eq,Mem.mk.injEq,Lib.toList_data];constructor
 .rintro⟨h1,h2,h3,h4,h5⟩;exact⟨qQ h1,h2,h3,h4,h5⟩
 .rintro⟨rfl,h2,h3,h4,h5⟩;exact⟨rfl,h2,h3,h4,h5⟩
theorem Te(m1 m2:Mem)(w:World):(Op.equalIn 10000 50 (Ij #[Y m1.name,U O m1.state,U O m1.aJ,U O m1.addr,Ia m1.server]) (Ij #[Y m2.name,U O m2.state,U O m2.aJ,U O m2.addr,Ia m2.server])).run AS w=.ok (wN m1 m2) w:=by
 have u3:=ID;have u4:=Tryz.underlying4;have u9:=Jb;have a3:=Tryz.isAgg3;have z3:=Tryz.sizeOf3;have a4:=Tryz.isAgg4;have z4:=Tryz.sizeOf4;have a9:=Tryz.isAgg9;have z9:=Tryz.sizeOf9;have hS:Tryz.prog.underlying 50=AI (.struct (Tryz.prog.fieldsOf 50)):=by kernel_rfl
 have hp:Tryz.prog.stoodInHeld 50=false:=by kernel_rfl
 rw[show(10000:Nat)=9999+1 from rfl,run_equalIn_agg w 9999 50 _ _ hS hp];simp only[Program.fieldsOf,Tryz.underlying50];go_simp;unfold wN;by_cases h1:m1.name.toList=m2.name.toList<;>by_cases h2:m1.state=m2.state<;>by_cases h3:m1.aJ=m2.aJ<;>by_cases h4:m1.addr=m2.addr<;>by_cases h5:m1.server=m2.server<;>simp[h1,h2,h3,h4,h5]
theorem WX(m1 m2:Mem)(w:World):Sem.run AS (binOp .neq 50 (Ij #[Y m1.name,U O m1.state,U O m1.aJ,U O m1.addr,Ia m1.server]) (Ij #[Y m2.name,U O m2.state,U O m2.aJ,U O m2.addr,Ia m2.server])) w=.ok (Ia (!wN m1 m2)) w:=by
 rw[run_neq_struct,Te];rfl
theorem Ft(a b:List Mem)(va vb:Value)(w:World)(ha:Sl w va a)(hb:Sl w vb b)(zx:a.length<=1000) :
 aI 167 #[va,vb] w λe w'=>∃r:Bool,e=AT (Ia r)/\(r=true↔a=b)/\Below w.heap.size w w':=by
 obtain⟨pa,ca,rfl,_,ha⟩:=ha;obtain⟨pv,cb,rfl,_,hb⟩:=hb;by_cases hl:a.length=b.length
 .have HA:Hid _:=ha
  have HB:Hid _:=hb;have HL:Hid _:=hl;clear ha hb;rw[<- hl];clear hl;generalize Rf:a.length=n at *;have HN:Hid _:=Rf;clear Rf;have al9:Tryz.prog.eqGuardType Tryz.prog.depth 50=false:=by kernel_rfl
  go_enter Tryz.func167,Tryz.ntmps167;go_wp2_with fail;go_loopw [13] (λi w'=>∃k:Nat,k<=n/\i=U O k/\Below w.heap.size w w'/\Hid (∀j,j<k->a.getD j dm=b.getD j dm)) (λi _=>n-(intOf i).toNat)
  case atStart=>exact⟨0,IP _,rfl,Ib _ _,λj h=>absurd h (Jv _)⟩
  case round=>
   obtain⟨k,hk,rfl,aR,hz⟩:=hrel;obtain⟨eM,nQ⟩:=cC aR;have cI:=aR.size;by_cases aX:k<n
   .obtain⟨b1,o1,xt,Dd,nN⟩:∃b off,pa=AI ⟨b,off,be⟩/\b<w.heap.size/\Row w b off a:=by
     rcases HA.out with h|h
     .have:=HN.out;rw[h] at this;simp at this;omega
     .exact h
    obtain⟨b2,o2,sL,mJ,rJ⟩:∃xR off,pv=AI ⟨xR,off,be⟩/\xR<w.heap.size/\Row w xR off b:=by
     rcases HB.out with h|h
     .have h2:=HN.out;have h3:=HL.out;rw[h] at h3;simp at h3;omega
     .exact h
    subst xt;subst sL;obtain⟨c0,c1,c2,c3,c4⟩:=nN k (by rw[HN.out];exact aX);obtain⟨d0,d1,d2,d3,d4⟩:=rJ k (by have h2:=HN.out;have h3:=HL.out;omega);clear nN rJ;have HF:Hid (a.getD k dm≠b.getD k dm->a≠b):=λh e=>h (by rw[e]);have HZ:Hid (a.getD k dm=b.getD k dm->∀j,j<k+1->a.getD j dm=b.getD j dm):=λh j hj=>by
     rcases Jh.1 hj with h2|rfl
     .exact hz.out j h2
     .exact h
    have Fu:=WX (a.getD k dm) (b.getD k dm);generalize a.getD k dm=m1 at *;generalize b.getD k dm=m2 at *;rcases hs:wN m1 m2 with _|_
    .rw[hs] at Fu
     have aQ:Hid _:=HF.out (λe=>by rw[<- wO,hs] at e;cases e);go_wp2_with fail;go_quiet (fail)
     go_wp2_with fail;go_ret;exact⟨false,rfl,⟨λh=>(by cases h),λh=>absurd h aQ.out⟩,below_drewN aR _⟩
    .rw[hs] at Fu
     have heq:Hid _:=(wO m1 m2).1 hs;go_wp2_with fail;go_quiet (fail)
     go_wp2_with fail;go_roundw
     case rel=>exact⟨k+1,by omega,by go_num,below_drewN aR _,HZ.out heq.out⟩
     case measure=>simp[intOf];omega
   .have jy:Hid (a=b):=by
     apply List.ext_getElem (HN.out.trans HL.out);intro j h1 h2;have:=hz.out j (by have:=HN.out;omega);simpa[Ip,If h1,If h2] using this
    go_wp2_with fail;go_ret;exact⟨true,rfl,⟨λ_=>jy.out,λ_=>rfl⟩,aR⟩
 .have aQ:((a.length:Int)!=(b.length:Int))=true:=by rw[bne_iff_ne];omega
  have HF:Hid (a≠b):=λe=>hl (by rw[e]);clear ha hb;go_enter Tryz.func167,Tryz.ntmps167;go_wp2_with fail;go_ret;exact⟨false,rfl,⟨λh=>(by cases h),λh=>absurd h HF.out⟩,Ib _ _⟩
theorem fc(ms:List Mem)(v:Value)(w:World)(h:Sl w v ms)(hn:ms.length<=1000) :
 aI 57 #[v] w λe w'=>∃v',e=AT v'/\Own w.heap.size w' v' ms/\Below w.heap.size w w':=by
 obtain⟨a,cap,rfl,hs,h⟩:=h;obtain⟨i0,fV,di,il,gT⟩:=info_parts Tryz.oU;cases a with
 |none=>
  have he:ms=[]:=by
   rcases h with h|⟨b,off,h,_⟩
   .exact h
   .cases h
  subst he;clear h hs;have gX:=λ(w:World)=>Lib.run_eql_slice_nil (P:=AS) w 34 50 be 0 cap 0 0 JP;simp only[List.length_nil,Option.isNone_none] at gX ⊢;go_enter Tryz.func57,Tryz.ntmps57;go_wp2_with fail;go_ret;exact⟨_,rfl,b9 _ _,Ib _ _⟩
 |some a=>
  have gX:=λ(w:World)=>Lib.run_eql_slice_nil (P:=AS) w 34 50 (AI a) ms.length cap 0 0 JP;simp only[Option.isNone_some] at gX;have hnews:Hid (∀j u,(fl ms)[j]?=AI u->(w.alloc (By #[] 50)).cell? (a.add j)=AI u):=by
   intro j u hj;rcases h with h|⟨b,off,h,hb,hr⟩
   .subst h;simp[fl] at hj
   .cases h
    have RI:j<ms.length*5:=by rw[<- cQ];exact(List.getElem?_eq_some_iff.1 hj).1
    have h1:=ei ms (j/5) (by omega) (j%5) (by omega);rw[show j/5*5+j%5=j by omega,hj] at h1;rw[Addr.add_lit,World.cell?_alloc_past (w:=w) _ b _ hb];obtain⟨c0,c1,c2,c3,c4⟩:=hr (j/5) (by omega);have cf:j%5=0\/j%5=1\/j%5=2\/j%5=3\/j%5=4:=by omega
    rcases cf with e|e|e|e|e
    .rw[show off+j=off+j/5*5 by omega,c0];rw[e] at h1;simpa[Mem.cs] using h1.symm
    .rw[show off+j=off+j/5*5+1 by omega,c1];rw[e] at h1;simpa[Mem.cs] using h1.symm
    .rw[show off+j=off+j/5*5+2 by omega,c2];rw[e] at h1;simpa[Mem.cs] using h1.symm
    .rw[show off+j=off+j/5*5+3 by omega,c3];rw[e] at h1;simpa[Mem.cs] using h1.symm
    .rw[show off+j=off+j/5*5+4 by omega,c4];rw[e] at h1;simpa[Mem.cs] using h1.symm
  have HO:Hid ((w.alloc (By #[] 50)).ownsRow w.heap.size 50 5 (J (AI ⟨w.heap.size,0,be⟩) 0 0) 0 []):=World.ownsRow_made w #[] 0 (Ic _) (by unfold Il;omega) rfl;clear h hs;go_enter Tryz.func57,Tryz.ntmps57;go_wp2_with (at_builtin;refine wpList_append_own _ rfl _ _ 34 rfl w.heap.size 50 i0 _ 5 48 JP fV di il gT rfl (by omega) _ 0 [] rfl HO.out a ms.length cap (fl ms) rfl (cQ ms) hnews.out (gV ms) (by unfold Il;omega) (by omega) (by simp) ?_);intro v' w' r1 r2 r3;go_wp2_with fail;go_ret;refine⟨v',rfl,?_,?_⟩
  .simpa using r1
  .exact((Ib _ _).alloc (Ic _) _).grown r2 (by simp) (λk hk=>by simp[Value.ownBlock] at hk;omega)
theorem kb(a b:List Mem)(va vb:Value)(pb cap:Nat)(w:World)(ha:Sl w va a)(hb:Sl w vb b)(hpb:pb<w.heap.size)(hc0:w.cell? ⟨pb,0,be⟩=AI va)(hc1:w.cell? ⟨pb,1,be⟩=AI vb) :
 Calls AS 165 #[J (AI ⟨pb,0,be⟩) 2 cap] w λe w'=>∃v',e=AT (Ik #[v',U O (aE a b)])/\Below w.heap.size w w' /\
  (aE a b≠0->v'=J be 0 0)/\(aE a b=0->Own w.heap.size w' v' (av a b)):=by
 by_cases h0:aP a b=0
 .refine(lj a b va vb pb cap w ha hb hpb hc0 hc1 h0).mono ?_
  rintro e w' ⟨v',rfl,h1,h2,h3⟩;have hE:aE a b=if 20<(av a b).length then 2 else 0:=if_pos h0;refine⟨v',rfl,h1,λaQ=>h2 ?_,λhz=>h3 ?_⟩
  .rw[hE] at aQ;split at aQ
   .assumption
   .exact absurd rfl aQ
  .rw[hE] at hz;split at hz
   .cases hz
   .omega
 .refine(mT a b va vb pb cap w ha hb hpb hc0 hc1 h0).mono ?_
  rintro e w' ⟨rfl,h1⟩;have hE:aE a b=aP a b:=if_neg h0;exact⟨_,rfl,h1,λ_=>rfl,λhz=>absurd (hE▸hz) h0⟩
theorem KA(ms:List Mem)(m:Mem)(v:Value)(w:World)(hv:Sl w v ms)(hm:m.name.size<=Il) :
 Calls AS 106 #[v,Ij #[Y m.name,U O m.state,U O m.aJ,U O m.addr,Ia m.server]] w λe w'=>∃(v':Value) (r:Bool),e=AT (Ik #[v',Ia r,U O (aE ms [m])])/\Below w.heap.size w w' /\
  (aE ms [m]≠0->v'=J be 0 0/\r=false)/\(aE ms [m]=0->Own w.heap.size w' v' (aO ms m)/\(r=true↔aO ms m≠ms)):=by
 have HV:=hv;obtain⟨pa,ca,rfl,ns,_⟩:=hv;obtain⟨W,hW⟩:∃W,W=(((w.alloc (By #[Y m.name,U O m.state,U O m.aJ,U O m.addr,Ia m.server] 50)).alloc (By #[Y m.name,U O m.state,U O m.aJ,U O m.addr,Ia m.server] 50)).alloc (By #[Y m.name,U O m.state,U O m.aJ,U O m.addr,Ia m.server] 50)).alloc (By #[J pa ms.length ca,J (AI ⟨w.heap.size+1+1,0,be⟩) 1 1] 34):=⟨_,rfl⟩;go_enter Tryz.func106,Tryz.ntmps106;go_wp2_with (go_at_call 166;refine(nK _ _ _ _ _ _).mono ?_;rintro e w' ⟨rfl,rfl⟩);obtain⟨M,hM⟩:∃M:Obj,M=By #[Y m.name,U O m.state,U O m.aJ,U O m.addr,Ia m.server] 50:=⟨_,rfl⟩;have bO:Below w.heap.size w W:=by rw[hW];exact((((Ib _ _).alloc (Ic _) _).alloc (by simp) _).alloc (by simp;omega) _).alloc (by simp;omega) _
 have MN:W.heap.size=w.heap.size+1+1+1+1:=by rw[hW];simp
 have lF:W.heap[w.heap.size+1+1+1]?=AI (By #[J pa ms.length ca,J (AI ⟨w.heap.size+1+1,0,be⟩) 1 1] 34 (0,0)):=by rw[hW];have:=Ih (((w.alloc M).alloc M).alloc M) (By #[J pa ms.length ca,J (AI ⟨w.heap.size+1+1,0,be⟩) 1 1] 34);rw[hM] at this;simpa using this
 have dS:W.heap[w.heap.size+1+1]?=AI (By #[Y m.name,U O m.state,U O m.aJ,U O m.addr,Ia m.server] 50 (0,0)):=by
  rw[hW,Below.heap_alloc _ _ _ (by simp)];have:=Ih ((w.alloc M).alloc M) M;rw[hM] at this;simpa using this
 rw[<- hW];refine(kb ms [m] (J pa ms.length ca) (J (AI ⟨w.heap.size+1+1,0,be⟩) 1 1) (w.heap.size+1+1+1) 2 W (HV.below bO) (oJ W _ 1 m hm dS) (by omega) (ae lF 0) (ae lF 1)).mono ?_;rintro e w2 ⟨v',rfl,h1,h2,h3⟩;have HB:Hid _:=bO.trans (h1.mono (by omega));have HV2:Hid (Sl _ _ _):=HV.below HB.out;have H2:Hid _:=h2;have H3:Hid (aE ms [m]=0->Own w.heap.size w2 v' (aO ms m)):=λh=>(h3 h).mono (by omega);clear h2 h3 h1 dS lF MN bO hW hM HV;rcases he:decide (aE ms [m]=0) with _|_
 .have kW:(aE ms [m]!=0)=true:=by simpa using he
  have aQ:Hid (aE ms [m]≠0):=(show aE ms [m]≠0 by simpa using he);clear he;go_wp2_with fail;go_ret3
  exact⟨_,false,rfl,HB.out,λ_=>⟨rfl,rfl⟩,λh=>absurd h aQ.out⟩
 .have kW:(aE ms [m]!=0)=false:=by simpa using he
  have hz:Hid (aE ms [m]=0):=(show aE ms [m]=0 by simpa using he);clear he;have HO:Hid (Own _ _ _ _):=H3.out hz.out;have Hz:bl ms=0:=by
   have h:=hz.out;unfold Hid aE aP at h;by_cases h1:bl ms=0
   .exact h1
   .rw[if_neg h1,if_neg h1] at h;exact absurd h h1
  have HC:Hid _:=Hz;clear Hz;have NS:Hid _:=qo (dy ns) hm;have hlen:Hid ((aO ms m).length<=1000):=by have h1:=lu ms m;have h2:=af HC.out;show(aO ms m).length<=1000;omega
  go_wp2_with (go_at_call 167;refine(Ft (aO ms m) ms _ _ _ (bF HO.out NS.out) HV2.out hlen.out).mono ?_;rintro e w3 ⟨r,rfl,h5,h6⟩);go_ret3
  refine⟨v',!r,by rw[show aE ms [m]=0 from hz.out];rfl,HB.out.trans (h6.mono HB.out.size),λh=>absurd hz.out h,λ_=>⟨HO.out.below h6,?_⟩⟩;cases r
  .simp at h5;simpa using h5
  .simp at h5;simpa using h5
theorem kT(nm:ByteArray)(st lf ad:Int)(sv:Bool)(w:World) :
 Calls AS 212 #[Ij #[Y nm,U O st,U O lf,U O ad,Ia sv]] w λe w'=>e=AT (Ia (decide (st=2)||decide (st=3)))/\w'=w.alloc (By #[Y nm,U O st,U O lf,U O ad,Ia sv] 50):=by
 by_cases h:st=2
 .subst h
  go_enter Tryz.func212,Tryz.ntmps212;go_wp2;go_ret;exact⟨aW (by simp),rfl⟩
 .have h':(st==2)=false:=by simpa using h
  go_enter Tryz.func212,Tryz.ntmps212;go_wp2;go_ret;exact⟨aW (by rw[Bool.eq_iff_iff];simp[h]),rfl⟩
def cA(m:Mem):Mem:=⟨m.name,1,m.aJ+1,m.addr,m.server⟩
theorem NL(ms:List Mem)(p:Nat)(hp:p<ms.length):((fl ms).set (p*5+1) (U O 1)).set (p*5+2) (U O ((ms.getD p dm).aJ+1))=fl (ms.set p (cA (ms.getD p dm))):=by
 induction ms generalizing p with
 |nil=>simp at hp
 |cons x r ih=>
  cases p with
  |zero=>simp[fl,Mem.cs,cA]
  |succ p=>
   have MD:=ih p (by simpa using hp);rw[List.set_cons_succ,bb,bb,List.getD_cons_succ,<- MD];simp only[Nat.add_mul,Nat.one_mul];have e:∀(l:List Value) (k:Nat) (v:Value),(x.cs++l).set (k+5) v=x.cs++l.set k v:=λl k v=>by
    rw[List.set_append,if_neg (by rw[bD];omega),bD,Nat.add_sub_cancel]
   rw[show p*5+5+1=(p*5+1)+5 by omega,show p*5+5+2=(p*5+2)+5 by omega];rw[e,e]
theorem K6{base g c p:Nat}{W:World}{ms:List Mem}(h:Own base W (J (AI ⟨g,0,be⟩) ms.length c) ms)(hp:p<ms.length) :
 Own base ((W.setCell ⟨g,p*5+1,be⟩ (U O 1)).setCell ⟨g,p*5+2,be⟩ (U O ((ms.getD p dm).aJ+1))) (J (AI ⟨g,0,be⟩) ms.length c) (ms.set p (cA (ms.getD p dm))):=by
 have h1:=II h (p*5+1) (U O 1);have h2:=II h1.1 (p*5+2) (U O ((ms.getD p dm).aJ+1));have e:=h2.1;rw[NL ms p hp] at e;show World.ownsRow _ _ _ _ _ (ms.set p (cA (ms.getD p dm))).length _;rw[List.length_set];exact e
theorem Fv{nm:ByteArray}{st lf ad:Int}(h:vo nm st lf ad=0):bc nm=true/\(1<=st/\st<=4)/\(1<=lf/\lf<=1000000)/\(0<=ad/\ad<=4294967295):=by
 have hw:∀n a b:Int,within n a b=true->a<=n/\n<=b:=λn a b h=>by simpa[within] using h
 unfold vo at h;split at h
 .rename_i h1
  split at h
  .rename_i h2
   split at h
   .rename_i h3
    split at h
    .rename_i h4
     exact⟨h1,hw _ _ _ h2,hw _ _ _ h3,hw _ _ _ h4⟩
    .omega
   .omega
  .omega
 .omega
theorem bf:∀(ms:List Mem),aU ms=0->∀m∈ms,m.e=0
 |[],_,m,h=>by simp at h
 |x::r,h,m,hm=>by
  rw[aU] at h;split at h
  .rename_i h1
   rcases List.mem_cons.1 hm with rfl|hm
   .exact h1
   .exact bf r h m hm
  .rename_i h1;exact absurd h h1
theorem ts{ms:List Mem}(h:aU ms=0)(p:Nat)(hp:p<ms.length):(ms.getD p dm).e=0:=by
 have:=bf ms h ms[p] (List.getElem_mem hp);simpa[Ip,If hp] using this
def iK(ms:List Mem)(p:Nat)(f:Bool):Bool:=f&&(decide ((ms.getD p dm).state=2)||decide ((ms.getD p dm).state=3))&&!((ms.getD p dm).aJ==1000000)
def jd(ms:List Mem)(p:Nat)(f:Bool):Int:=if f&&(decide ((ms.getD p dm).state=2)||decide ((ms.getD p dm).state=3))&&((ms.getD p dm).aJ==1000000) then 3 else 0
def sw(ms:List Mem)(p:Nat)(f:Bool):List Mem:=if iK ms p f=true then ms.set p (cA (ms.getD p dm)) else ms
def NM(ms:List Mem)(p:Nat)(f:Bool)(w:World)(e:Ending)(w':World):Prop:=
 ∃v':Value,e=AT (Ik #[v',Ia (iK ms p f),U O (jd ms p f)])/\Below w.heap.size w w'/\(jd ms p f≠0->v'=J be 0 0)/\(jd ms p f=0->Own w.heap.size w' v' (sw ms p f))
theorem zL(ms:List Mem)(v:Value)(me:ByteArray)(w:World)(hv:Sl w v ms)(h0:bl ms=0)(hs:me.size<=Il)(hl:bc me=true)(p:Nat)(f:Bool)(cH:At ms me p f) :
 Calls AS 169 #[v,Y me] w λe w'=>NM ms p f w e w':=by
 have he:(bl ms !=0)=false:=by simpa using h0
 have hz:=af h0;have HN:Hid (∀x∈ms,x.name.size<=Il):=by obtain⟨a,c,_,hn,_⟩:=hv;exact dy hn
 have HV:Hid (Sl w v ms):=hv;have HM:Hid (bp ms):=hz.2.1;have hlen:=hz.1;have A0:Hid _:=hz.2.2;have gj:Hid _:=cH;clear hv h0 hz cH;go_enter Tryz.func169,Tryz.ntmps169;go_wp2_with (first|(go_at_call 70;refine(bq ms _ _ HV.out).mono ?_;rintro e w1 ⟨rfl,aB⟩)|(go_at_call 53;refine(bV _ _ hs).mono ?_;rintro e w' ⟨rfl,rfl⟩;rw[hl]));refine(fc ms _ _ (HV.out.below aB) (by omega)).mono ?_;rintro e w2 ⟨kv,rfl,fK,aK⟩;have iq:Hid (Own _ _ _ _):=fK.mono aB.size;have bu:Hid _:=aB.trans (aK.mono aB.size);clear fK aK aB;go_wp2_with fail;refine(fu ms _ ⟨me,0,0,0,false⟩ _ (bF iq.out HN.out) (by omega) HM.out).mono ?_;rintro e w3 ⟨p',f',rfl,bX,qY⟩;obtain⟨rfl,rfl⟩:=eN gj.out qY;have ec:Hid (Own _ _ _ _):=iq.out.below bX;have cJ:Hid _:=bu.out.trans (bX.mono bu.out.size);clear qY bX iq bu;cases f with
 |false=>
  go_wp2_with fail;go_ret3
  exact⟨kv,rfl,cJ.out,λh=>absurd rfl h,λ_=>ec.out⟩
 |true=>
  have hp:=(gj.out.is.1 rfl).1;have NO:=(Fv (ts A0.out p hp)).2.2.1;obtain⟨g,c,hkv⟩:∃g c,kv=J (AI ⟨g,0,be⟩) ms.length c:=by
   rcases ec.out.2 with⟨_,h0⟩|⟨g,c,cur,h,_⟩
   .omega
   .exact⟨g,c,h⟩
  subst hkv;have du:=ec.out.lt g rfl;have rI:∀o,w3.frozen? ⟨g,o,be⟩=false:=λo=>I7 ec.out o;have Ng:=du.2;obtain⟨b',amb,Ek,Bq,cR⟩:∃b off,(AI ⟨g,0,be⟩:Option Addr)=AI ⟨b,off,be⟩/\b<w3.heap.size/\Row w3 b off ms:=by
   obtain⟨a,cap,h1,_,h2⟩:=bF ec.out HN.out;simp only[Value.slice.injEq] at h1;obtain⟨rfl,_⟩:=h1;rcases h2 with h2|h2
   .rw[h2] at hp;simp at hp
   .exact h2
  simp only[Option.some.injEq,Addr.mk.injEq,and_true] at Ek;obtain⟨rfl,rfl⟩:=Ek;obtain⟨c0,c1,c2,c3,c4⟩:=cR p hp;clear cR Bq;simp only[IC] at c0 c1 c2 c3 c4;generalize hm:ms.getD p dm=m2 at *;have Hm:Hid _:=hm;clear hm;obtain⟨n2,s2,l2,a2,v2⟩:=m2;simp only at c0 c1 c2 c3 c4 NO;obtain⟨amc,amd⟩:=NO;rcases hd:(decide (s2=2)||decide (s2=3)) with _|_
  .go_wp2_with (go_at_call 212;refine(kT _ _ _ _ _ _).mono ?_;rintro e w' ⟨rfl,rfl⟩;rw[hd])
   go_ret3
   have e1:iK ms p true=false:=by unfold iK;rw[Hm.out];simp only[hd];rfl
   have e2:jd ms p true=0:=by unfold jd;rw[Hm.out];simp only[hd];rfl
   refine⟨J (AI ⟨g,0,be⟩) ms.length c,by rw[e1,e2];rfl,cJ.out.alloc cJ.out.size _,λh=>absurd e2 h,λ_=>?_⟩;rw[sw,e1,if_neg (by simp)];exact ec.out.below ((Ib _ _).alloc (Ic _) _)
  .rcases mJ:((l2:Int)==1000000) with _|_
   .have e1:iK ms p true=true:=by unfold iK;rw[Hm.out];simp only[hd,mJ];rfl
    have e2:jd ms p true=0:=by unfold jd;rw[Hm.out];simp only[hd,mJ];rfl
    have E1:Hid _:=e1;have E2:Hid _:=e2;clear e1 e2;have HS:=K6 ec.out hp;rw[Hm.out] at HS;have Vq:Hid (Own _ _ _ _):=HS;clear HS;go_wp2_with (go_at_call 212;refine(kT _ _ _ _ _ _).mono ?_;rintro e w' ⟨rfl,rfl⟩;rw[hd]);go_ret3
    refine⟨J (AI ⟨g,0,be⟩) ms.length c,by rw[E1.out,E2.out];rfl,?_,λh=>absurd E2.out h,λ_=>?_⟩
    .have hB2:=(cJ.out.setCell (p:=⟨g,p*5+1,be⟩) du.1 (U O 1)).setCell (p:=⟨g,p*5+2,be⟩) du.1 (U O (l2+1))
     exact hB2.alloc (by have:=cJ.out.size;simpa using this) _
    .rw[sw,if_pos E1.out,Hm.out]
     exact Vq.out.below ((Ib _ _).alloc (Ic _) _)
   .have E1:Hid (iK ms p true=false):=(show iK ms p true=false by unfold iK;rw[Hm.out];simp only[hd,mJ];rfl)
    have E2:Hid (jd ms p true=3):=(show jd ms p true=3 by unfold jd;rw[Hm.out];simp only[hd,mJ];rfl);go_wp2_with (go_at_call 212;refine(kT _ _ _ _ _ _).mono ?_;rintro e w' ⟨rfl,rfl⟩;rw[hd]);go_ret3
    exact⟨J be 0 0,by rw[E1.out,E2.out];rfl,cJ.out.alloc cJ.out.size _,λ_=>rfl,λh=>by rw[E2.out] at h;cases h⟩
end Go.Proofs.YtfidhgjmifendaaGreatDoor
namespace Go.Proofs.YtfidhgjmifendaaGreatDoor
open Go.RowKit Go.WideMaps Go.Maps
structure bE where
 m:Mem
 told:Int
def dr:bE:=⟨dm,0⟩
def mS(w:World)(b off:Nat)(rs:List bE):Prop:=∀j,j<rs.length ->
 w.cell? ⟨b,off+j*6,be⟩=AI (Y (rs.getD j dr).m.name)/\w.cell? ⟨b,off+j*6+1,be⟩=AI (U O (rs.getD j dr).m.state) /\
 w.cell? ⟨b,off+j*6+2,be⟩=AI (U O (rs.getD j dr).m.aJ)/\w.cell? ⟨b,off+j*6+3,be⟩=AI (U O (rs.getD j dr).m.addr) /\
 w.cell? ⟨b,off+j*6+4,be⟩=AI (Ia (rs.getD j dr).m.server)/\w.cell? ⟨b,off+j*6+5,be⟩=AI (U O (rs.getD j dr).told)
theorem mS.below{w w':World}{b off B:Nat}{rs:List bE}(h:mS w b off rs)(hb:Below B w w')(hB:b<B):mS w' b off rs:=λk hk=>by
 obtain⟨h0,h1,h2,h3,h4,h5⟩:=h k hk;exact⟨by rw[hb.cell hB];exact h0,by rw[hb.cell hB];exact h1,by rw[hb.cell hB];exact h2,by rw[hb.cell hB];exact h3,by rw[hb.cell hB];exact h4,by rw[hb.cell hB];exact h5⟩
def mR(w:World)(v:Value)(rs:List bE):Prop:=
 ∃(a:Option Addr) (cap:Nat),v=J a rs.length cap/\(∀j,(rs.getD j dr).m.name.size<=Il) /\
  (rs=[]\/∃b off,a=AI ⟨b,off,be⟩/\b<w.heap.size/\mS w b off rs)
theorem mR.below{w w':World}{v:Value}{rs:List bE}(h:mR w v rs)(hb:Below w.heap.size w w'):mR w' v rs:=by
 obtain⟨a,c,hv,hn,h⟩:=h;refine⟨a,c,hv,hn,?_⟩;rcases h with h|⟨b,off,ha,aX,hr⟩
 .exact .inl h
 .exact .inr ⟨b,off,ha,IL aX hb.size,hr.below hb aX⟩
def ff(rs:List bE):List ByteArray:=rs.map (·.m.name)
theorem dE(rs:List bE)(k:Nat):(ff rs).getD k Iv=(rs.getD k dr).m.name:=by
 by_cases h:k<rs.length
 .simp[ff,Ip,If h]
 .simp[ff,Ip,List.getElem?_eq_none (by omega:rs.length<=k),dr,dm]
theorem D9:Keyed AS 9:=string_keyed Jb
theorem Bd(w:World):(zeroValue 3).run AS w=.ok (U O 0) w:=by kernel_rfl
theorem jt(n:Int)(w:World):(Instr.makeMap 125 (AI (U O n))).run AS w=.ok (.map (AI w.heap.size)) (w.alloc (.map #[] 0)):=by
 have h:=run_underlying JA;simp[Instr.makeMap,h,asInt,newObj];rfl
theorem pS(rs:List bE)(v:Value)(w:World)(hv:mR w v rs)(hn:rs.length<=1000) :
 Calls AS 126 #[v] w λe w'=>e=AT (.map (AI w.heap.size))/\w'.ownsMap AS 9 (O6 (H:=Unit) AS 3) w.heap.size rs.length (Dm (ff rs) rs.length)/\Below w.heap.size w w':=by
 obtain⟨pa,ca,rfl,cI,ha⟩:=hv;have HA:Hid _:=ha;have HS:Hid _:=cI;clear ha cI;generalize hN:rs.length=n at *;have HN:Hid _:=hN;clear hN;have Hb:=jt;go_enter Tryz.func126,Tryz.ntmps126;go_wp2;go_loopw [11] (λi wr=>∃k:Nat,k<=n/\i=U O k/\Hid (wr.ownsMap AS 9 (O6 (H:=Unit) AS 3) w.heap.size k (Dm (ff rs) k))/\Hid (Below w.heap.size w wr))
  (λi _=>n-(intOf i).toNat)
 case atStart=>exact⟨0,IP _,rfl,World.ownsMap_made _ _ _ _,(Ib _ _).alloc (Ic _) _⟩
 case round=>
  obtain⟨k,hk,rfl,HO,HB⟩:=hrel;by_cases aX:k<n
  .obtain⟨b,off,hp,hl,hr⟩:∃b off,pa=AI ⟨b,off,be⟩/\b<w.heap.size/\mS w b off rs:=by
    rcases HA.out with h|h
    .have:=HN.out;rw[h] at this;simp at this;omega
    .exact h
   subst hp;obtain⟨c0,c1,c2,c3,c4,c5⟩:=hr.below HB.out hl k (by rw[HN.out];exact aX);have zh:=keyOf_string_mk Jb (HS.out k);have rK:Hid (∀w1:World,w1.ownsMap AS 9 (O6 (H:=Unit) AS 3) w.heap.size (k+1) ((Dm (ff rs) k).put (kS (rs.getD k dr).m.name) (.lit (.int O k)))->w1.ownsMap AS 9 (O6 (H:=Unit) AS 3) w.heap.size (k+1) (Dm (ff rs) (k+1))):=λw1 h=>by
    rw[Dm,dE];exact h
   generalize(rs.getD k dr)=rk at *;obtain⟨⟨nm,st,lf,ad,sv⟩,td⟩:=rk;simp only at c0 c1 c2 c3 c4 c5 zh rK;clear hr;go_wp2_with (first
    |(at_mapUpdate;refine wpList_mapUpdate_own _ rfl _ _ _ 125 rfl 9 3 D9 JA _ w.heap.size k _ rfl (HO.out.alloc _) (by unfold Il;omega) _ _ _ rfl rfl zh _ [] (plainElem_int ID (WalkArith.wf_i64 (by omega))) ?_)
    |fail)
   intro w1 zE K7;have R1:Hid (w1.ownsMap _ _ _ _ _ _):=rK.out w1 zE;have R2:Hid _:=(HB.out.alloc HB.out.size _).grown K7 (by have:=HB.out.size;simp;omega) (λj hj=>by cases hj;exact Ic _);clear zE K7 HO HB c0 c1 c2 c3 c4 c5 rK;go_wp2_with fail;go_roundw
   case rel=>exact⟨k+1,by omega,by go_num,R1,R2⟩
   case measure=>simp[intOf];omega
  .have eV:k=n:=by omega
   subst eV;go_wp2_with fail;go_ret;exact⟨rfl,HO.out,HB.out⟩
end Go.Proofs.YtfidhgjmifendaaGreatDoor
