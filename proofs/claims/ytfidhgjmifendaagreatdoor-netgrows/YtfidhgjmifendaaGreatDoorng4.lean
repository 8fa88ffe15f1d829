import Derived.Test.YtfidhgjmifendaaGreatDoorng3
set_option maxHeartbeats 4000000
set_option maxRecDepth 100000
open Go.IntKind renaming i64→O
open ByteArray renaming empty→Iw
open Go.Maps renaming has→QK,size→JA
open Go.Value renaming agg→Ik,string→Y,int→U,bool→Ia,slice→J,func→IP,tuple→Im
open Go.Ending renaming returned→AT
open Go.RowKit.Below renaming refl→Ib
open Nat renaming le_refl→Ic,not_lt_zero→Jl,lt_succ_iff_lt_or_eq→I8,zero_le→IH,zero_add→ID,lt_of_lt_of_le→IJ
open Option renaming some→AI,none→be
open Go.Proofs.Tryz renaming prog→AS,underlying3→IF,underlying9→Jb,underlying34→JN,underlying125→Jy
open Go.Sort renaming grow→Ij
open Go renaming redrawn→Iv,Regrown→JI,wp_region_quiet_below→IA,below_drewN→Jc,maxLen→Io,heap_alloc_new→Ii,plainElem→O3
open Go.Calls renaming regrown_of→IU
open Go.Obj renaming cells→By
open Go.World.ownsRow renaming frozenAt→I7,stored→IK
open List renaming getD→Iq,getElem?_eq_getElem→Ie
namespace Go.Proofs.YtfidhgjmifendaaGreatDoor
open Go.RowKit Go.WideMaps Go.Maps
abbrev kS(s:ByteArray):Lit:=.string s.data.toList
theorem nS(s:ByteArray):WideAt.IsKeyLit (kS s):=by simp[WideAt.IsKeyLit]
theorem yx{a b:ByteArray}(h:a≠b):kS a≠kS b:=λe=>h (by
 have h2:a.data.toList=b.data.toList:=by injection e
 obtain⟨⟨a⟩⟩:=a;obtain⟨⟨b⟩⟩:=b;simp at h2;rw[h2])
def Dm(ns:List ByteArray):Nat->DataW Unit
 |0=>.map []
 |k+1=>(Dm ns k).put (kS (ns.getD k Iw)) (.lit (.int O k))
theorem oR(ns:List ByteArray):∀k,Tidy (Dm ns k)
 |0=>tidy_empty
 |k+1=>(oR ns k).put (nS _) _
theorem qp(ns:List ByteArray)(s:ByteArray):∀k,QK (Dm ns k) (kS s)=true↔∃j,j<k/\ns.getD j Iw=s
 |0=>by simp[Dm,QK]
 |k+1=>by
  by_cases h:ns.getD k Iw=s
  .subst h
   rw[Dm,has_put_same (oR ns k).isMap (nS _)];exact⟨λ_=>⟨k,by omega,rfl⟩,λ_=>rfl⟩
  .rw[Dm,has_put_other (yx (Ne.symm h)),qp ns s k]
   constructor
   .rintro⟨j,hj,e⟩;exact⟨j,by omega,e⟩
   .rintro⟨j,hj,e⟩
    by_cases L6:j=k
    .subst L6;exact absurd e h
    .exact⟨j,by omega,e⟩
theorem rV(ns:List ByteArray)(k:Nat):JA (Dm ns (k+1))=if QK (Dm ns k) (kS (ns.getD k Iw))=true then JA (Dm ns k) else JA (Dm ns k)+1:=by
 rw[Dm,size_put (oR ns k)]
theorem oA(ns:List ByteArray):∀k,JA (Dm ns k)<=k
 |0=>by simp[Dm,JA]
 |k+1=>by
  have:=oA ns k;rw[rV];split<;>omega
theorem lv(ns:List ByteArray):∀k,(∀i j,i<j->j<k->ns.getD i Iw≠ns.getD j Iw)->JA (Dm ns k)=k
 |0,_=>by simp[Dm,JA]
 |k+1,h=>by
  have h1:=lv ns k (λi j hi hj=>h i j hi (by omega));have h2:¬ QK (Dm ns k) (kS (ns.getD k Iw))=true:=by
   rw[qp];rintro⟨j,hj,e⟩;exact h j k hj (by omega) e
  rw[rV,if_neg h2,h1]
theorem lu(ns:List ByteArray):∀k,(∃i j,i<j/\j<k/\ns.getD i Iw=ns.getD j Iw)->JA (Dm ns k)<k
 |0,⟨i,j,_,hj,_⟩=>by omega
 |k+1,⟨i,j,jG,hj,e⟩=>by
  rw[rV];by_cases L6:j=k
  .subst L6
   rw[if_pos ((qp ns _ j).2 ⟨i,jG,e⟩)];have:=oA ns j;omega
  .have:=lu ns k ⟨i,j,jG,by omega,e⟩
   split<;>omega
theorem Hn(ns:List ByteArray)(s:ByteArray)(z:DataW Unit):∀k j,j<k->ns.getD j Iw=s->(∀i,j<i->i<k->ns.getD i Iw≠s)->(Dm ns k).atKey (kS s) z=.lit (.int O j)
 |0,j,hj,_,_=>by omega
 |k+1,j,hj,e,h=>by
  by_cases L6:j=k
  .subst L6
   subst e;rw[Dm,atKey_put_same (oR ns j).isMap (nS _)]
  .rw[Dm,atKey_put_other (yx (λx=>h k (by omega) (by omega) x.symm))]
   exact Hn ns s z k j (by omega) e (λi hi hk=>h i hi (by omega))
end Go.Proofs.YtfidhgjmifendaaGreatDoor
namespace Go.Proofs.YtfidhgjmifendaaGreatDoor
open Go.RowKit
theorem dh(a b:Mem)(w:World) :
 aF 122 #[Ik #[Y a.name,U O a.state,U O a.aM,U O a.addr,Ia a.server],Ik #[Y b.name,U O b.state,U O b.aM,U O b.addr,Ia b.server]] w λe w'=>e=AT (U O (bO a.name b.name))/\Below w.heap.size w w':=by
 go_enter Tryz.func122,Tryz.ntmps122;go_wp2_with (go_at_call 49;refine(gr _ _ _).mono ?_;rintro e w' ⟨rfl,rfl⟩);go_ret;exact⟨rfl,((Ib _ _).alloc (Ic _) _).alloc (by simp) _⟩
theorem gk(a b:Mem)(w:World) :
 aF 208 #[Ik #[Y a.name,U O a.state,U O a.aM,U O a.addr,Ia a.server],Ik #[Y b.name,U O b.state,U O b.aM,U O b.addr,Ia b.server]] w λe w'=>e=AT (Ia (eH a b))/\Below w.heap.size w w':=by
 refine(vp a.name b.name a.state a.aM a.addr a.server b.state b.aM b.addr b.server w).mono ?_;rintro e w' ⟨rfl,rfl⟩;exact⟨rfl,((Ib _ _).alloc (Ic _) _).alloc (by simp) _⟩
theorem jE(ms:List Mem)(b off cap:Nat)(w:World)(hr:Row w b off ms)(hb:b<w.heap.size)(hn:ms.length<=20) :
 Calls AS 121 #[J (AI ⟨b,off,be⟩) ms.length cap,IP (.func 122) #[] #[]] w λe w'=>e=AT (Ia (aK ms))/\Below w.heap.size w w':=by
 have HR:Hid (Row w b off ms):=hr;clear hr;have H4:Hid (∀k,k+1<ms.length->0<=bO (ms.getD k dm).name (ms.getD (k+1) dm).name->aK ms=false):=λk hk hl=>by
  rcases h:aK ms with _|_
  .rfl
  .have:=fq ms h k hk;omega
 have H0:Hid ((∀j,j+1<ms.length->bO (ms.getD j dm).name (ms.getD (j+1) dm).name<0)->aK ms=true):=fp ms;generalize hN:ms.length=n at *;have HN:Hid (ms.length=n):=hN;clear hN;generalize hC:aK ms=res at *;have HC:Hid (aK ms=res):=hC;clear hC;go_enter Tryz.func121,Tryz.ntmps121;go_wp2_with fail;go_loopw [5] (λi w'=>∃k:Nat,(k+1<=n\/k=0)/\i=U O (k+1)/\Below w.heap.size w w'/\Hid (∀j,j<k->bO (ms.getD j dm).name (ms.getD (j+1) dm).name<0)) (λi _=>n-(intOf i).toNat)
 case atStart=>exact⟨0,.inr rfl,rfl,Ib _ _,λj h=>absurd h (Jl _)⟩
 case round=>
  obtain⟨q,hq,rfl,aN,hz⟩:=hrel;obtain⟨eG,nt⟩:=cj aN;have cC:=aN.size;by_cases aR:q+1<n
  .have F:=((HR.out q (by rw[HN.out];omega)).eq (λo=>eG b o hb)).re
   have G:=((HR.out (q+1) (by rw[HN.out];exact aR)).eq (λo=>eG b o hb)).re;have HK:Hid (0<=bO (ms.getD q dm).name (ms.getD (q+1) dm).name->res=false):=λh=>H4.out q aR h;have HZ:Hid (bO (ms.getD q dm).name (ms.getD (q+1) dm).name<0->∀j,j<q+1->bO (ms.getD j dm).name (ms.getD (j+1) dm).name<0):=λh j hj=>by
    rcases I8.1 hj with h2|rfl
    .exact hz.out j h2
    .exact h
   generalize ms.getD q dm=m1 at *;generalize ms.getD (q+1) dm=m2 at *;have hN:∀d os,Calls AS 122 #[Ik #[Y m1.name,U O m1.state,U O m1.aM,U O m1.addr,Ia m1.server],Ik #[Y m2.name,U O m2.state,U O m2.aM,U O m2.addr,Ia m2.server]] (Ij (Iv wr d) os) λe fD=>e=AT (U O (bO m1.name m2.name))/\∃p:JI,fD=Ij (Iv wr p.d) p.os:=λd os=>IU (dh m1 m2 _);simp only[As] at F G;clear eG nt;generalize bO m1.name m2.name=r at *;have Gt:IntKind.i64.wrap (q:Int)=(q:Int):=by rw[IntKind.wrap_i64];omega
   have Ea:q<n:=by omega
   have hq1:(q:Int)+1<(n:Int):=by omega
   have hq0:(0:Int)<=(q:Int)+1:=by omega
   have DW:((q:Int)+1).toNat=q+1:=by omega
   go_wp2_with fail;refine IA (by kernel_rfl) (by kernel_rfl) ?_;repeat(quiet_step (exact hN _ _))
   refine bE λdq gT dR=>?_;clear hN F G;by_cases hl:r<0
   .have mo:¬ (0<=r):=by omega
    go_wp2_with fail;go_roundw
    case rel=>exact⟨q+1,.inl (by omega),by go_num,aN.trans (dR.out.mono cC),HZ.out hl⟩
    case measure=>simp[intOf];omega
   .have mo:0<=r:=by omega
    have h4:Hid (res=false):=HK.out mo;go_wp2_with fail;go_ret;exact⟨aL h4.out.symm,aN.trans (dR.out.mono cC)⟩
  .have h0:Hid (res=true):=H0.out λj hj=>hz.out j (by omega)
   go_wp2_with fail;go_ret;exact⟨aL h0.out.symm,aN⟩
theorem gm(a:Option Addr)(cap:Nat)(fv:Value)(w:World) :
 Calls AS 121 #[J a 0 cap,fv] w λe w'=>e=AT (Ia true)/\w'=w:=by
 go_enter Tryz.func121,Tryz.ntmps121;go_wp2_with fail;go_loop [5] (λi=>i=U O 1) (λ_=>0)
 case atStart=>rfl
 case round=>
  subst hrel;go_wp2_with fail;go_ret;exact⟨rfl,rfl⟩
theorem gn(ms:List Mem)(b off cap:Nat)(lk:Mem)(w:World)(hr:Row w b off ms)(hb:b<w.heap.size)(hn:ms.length<=40)(gW:∀i j,i<=j->j<ms.length->bO (ms.getD j dm).name lk.name<0->bO (ms.getD i dm).name lk.name<0) :
 Calls AS 243 #[J (AI ⟨b,off,be⟩) ms.length cap,Ik #[Y lk.name,U O lk.state,U O lk.aM,U O lk.addr,Ia lk.server],IP (.func 122) #[] #[]] w λe w'=>∃(p:Nat) (f:Bool),e=AT (Im #[U O p,Ia f])/\Below w.heap.size w w' /\
  p<=ms.length/\(∀j,j<p->bO (ms.getD j dm).name lk.name<0)/\(∀j,p<=j->j<ms.length->0<=bO (ms.getD j dm).name lk.name)/\(f=true↔p<ms.length/\bO (ms.getD p dm).name lk.name=0):=by
 have HR:Hid (Row w b off ms):=hr;clear hr;have HM:Hid _:=gW;clear gW;generalize hN:ms.length=n at *;have HN:Hid (ms.length=n):=hN;clear hN;go_enter Tryz.func243,Tryz.ntmps243;go_wp2_with fail;obtain⟨W0,bA,bM,eE,dF⟩:=bV w #[Y lk.name,U O lk.state,U O lk.aM,U O lk.addr,Ia lk.server] 50;have El:Hid (Row W0 b off ms):=HR.out.later bM hb;have HT:Hid (As W0 w.heap.size 0 lk):=⟨ae dF 0,ae dF 1,ae dF 2,ae dF 3,ae dF 4⟩;have cY:Hid (Below w.heap.size w W0):=bM;have sI:Hid (W0=w.alloc (By #[Y lk.name,U O lk.state,U O lk.aM,U O lk.addr,Ia lk.server] 50)):=bA;clear dF bM HR bA;have wA:b<w.heap.size+1:=by omega
 go_loopw [9,10] (λi j w'=>∃k l:Nat,k<=l/\l<=n/\i=U O k/\j=U O l/\Below (w.heap.size+1) W0 w'/\Hid (∀j,j<k->bO (ms.getD j dm).name lk.name<0)/\Hid (∀j,l<=j->j<n->0<=bO (ms.getD j dm).name lk.name)) (λi j _=>(intOf j).toNat-(intOf i).toNat)
 case atStart=>exact⟨0,n,IH _,Ic _,rfl,rfl,by rw[sI.out];exact Ib _ _,λj h=>absurd h (Jl _),λj h1 h2=>by omega⟩
 case round=>
  obtain⟨k,l,iI,KG,rfl,rfl,aN,yd,ye⟩:=hrel;have cC:=aN.size;have eG:∀b o,b<w.heap.size+1->wr.cell? ⟨b,o,be⟩=W0.cell? ⟨b,o,be⟩:=λb o h=>aN.cell (p:=⟨b,o,be⟩) h;have G:=(HT.out.eq (λo=>eG w.heap.size o (by omega))).re;simp only[As,ID] at G;by_cases aR:k<l
  .obtain⟨h,hh,h1,h2⟩:∃h:Nat,((k:Int)+(l:Int))/2=(h:Int)/\k<=h/\h<l:=⟨(k+l)/2,by omega,by omega,by omega⟩
   have F:=((El.out h (by rw[HN.out];omega)).eq (λo=>eG b o wA)).re;have po:=HM.out;have HK:Hid (bO (ms.getD h dm).name lk.name<0->∀j,j<h+1->bO (ms.getD j dm).name lk.name<0):=λhx j hj=>po j h (by omega) (by omega) hx;have HL:Hid (0<=bO (ms.getD h dm).name lk.name->∀j,h<=j->j<n->0<=bO (ms.getD j dm).name lk.name):=λhx j hj Cz=>by
    apply Int.not_lt.1;intro hq;have:=po h j hj Cz hq;omega
   clear po;have hhn:h<n:=by omega
   generalize ms.getD h dm=m at *;have hO:∀d os,Calls AS 122 #[Ik #[Y m.name,U O m.state,U O m.aM,U O m.addr,Ia m.server],Ik #[Y lk.name,U O lk.state,U O lk.aM,U O lk.addr,Ia lk.server]] (Ij (Iv wr d) os) λe fD=>e=AT (U O (bO m.name lk.name))/\∃p:JI,fD=Ij (Iv wr p.d) p.os:=λd os=>IU (dh m lk _);simp only[As] at F;clear eG;generalize bO m.name lk.name=r at *;go_wp2_with fail;refine IA (by kernel_rfl) (by kernel_rfl) ?_;repeat(quiet_step (exact hO _ _))
   refine bE λdq gT dR=>?_;clear hO F G;by_cases uV:r<0
   .go_wp2_with fail
    exact⟨⟨h+1,l,by omega,by omega,by go_num,rfl,aN.trans (dR.out.mono (by omega)),HK.out uV,ye⟩,by simp[intOf];omega⟩
   .have zv:0<=r:=by omega
    go_wp2_with fail;exact⟨⟨k,h,by omega,by omega,rfl,rfl,aN.trans (dR.out.mono (by omega)),yd,HL.out zv⟩,by simp[intOf];omega⟩
  .have BZ:l=k:=by omega
   subst BZ;by_cases gK:l<n
   .have F:=((El.out l (by rw[HN.out];omega)).eq (λo=>eG b o wA)).re
    generalize hm:ms.getD l dm=m at *;have Hm:Hid (ms.getD l dm=m):=hm;clear hm;have hO:∀d os,Calls AS 122 #[Ik #[Y m.name,U O m.state,U O m.aM,U O m.addr,Ia m.server],Ik #[Y lk.name,U O lk.state,U O lk.aM,U O lk.addr,Ia lk.server]] (Ij (Iv wr d) os) λe fD=>e=AT (U O (bO m.name lk.name))/\∃p:JI,fD=Ij (Iv wr p.d) p.os:=λd os=>IU (dh m lk _);simp only[As] at F;clear eG;generalize EY:bO m.name lk.name=r at *;have Hr:Hid (bO m.name lk.name=r):=EY;clear EY;go_wp2_with fail;refine IA (by kernel_rfl) (by kernel_rfl) ?_;repeat(quiet_step (exact hO _ _))
    refine bE λdq gT dR=>?_;clear hO F G;go_wp2_with fail;go_ret2;refine⟨l,_,rfl,cY.out.trans ((aN.trans (dR.out.mono (by omega))).mono (by omega)),by omega,yd.out,ye.out,?_⟩;rw[Hm.out,Hr.out];simp[gK]
   .clear G
    have hkd:decide ((l:Int)<(n:Int))=false:=by simp;omega
    go_wp2_with fail;go_quiet (fail)
    go_wp2_with fail;go_ret2;refine⟨l,_,rfl,cY.out.trans ((Jc aN _).mono (by omega)),by omega,yd.out,ye.out,?_⟩;simp[gK]
theorem fw(a:Option Addr)(cap:Nat)(lk:Mem)(fv:Value)(w:World) :
 Calls AS 243 #[J a 0 cap,Ik #[Y lk.name,U O lk.state,U O lk.aM,U O lk.addr,Ia lk.server],fv] w λe w'=>e=AT (Im #[U O 0,Ia false])/\Below w.heap.size w w':=by
 go_enter Tryz.func243,Tryz.ntmps243;go_wp2_with fail;go_loop [9,10] (λi j=>i=U O 0/\j=U O 0) (λ_ _=>0)
 case atStart=>exact⟨rfl,rfl⟩
 case round=>
  obtain⟨rfl,rfl⟩:=hrel;go_wp2_with fail;go_quiet (fail)
  go_wp2_with fail;go_ret2;exact⟨rfl,Jc ((Ib _ _).alloc (Ic _) _) _⟩
theorem fx(ms:List Mem)(v:Value)(lk:Mem)(w:World)(h:Sl w v ms)(hn:ms.length<=40)(gW:∀i j,i<=j->j<ms.length->bO (ms.getD j dm).name lk.name<0->bO (ms.getD i dm).name lk.name<0) :
 Calls AS 243 #[v,Ik #[Y lk.name,U O lk.state,U O lk.aM,U O lk.addr,Ia lk.server],IP (.func 122) #[] #[]] w λe w'=>∃(p:Nat) (f:Bool),e=AT (Im #[U O p,Ia f])/\Below w.heap.size w w'/\At ms lk.name p f:=by
 obtain⟨a,cap,rfl,hs,h⟩:=h;rcases h with rfl|⟨b,off,rfl,hb,hr⟩
 .refine(fw a cap lk _ w).mono ?_
  rintro e w' ⟨rfl,hb⟩;exact⟨0,false,rfl,hb,⟨by simp,λj h=>by omega,λj h h2=>by simp at h2,by simp⟩⟩
 .refine(gn ms b off cap lk w hr hb hn gW).mono ?_
  rintro e w' ⟨p,f,rfl,aN,g1,g2,g3,g4⟩;exact⟨p,f,rfl,aN,⟨g1,g2,g3,g4⟩⟩
theorem fm(ms:List Mem)(v:Value)(lk:Mem)(w:World)(h:Sl w v ms)(hn:ms.length<=40)(hr:bl ms) :
 Calls AS 211 #[v,Ik #[Y lk.name,U O lk.state,U O lk.aM,U O lk.addr,Ia lk.server],IP (.func 122) #[] #[]] w λe w'=>∃(p:Nat) (f:Bool),e=AT (Im #[U O p,Ia f])/\Below w.heap.size w w'/\At ms lk.name p f:=by
 have HC:Hid (∀w',Below w.heap.size w w'->Calls AS 243 #[v,Ik #[Y lk.name,U O lk.state,U O lk.aM,U O lk.addr,Ia lk.server],IP (.func 122) #[] #[]] w' λe fD=>∃(p:Nat) (f:Bool),e=AT (Im #[U O p,Ia f])/\Below w'.heap.size w' fD/\At ms lk.name p f):=
  λw' hb=>fx ms v lk w' (h.below hb) hn (dO hr lk.name)
 clear h hn hr;go_enter Tryz.func211,Tryz.ntmps211;go_wp2_with (go_at_call 243;refine(HC.out _ ?hb).mono ?_)
 case hb=>exact(Ib _ _).alloc (Ic _) _
 rintro e w' ⟨p,f,rfl,aN,cH⟩;have fb:Hid (At ms lk.name p f):=cH;clear cH;go_wp2_with fail;go_ret2;exact⟨p,f,rfl,((Ib _ _).alloc (Ic _) _).trans (aN.mono (by simp)),fb.out⟩
theorem lM{a b:List Mem}(gH:a.length<=20)(gE:b.length<=20)(k:Nat):(dE a b k).length<=40:=by
 unfold dE;split
 .simp
 .split
  .omega
  .have:=df b a;omega
structure Bn(w:World)(pb:Nat)(a b:List Mem)(k:Nat)(l:List Mem)(pk:Option Addr)(ck:Nat):Prop where
 cell:w.cell? ⟨pb,k,be⟩=AI (J pk l.length ck)
 row:l=[]\/∃b off,pk=AI ⟨b,off,be⟩/\b<w.heap.size/\Row w b off l
 H8:∀m∈l,(m).name.size<=Io
 len:l.length<=20
 Bo:(dE a b k).length<=20
 tm:bl (dE a b k)
 Bp:∀m∈dE a b k,(m).name.size<=Io
 step:dE a b (k+1)=av (dE a b k) l
theorem oq{a b:List Mem}{va vb:Value}{pb:Nat}{w:World}(ha:Sl w va a)(hb:Sl w vb b)(hc0:w.cell? ⟨pb,0,be⟩=AI va)(hc1:w.cell? ⟨pb,1,be⟩=AI vb)(gH:a.length<=20)(gE:b.length<=20)(ra:bl a)(k:Nat)(hk:k<2) :
 ∃l pk ck,Bn w pb a b k l pk ck:=by
 obtain⟨pa,ca,rfl,Ka,ha⟩:=ha;obtain⟨pv,cb,rfl,Sj,hb⟩:=hb;have gi:k=0\/k=1:=by omega
 rcases gi with rfl|rfl
 .exact⟨a,pa,ca,hc0,ha,dt Ka,gH,by simp[dE],by simp[dE],by simp[dE],(iu a ra).symm⟩
 .exact⟨b,pv,cb,hc1,hb,dt Sj,gE,gH,ra,dt Ka,rfl⟩
theorem iv(a b:List Mem)(va vb:Value)(pb cap:Nat)(w:World)(ha:Sl w va a)(hb:Sl w vb b)(hpb:pb<w.heap.size)(hc0:w.cell? ⟨pb,0,be⟩=AI va)(hc1:w.cell? ⟨pb,1,be⟩=AI vb)(gH:a.length<=20)(gE:b.length<=20)(ra:bl a) :
 Calls AS 209 #[IP (.func 122) #[] #[],IP (.func 208) #[] #[],J (AI ⟨pb,0,be⟩) 2 cap] w λe w'=>∃v',e=AT v'/\Own w.heap.size w' v' (av a b)/\Below w.heap.size w w':=by
 have HK:Hid (∀k,k<2->∃l pk ck,Bn w pb a b k l pk ck):=λk hk=>oq ha hb hc0 hc1 gH gE ra k hk;have uG:Hid (∀k,(dE a b k).length<=40):=lM gH gE;clear ha hb hc0 hc1 gH gE ra;go_enter Tryz.func209,Tryz.ntmps209;go_wp2_with fail;go_loopw [7,16] (λkn i w'=>∃k:Nat,k<=2/\i=U O k/\Below w.heap.size w w'/\Hid (Own w.heap.size w' kn (dE a b k))) (λ_ i _=>2-(intOf i).toNat)
 case atStart=>exact⟨0,by omega,rfl,Ib _ _,bX _ _⟩
 case round=>
  obtain⟨k,hk,rfl,aN,HO⟩:=hrel;obtain⟨eG,nt⟩:=cj aN;have cC:=aN.size;by_cases jd:k<2
  .obtain⟨l,pk,ck,ot⟩:=HK.out k jd
   have ou:Hid (Bn w pb a b k l pk ck):=ot;have fS:=ot.cell;clear ot;generalize qW:l.length=nl at *;have jZ:Hid (l.length=nl):=qW;clear qW;have Kb:nl<=20:=by have:=ou.out.len;have:=jZ.out;omega
   have Sk:(k:Int)<2:=by omega
   go_wp2_with fail;go_loopw [7,22] (λkn j w'=>∃q:Nat,q<=nl/\j=U O q/\Below w.heap.size w w'/\Hid (Own w.heap.size w' kn (av (dE a b k) (l.take q)))) (λ_ j _=>nl-(intOf j).toNat)
   case atStart=>exact⟨0,IH _,rfl,aN,HO⟩
   case round=>
    clear eG nt cC aN HO fS;obtain⟨q,hq,rfl,aN,HO⟩:=hrel;obtain⟨eG,nt⟩:=cj aN;have cC:=aN.size;by_cases aR:q<nl
    .obtain⟨b2,off,Bq,PC,cO⟩:∃wY off,pk=AI ⟨wY,off,be⟩/\wY<w.heap.size/\Row w wY off l:=by
      rcases ou.out.row with h|h
      .have:=jZ.out;rw[h] at this;simp at this;omega
      .exact h
     subst Bq;obtain⟨c0,c1,c2,c3,c4⟩:=cO q (by rw[jZ.out];exact aR);clear cO;have HJ:Hid (av (dE a b k) (l.take (q+1))=aQ (av (dE a b k) (l.take q)) (l.getD q dm)):=gj (dE a b k) l q (by rw[jZ.out];exact aR);have HR:Hid (bl (av (dE a b k) (l.take q))):=dD _ _ ou.out.tm;have ML:Hid (∀j,((av (dE a b k) (l.take q)).getD j dm).name.size<=Io):=cy (iJ _ _ ou.out.Bp (λx hx=>ou.out.H8 x (List.mem_of_mem_take hx)));have HL:Hid ((av (dE a b k) (l.take q)).length<=40):=by
      have h1:=df (l.take q) (dE a b k);have h2:(l.take q).length<=q:=List.length_take_le _ _;have h3:=ou.out.Bo;show(av (dE a b k) (l.take q)).length<=40;omega
     generalize l.getD q dm=m at *;generalize av (dE a b k) (l.take q)=known at *;have D9:known.length<=40:=HL.out;obtain⟨W1,cQ,aB,fh,cI⟩:=bV wr #[Y m.name,U O m.state,U O m.aM,U O m.addr,Ia m.server] 50;have lz:Hid (Own w.heap.size W1 u7 known):=HO.out.below aB;have HF:Hid (Calls AS 211 #[u7,Ik #[Y m.name,U O m.state,U O m.aM,U O m.addr,Ia m.server],IP (.func 122) #[] #[]] W1 λe w'=>∃(p:Nat) (f:Bool),e=AT (Im #[U O p,Ia f])/\Below W1.heap.size W1 w'/\At known m.name p f):=
      fm known u7 m W1 (lz.out.sl ML.out) HL.out HR.out
     have aY:Hid (Below w.heap.size w W1):=aN.trans (aB.mono cC);have HT:Hid (As W1 wr.heap.size 0 m):=⟨ae cI 0,ae cI 1,ae cI 2,ae cI 3,ae cI 4⟩;have nV:Hid _:=cQ;have uP:w.heap.size<=W1.heap.size:=by omega
     clear cI aB HO HL HR cQ;go_wp2_with fail;rw[<- nV.out];refine HF.out.mono ?_;rintro e w2 ⟨p,f,rfl,aI,cH⟩;have fb:Hid _:=cH;have Sm:=cH.le;have Sn:=aI.size;have gZ:Hid (Own _ _ _ _):=lz.out.below aI;have bp:Hid _:=aY.out.trans (aI.mono uP);have wM:Hid (As w2 wr.heap.size 0 m):=HT.out.eq (λo=>aI.cell (p:=⟨wr.heap.size,o,be⟩) (by show wr.heap.size<W1.heap.size;omega));obtain⟨t0,t1,t2,t3,t4⟩:w2.cell? ⟨wr.heap.size,0,be⟩=AI (Y m.name)/\w2.cell? ⟨wr.heap.size,1,be⟩=AI (U O m.state)/\w2.cell? ⟨wr.heap.size,2,be⟩=AI (U O m.aM)/\w2.cell? ⟨wr.heap.size,3,be⟩=AI (U O m.addr)/\w2.cell? ⟨wr.heap.size,4,be⟩=AI (Ia m.server):=wM.out;have iU:w.heap.size<=w2.heap.size:=by omega
     have Br:wr.heap.size<w2.heap.size:=by omega
     clear cH HF eG nt c0 c1 c2 c3 c4 aI lz aY HT;cases f
     .have aT:Hid (u7.ownBlock≠AI w2.heap.size):=λe=>by have:=gZ.out.lt _ e;omega
      have dY:Hid (Own w.heap.size (w2.alloc (By #[Y m.name,U O m.state,U O m.aM,U O m.addr,Ia m.server] 50)) u7 known):=gZ.out.below ((Ib _ _).alloc (Ic _) _);have o5:Hid ((w2.alloc (By #[Y m.name,U O m.state,U O m.aM,U O m.addr,Ia m.server] 50)).heap[w2.heap.size]?=AI (By m.cs.toArray 50 (0,0))):=Ii w2 _;go_wp2_with (go_at_call 242;refine(fk w.heap.size p w2.heap.size u7 known m _ dY.out fb.out.le (by omega) (by simp;omega) o5.out aT.out).mono ?_;rintro e w4 ⟨v',rfl,g1,g2⟩);go_roundw
      case rel=>
       have ja:∃ov:Nat,ov<=nl/\U O ((q:Int)+1)=U O ov/\Below w.heap.size w w4/\Hid (Own w.heap.size w4 v' (av (dE a b k) (l.take ov))):=⟨q+1,by omega,by go_num,fe (bp.out.alloc iU _) dY.out g2 (by simp;omega),by rw[HJ.out,da known m p false fb.out];exact g1⟩;first|exact ja|((repeat apply Exists.intro);exact⟨ja,rfl⟩)
      case measure=>simp[intOf];omega
     .have hp:p<known.length:=(fb.out.is.1 rfl).1
      obtain⟨g,c,hu⟩:=jH gZ.out p hp;subst hu;have F:=(ez gZ.out p hp).re;have di:=gZ.out.lt g rfl;have MN:g<w2.heap.size:=di.2;generalize hm:known.getD p dm=m2 at *;have Hm:Hid _:=hm;clear hm;have hN:∀d os,Calls AS 208 #[Ik #[Y m.name,U O m.state,U O m.aM,U O m.addr,Ia m.server],Ik #[Y m2.name,U O m2.state,U O m2.aM,U O m2.addr,Ia m2.server]] (Ij (Iv w2 d) os) λe fD=>e=AT (Ia (eH m m2))/\∃p:JI,fD=Ij (Iv w2 p.d) p.os:=λd os=>IU (gk m m2 _);have G:=wM.out.re;simp only[As,ID] at F G;have qT:∀o,w2.frozen? ⟨g,o,be⟩=false:=λo=>I7 gZ.out o;have TR:Hid _:=qT;clear qT t0 t1 t2 t3 t4;generalize Kc:eH m m2=nw at *;have Kd:Hid _:=Kc;clear Kc;go_wp2_with fail;refine IA (by kernel_rfl) (by kernel_rfl) ?_;repeat(quiet_step (exact hN _ _))
      refine bE λdq gT dR=>?_;clear hN F G;cases nw
      .go_wp2_with fail
       go_roundw
       case rel=>
        have ja:∃ov:Nat,ov<=nl/\U O ((q:Int)+1)=U O ov/\Below w.heap.size w (Ij (Iv w2 dq) gT)/\Hid (Own w.heap.size (Ij (Iv w2 dq) gT) (J (AI ⟨g,0,be⟩) known.length c) (av (dE a b k) (l.take ov))):=⟨q+1,by omega,by go_num,bp.out.trans (dR.out.mono iU),by rw[HJ.out,da known m p true fb.out,if_pos rfl,Hm.out,if_neg (λh=>Bool.false_ne_true (Kd.out.symm.trans h))];exact gZ.out.below dR.out⟩;first|exact ja|((repeat apply Exists.intro);exact⟨ja,rfl⟩)
       case measure=>simp[intOf];omega
      .generalize Ij (Iv w2 dq) gT=w3 at *
       have dY:Hid (Own _ _ _ _):=gZ.out.below dR.out;obtain⟨c0,c1,c2,c3,c4⟩:=ez dY.out p hp;rw[Hm.out] at c0 c1 c2 c3 c4;have lh:=(dY.out.lt g rfl).2;have qT:∀o,w3.frozen? ⟨g,o,be⟩=false:=λo=>I7 dY.out o;obtain⟨s0,s1,s2,s3,s4⟩:w3.cell? ⟨wr.heap.size,0,be⟩=AI (Y m.name)/\w3.cell? ⟨wr.heap.size,1,be⟩=AI (U O m.state)/\w3.cell? ⟨wr.heap.size,2,be⟩=AI (U O m.aM)/\w3.cell? ⟨wr.heap.size,3,be⟩=AI (U O m.addr)/\w3.cell? ⟨wr.heap.size,4,be⟩=AI (Ia m.server):=wM.out.eq (λo=>dR.out.cell (p:=⟨wr.heap.size,o,be⟩) Br);go_wp2_with fail;refine⟨⟨q+1,by omega,by go_num,?_,?_⟩,by simp[intOf];omega⟩
       .exact((((((bp.out.trans (dR.out.mono iU)).setCell (p:=⟨g,p*5,be⟩) di.1 (Y m.name)).setCell (p:=⟨g,p*5+1,be⟩) di.1 (U O m.state)).setCell (p:=⟨g,p*5+2,be⟩) di.1 (U O m.aM)).setCell (p:=⟨g,p*5+3,be⟩) di.1 (U O m.addr)).setCell (p:=⟨g,p*5+4,be⟩) di.1 (Ia m.server))
       .rw[HJ.out,da known m p true fb.out,if_pos rfl,Hm.out,if_pos Kd.out]
        exact lq dY.out hp m
    .have Ea:q=nl:=by omega
     subst Ea;have dY:Hid (Own w.heap.size wr u7 (dE a b (k+1))):=by
      have h:=HO.out;rw[List.take_of_length_le (by rw[jZ.out];exact Ic _)] at h;rw[ou.out.step];exact h
     go_wp2_with fail;go_roundw
     case rel=>exact⟨k+1,by omega,by go_num,aN,dY⟩
     case measure=>simp[intOf];omega
  .have jw:k=2:=by omega
   subst jw;go_wp2_with fail;go_ret;exact⟨_,rfl,HO.out,aN⟩
theorem fV(m:Mem)(w:World)(hm:m.name.size<=Io) :
 Calls AS 120 #[Ik #[Y m.name,U O m.state,U O m.aM,U O m.addr,Ia m.server]] w λe w'=>e=AT (U O m.e)/\Below w.heap.size w w':=by
 refine(xt m.name m.state m.aM m.addr m.server w hm).mono ?_;rintro e w' ⟨rfl,rfl⟩;exact⟨rfl,(Ib _ _).alloc (Ic _) _⟩
theorem iG(ms:List Mem)(b off cap:Nat)(w:World)(hr:Row w b off ms)(hb:b<w.heap.size)(hn:ms.length<=20)(hs:∀j,(ms.getD j dm).name.size<=Io) :
 Calls AS 70 #[J (AI ⟨b,off,be⟩) ms.length cap] w λe w'=>e=AT (U O (bj ms))/\Below w.heap.size w w':=by
 have HR:Hid (Row w b off ms):=hr;have HE:Hid (∀k,k<ms.length->(∀j,j<k->(ms.getD j dm).e=0)->(ms.getD k dm).e≠0->bj ms=(ms.getD k dm).e):=λk h1 h2 h3=>tC ms k hn h1 h2 h3;have H4:Hid ((∀j,j<ms.length->(ms.getD j dm).e=0)->bj ms=if aK ms=true then 0 else 4):=λh1=>qZ ms hn h1;have KL:Hid (∀w',Below w.heap.size w w'->Calls _ _ _ _ _):=λw' Ay=>jE ms b off cap w' (hr.later Ay hb) (IJ hb Ay.size) hn;clear hr;generalize hN:ms.length=n at *;have HN:Hid _:=hN;clear hN;have HS:Hid _:=hs;clear hs;generalize hC:bj ms=res at *;have HC:Hid _:=hC;clear hC;generalize KM:aK ms=rb at *;have L8:Hid _:=KM;clear KM;go_enter Tryz.func70,Tryz.ntmps70;go_wp2_with fail;go_loopw [11] (λi w'=>∃k:Nat,k<=n/\i=U O k/\Below w.heap.size w w'/\Hid (∀j,j<k->(ms.getD j dm).e=0)) (λi _=>n-(intOf i).toNat)
 case atStart=>exact⟨0,IH _,rfl,Ib _ _,λj h=>absurd h (Jl _)⟩
 case round=>
  obtain⟨k,hk,rfl,aN,hz⟩:=hrel;obtain⟨eG,nt⟩:=cj aN;have cC:=aN.size;by_cases aR:k<n
  .obtain⟨c0,c1,c2,c3,c4⟩:=HR.out k (by rw[HN.out];exact aR)
   have Dl:Hid _:=HS.out k;have HK:Hid ((ms.getD k dm).e≠0->res=(ms.getD k dm).e):=λh=>HE.out k aR hz.out h;have HZ:Hid ((ms.getD k dm).e=0->∀j,j<k+1->(ms.getD j dm).e=0):=λh j hj=>by
    rcases I8.1 hj with h2|rfl
    .exact hz.out j h2
    .exact h
   generalize ms.getD k dm=m at *;have HO:Hid (∀w,Calls _ _ _ _ _):=λw=>fV m w Dl.out;generalize m.e=me at *;rcases he:decide (me=0) with _|_
   .have kG:(me !=0)=true:=by simpa using he
    clear he;go_wp2_with (go_at_call 120;refine(HO.out _).mono ?_;rintro e w' ⟨rfl,aI⟩);go_ret;have aT:me≠0:=by simpa using kG
    have sL:=HK.out aT;exact⟨ai sL.symm,(aN.alloc cC _).trans (aI.mono (by simp;omega))⟩
   .have kG:(me !=0)=false:=by simpa using he
    clear he;go_wp2_with (go_at_call 120;refine(HO.out _).mono ?_;rintro e w' ⟨rfl,aI⟩);go_roundw
    case rel=>
     have P0:me=0:=by simpa using kG
     exact⟨k+1,by omega,by go_num,(aN.alloc cC _).trans (aI.mono (by simp;omega)),HZ.out P0⟩
    case measure=>simp[intOf];omega
  .have kp:Hid (∀j,j<n->(ms.getD j dm).e=0):=λj hj=>hz.out j (by omega)
   have oB:Hid _:=H4.out kp.out;clear hz kp H4 HE HC L8;cases rb
   .go_wp2_with (go_at_call 121;refine(KL.out _ aN).mono ?_;rintro e w' ⟨rfl,aI⟩)
    go_ret;exact⟨ai (by rw[oB.out];rfl),aN.trans (aI.mono cC)⟩
   .go_wp2_with (go_at_call 121;refine(KL.out _ aN).mono ?_;rintro e w' ⟨rfl,aI⟩)
    go_ret;exact⟨ai (by rw[oB.out];rfl),aN.trans (aI.mono cC)⟩
theorem gp(a:Option Addr)(n cap:Nat)(w:World)(hn:20<n) :
 Calls AS 70 #[J a n cap] w λe w'=>e=AT (U O 2)/\w'=w:=by
 go_enter Tryz.func70,Tryz.ntmps70;go_wp2_with fail;go_ret;exact⟨rfl,rfl⟩
theorem gq(a:Option Addr)(cap:Nat)(w:World) :
 Calls AS 70 #[J a 0 cap] w λe w'=>e=AT (U O 0)/\w'=w:=by
 go_enter Tryz.func70,Tryz.ntmps70;go_wp2_with fail;go_loop [11] (λi=>i=U O 0) (λ_=>0)
 case atStart=>rfl
 case round=>
  subst hrel;go_wp2_with (go_at_call 121;refine(gm _ _ _ _).mono ?_;rintro e w' ⟨rfl,rfl⟩);go_ret;exact⟨rfl,rfl⟩
theorem bo(ms:List Mem)(v:Value)(w:World)(h:Sl w v ms) :
 Calls AS 70 #[v] w λe w'=>e=AT (U O (bj ms))/\Below w.heap.size w w':=by
 obtain⟨a,cap,rfl,hs,h⟩:=h;by_cases hn:20<ms.length
 .refine(gp a ms.length cap w hn).mono ?_
  rintro e w' ⟨rfl,rfl⟩;exact⟨ai (by rw[bj,if_pos hn]),Ib _ _⟩
 .rcases h with rfl|⟨b,off,rfl,hb,hr⟩
  .refine(gq a cap w).mono ?_
   rintro e w' ⟨rfl,rfl⟩;exact⟨rfl,Ib _ _⟩
  .exact iG ms b off cap w hr hb (by omega) hs
theorem dJ(a b:List Mem)(va vb:Value)(pb cap:Nat)(w:World)(ha:Sl w va a)(hb:Sl w vb b)(hpb:pb<w.heap.size)(hc0:w.cell? ⟨pb,0,be⟩=AI va)(hc1:w.cell? ⟨pb,1,be⟩=AI vb) :
 Calls AS 207 #[J (AI ⟨pb,0,be⟩) 2 cap] w λe w'=>e=AT (U O (aO a b))/\Below w.heap.size w w':=by
 have HA:Hid (Sl w va a):=ha;have HB:Hid (Sl w vb b):=hb;clear ha hb;go_enter Tryz.func207,Tryz.ntmps207;go_wp2_with fail;go_loopw [8] (λi w'=>∃k:Nat,k<=2/\i=U O k/\Below w.heap.size w w'/\Hid (0<k->bj a=0)/\Hid (1<k->bj b=0)) (λi _=>2-(intOf i).toNat)
 case atStart=>exact⟨0,by omega,rfl,Ib _ _,λh=>by omega,λh=>by omega⟩
 case round=>
  obtain⟨k,hk,rfl,aN,dd,cX⟩:=hrel;obtain⟨eG,nt⟩:=cj aN;have cC:=aN.size;have Gn:Hid (Sl wr va a):=HA.out.below aN;have Gp:Hid (Sl wr vb b):=HB.out.below aN;have gi:k=0\/k=1\/k=2:=by omega
  rcases gi with rfl|rfl|rfl
  .rcases he:decide (bj a=0) with _|_
   .have kG:(bj a !=0)=true:=by simpa using he
    clear he;go_wp2_with (go_at_call 70;refine(bo a _ _ Gn.out).mono ?_;rintro e w' ⟨rfl,aI⟩);go_ret;exact⟨ai (by have h0:bj a≠0:=(by simpa using kG);rw[aO,if_neg h0]),aN.trans (aI.mono cC)⟩
   .have kG:(bj a !=0)=false:=by simpa using he
    clear he;go_wp2_with (go_at_call 70;refine(bo a _ _ Gn.out).mono ?_;rintro e w' ⟨rfl,aI⟩);go_roundw
    case rel=>exact⟨1,by omega,by go_num,aN.trans (aI.mono cC),λ_=>(by simpa using kG),λh=>by omega⟩
    case measure=>simp[intOf]
  .have h0:Hid _:=dd.out (by omega)
   rcases he:decide (bj b=0) with _|_
   .have kG:(bj b !=0)=true:=by simpa using he
    clear he;go_wp2_with (go_at_call 70;refine(bo b _ _ Gp.out).mono ?_;rintro e w' ⟨rfl,aI⟩);go_ret;exact⟨ai (by rw[aO,if_pos h0.out]),aN.trans (aI.mono cC)⟩
   .have kG:(bj b !=0)=false:=by simpa using he
    clear he;go_wp2_with (go_at_call 70;refine(bo b _ _ Gp.out).mono ?_;rintro e w' ⟨rfl,aI⟩);go_roundw
    case rel=>exact⟨2,by omega,by go_num,aN.trans (aI.mono cC),λ_=>h0.out,λ_=>(by simpa using kG)⟩
    case measure=>simp[intOf]
  .go_wp2_with fail
   go_ret;exact⟨ai (by rw[aO,if_pos (dd.out (by omega)),cX.out (by omega)]),aN⟩
theorem mI(a b:List Mem)(va vb:Value)(pb cap:Nat)(w:World)(ha:Sl w va a)(hb:Sl w vb b)(hpb:pb<w.heap.size)(hc0:w.cell? ⟨pb,0,be⟩=AI va)(hc1:w.cell? ⟨pb,1,be⟩=AI vb)(aT:aO a b≠0) :
 Calls AS 165 #[J (AI ⟨pb,0,be⟩) 2 cap] w λe w'=>e=AT (Im #[J be 0 0,U O (aE a b)])/\Below w.heap.size w w':=by
 have he:(aO a b !=0)=true:=by simpa using aT
 have HE:Hid (aE a b=aO a b):=if_neg aT;have pM:=dJ a b va vb pb cap w ha hb hpb hc0 hc1;have HC:Hid (Calls _ _ _ _ _):=pM;clear pM ha hb aT;go_enter Tryz.func165,Tryz.ntmps165;go_wp2_with (go_at_call 207;refine HC.out.mono ?_;rintro e w' ⟨rfl,aI⟩);go_ret2;exact⟨by rw[HE.out];rfl,aI⟩
theorem kN(a b:List Mem)(va vb:Value)(pb cap:Nat)(w:World)(ha:Sl w va a)(hb:Sl w vb b)(hpb:pb<w.heap.size)(hc0:w.cell? ⟨pb,0,be⟩=AI va)(hc1:w.cell? ⟨pb,1,be⟩=AI vb)(h0:aO a b=0) :
 Calls AS 165 #[J (AI ⟨pb,0,be⟩) 2 cap] w λe w'=>∃v',e=AT (Im #[v',U O (aE a b)])/\Below w.heap.size w w' /\
  (20<(av a b).length->v'=J be 0 0)/\((av a b).length<=20->Own w.heap.size w' v' (av a b)):=by
 have he:(aO a b !=0)=false:=by simpa using h0
 have Dn:bj a=0:=by unfold aO at h0;split at h0<;>assumption
 have P1:bj b=0:=by unfold aO at h0;rw[if_pos Dn] at h0;exact h0
 have za:=af Dn;have zb:=af P1;have HE:Hid (aE a b=if 20<(av a b).length then 2 else 0):=if_pos h0;have HC:Hid (Calls _ _ _ _ _):=dJ a b va vb pb cap w ha hb hpb hc0 hc1;have HJ:Hid (∀w1,Below w.heap.size w w1->Calls AS 209 #[IP (.func 122) #[] #[],IP (.func 208) #[] #[],J (AI ⟨pb,0,be⟩) 2 cap] w1 λe w'=>∃v',e=AT v'/\Own w1.heap.size w' v' (av a b)/\Below w1.heap.size w1 w'):=λw1 aB=>
  iv a b va vb pb cap w1 (ha.below aB) (hb.below aB) (IJ hpb aB.size) ((cj aB).1 pb 0 hpb |>.trans hc0) ((cj aB).1 pb 1 hpb |>.trans hc1) za.1 zb.1 za.2.1
 have D9:(av a b).length<=40:=by have h1:=df b a;have h2:=za.1;have h3:=zb.1;omega
 clear h0 Dn P1 za zb ha hb hc0 hc1;generalize av a b=jl at *;generalize GV:jl.length=n at *;have Ww:Hid _:=GV;clear GV;go_enter Tryz.func165,Tryz.ntmps165;go_wp2_with (go_at_call 207;refine HC.out.mono ?_;rintro e w1 ⟨rfl,aB⟩);refine(HJ.out w1 aB).mono ?_;rintro e w2 ⟨v',rfl,ho,aI⟩;have zD:∃p c,v'=J p n c:=by
  have hn:=Ww.out;rcases ho.2 with⟨h,h0⟩|⟨g,c,cur,h,_⟩
  .exact⟨be,0,by rw[h];congr 1;omega⟩
  .exact⟨_,c,by rw[h,hn]⟩
 obtain⟨p,c,rfl⟩:=zD;have P2:Hid _:=aB.trans (aI.mono aB.size);have dY:Hid (Own _ _ _ _):=ho.mono aB.size;clear ho aB aI HC HJ;by_cases aR:20<n
 .go_wp2_with fail
  go_ret2;refine⟨_,by rw[HE.out,if_pos aR];rfl,P2.out,λ_=>rfl,λh=>by omega⟩
 .go_wp2_with fail
  go_ret2;refine⟨J p n c,by rw[HE.out,if_neg aR];rfl,P2.out,λh=>by omega,λ_=>dY.out⟩
theorem nc(nm:ByteArray)(st lf ad:Int)(sv:Bool)(w:World) :
 aF 166 #[Ik #[Y nm,U O st,U O lf,U O ad,Ia sv]] w λe w'=>e=AT (J (AI ⟨w.heap.size+1,0,be⟩) 1 1)/\w'=(w.alloc (By #[Y nm,U O st,U O lf,U O ad,Ia sv] 50)).alloc (By #[Y nm,U O st,U O lf,U O ad,Ia sv] 50):=by
 go_enter Tryz.func166,Tryz.ntmps166;go_wp2;go_ret;exact⟨rfl,rfl⟩
def vX(x y:Mem):Bool:=x.name.toList==y.name.toList&&(x.state==y.state&&(x.aM==y.aM&&(x.addr==y.addr&&x.server==y.server)))
theorem vY(x y:Mem):vX x y=true↔x=y:=by
 obtain⟨n1,s1,l1,a1,v1⟩:=x;obtain⟨n2,s2,l2,a2,v2⟩:=y;simp only[vX,Bool.and_eq_true,beq_iff_eq,Mem.mk.injEq,Lib.toList_data];constructor
 .rintro⟨h1,h2,h3,h4,h5⟩;exact⟨qd h1,h2,h3,h4,h5⟩
 .rintro⟨rfl,h2,h3,h4,h5⟩;exact⟨rfl,h2,h3,h4,h5⟩
theorem S6(m1 m2:Mem)(w:World):(Op.equalIn 10000 50 (Ik #[Y m1.name,U O m1.state,U O m1.aM,U O m1.addr,Ia m1.server]) (Ik #[Y m2.name,U O m2.state,U O m2.aM,U O m2.addr,Ia m2.server])).run AS w=.ok (vX m1 m2) w:=by
 have u3:=IF;have u4:=Tryz.underlying4;have u9:=Jb;have a3:=Tryz.isAgg3;have z3:=Tryz.sizeOf3;have a4:=Tryz.isAgg4;have z4:=Tryz.sizeOf4;have a9:=Tryz.isAgg9;have z9:=Tryz.sizeOf9;have hS:Tryz.prog.underlying 50=AI (.struct (Tryz.prog.fieldsOf 50)):=by kernel_rfl
 have hp:Tryz.prog.stoodInHeld 50=false:=by kernel_rfl
 rw[show(10000:Nat)=9999+1 from rfl,run_equalIn_agg w 9999 50 _ _ hS hp];simp only[Program.fieldsOf,Tryz.underlying50];go_simp;unfold vX;by_cases h1:m1.name.toList=m2.name.toList<;>by_cases h2:m1.state=m2.state<;>by_cases h3:m1.aM=m2.aM<;>by_cases h4:m1.addr=m2.addr<;>by_cases h5:m1.server=m2.server<;>simp[h1,h2,h3,h4,h5]
theorem Wx(m1 m2:Mem)(w:World):Sem.run AS (binOp .neq 50 (Ik #[Y m1.name,U O m1.state,U O m1.aM,U O m1.addr,Ia m1.server]) (Ik #[Y m2.name,U O m2.state,U O m2.aM,U O m2.addr,Ia m2.server])) w=.ok (Ia (!vX m1 m2)) w:=by
 rw[run_neq_struct,S6];rfl
theorem E5(a b:List Mem)(va vb:Value)(w:World)(ha:Sl w va a)(hb:Sl w vb b)(yQ:a.length<=1000) :
 aF 167 #[va,vb] w λe w'=>∃r:Bool,e=AT (Ia r)/\(r=true↔a=b)/\Below w.heap.size w w':=by
 obtain⟨pa,ca,rfl,_,ha⟩:=ha;obtain⟨pv,cb,rfl,_,hb⟩:=hb;by_cases hl:a.length=b.length
 .have HA:Hid _:=ha
  have HB:Hid _:=hb;have HL:Hid _:=hl;clear ha hb;rw[<- hl];clear hl;generalize Dk:a.length=n at *;have HN:Hid _:=Dk;clear Dk;have alE:Tryz.prog.eqGuardType Tryz.prog.depth 50=false:=by kernel_rfl
  go_enter Tryz.func167,Tryz.ntmps167;go_wp2_with fail;go_loopw [13] (λi w'=>∃k:Nat,k<=n/\i=U O k/\Below w.heap.size w w'/\Hid (∀j,j<k->a.getD j dm=b.getD j dm)) (λi _=>n-(intOf i).toNat)
  case atStart=>exact⟨0,IH _,rfl,Ib _ _,λj h=>absurd h (Jl _)⟩
  case round=>
   obtain⟨k,hk,rfl,aN,hz⟩:=hrel;obtain⟨eG,nt⟩:=cj aN;have cC:=aN.size;by_cases aR:k<n
   .obtain⟨b1,o1,sX,Av,lg⟩:∃b off,pa=AI ⟨b,off,be⟩/\b<w.heap.size/\Row w b off a:=by
     rcases HA.out with h|h
     .have:=HN.out;rw[h] at this;simp at this;omega
     .exact h
    obtain⟨b2,o2,vC,mo,qU⟩:∃wY off,pv=AI ⟨wY,off,be⟩/\wY<w.heap.size/\Row w wY off b:=by
     rcases HB.out with h|h
     .have h2:=HN.out;have h3:=HL.out;rw[h] at h3;simp at h3;omega
     .exact h
    subst sX;subst vC;obtain⟨c0,c1,c2,c3,c4⟩:=lg k (by rw[HN.out];exact aR);obtain⟨d0,d1,d2,d3,d4⟩:=qU k (by have h2:=HN.out;have h3:=HL.out;omega);clear lg qU;have HF:Hid (a.getD k dm≠b.getD k dm->a≠b):=λh e=>h (by rw[e]);have HZ:Hid (a.getD k dm=b.getD k dm->∀j,j<k+1->a.getD j dm=b.getD j dm):=λh j hj=>by
     rcases I8.1 hj with h2|rfl
     .exact hz.out j h2
     .exact h
    have E6:=Wx (a.getD k dm) (b.getD k dm);generalize a.getD k dm=m1 at *;generalize b.getD k dm=m2 at *;rcases hs:vX m1 m2 with _|_
    .rw[hs] at E6
     have aT:Hid _:=HF.out (λe=>by rw[<- vY,hs] at e;cases e);go_wp2_with fail;go_quiet (fail)
     go_wp2_with fail;go_ret;exact⟨false,rfl,⟨λh=>(by cases h),λh=>absurd h aT.out⟩,Jc aN _⟩
    .rw[hs] at E6
     have heq:Hid _:=(vY m1 m2).1 hs;go_wp2_with fail;go_quiet (fail)
     go_wp2_with fail;go_roundw
     case rel=>exact⟨k+1,by omega,by go_num,Jc aN _,HZ.out heq.out⟩
     case measure=>simp[intOf];omega
   .have ja:Hid (a=b):=by
     apply List.ext_getElem (HN.out.trans HL.out);intro j h1 h2;have:=hz.out j (by have:=HN.out;omega);simpa[Iq,Ie h1,Ie h2] using this
    go_wp2_with fail;go_ret;exact⟨true,rfl,⟨λ_=>ja.out,λ_=>rfl⟩,aN⟩
 .have aT:((a.length:Int)!=(b.length:Int))=true:=by rw[bne_iff_ne];omega
  have HF:Hid (a≠b):=λe=>hl (by rw[e]);clear ha hb;go_enter Tryz.func167,Tryz.ntmps167;go_wp2_with fail;go_ret;exact⟨false,rfl,⟨λh=>(by cases h),λh=>absurd h HF.out⟩,Ib _ _⟩
theorem eV(ms:List Mem)(v:Value)(w:World)(h:Sl w v ms)(hn:ms.length<=1000) :
 aF 57 #[v] w λe w'=>∃v',e=AT v'/\Own w.heap.size w' v' ms/\Below w.heap.size w w':=by
 obtain⟨a,cap,rfl,hs,h⟩:=h;obtain⟨i0,fW,dd,gY,gG⟩:=info_parts Tryz.oe;cases a with
 |none=>
  have he:ms=[]:=by
   rcases h with h|⟨b,off,h,_⟩
   .exact h
   .cases h
  subst he;clear h hs;have gM:=λ(w:World)=>Lib.run_eql_slice_nil (P:=AS) w 34 50 be 0 cap 0 0 JN;simp only[List.length_nil,Option.isNone_none] at gM ⊢;go_enter Tryz.func57,Tryz.ntmps57;go_wp2_with fail;go_ret;exact⟨_,rfl,bX _ _,Ib _ _⟩
 |some a=>
  have gM:=λ(w:World)=>Lib.run_eql_slice_nil (P:=AS) w 34 50 (AI a) ms.length cap 0 0 JN;simp only[Option.isNone_some] at gM;have hnews:Hid (∀j u,(fl ms)[j]?=AI u->(w.alloc (By #[] 50)).cell? (a.add j)=AI u):=by
   intro j u hj;rcases h with h|⟨b,off,h,hb,hr⟩
   .subst h;simp[fl] at hj
   .cases h
    have RG:j<ms.length*5:=by rw[<- cM];exact(List.getElem?_eq_some_iff.1 hj).1
    have h1:=ec ms (j/5) (by omega) (j%5) (by omega);rw[show j/5*5+j%5=j by omega,hj] at h1;rw[Addr.add_lit,World.cell?_alloc_past (w:=w) _ b _ hb];obtain⟨c0,c1,c2,c3,c4⟩:=hr (j/5) (by omega);have bZ:j%5=0\/j%5=1\/j%5=2\/j%5=3\/j%5=4:=by omega
    rcases bZ with e|e|e|e|e
    .rw[show off+j=off+j/5*5 by omega,c0];rw[e] at h1;simpa[Mem.cs] using h1.symm
    .rw[show off+j=off+j/5*5+1 by omega,c1];rw[e] at h1;simpa[Mem.cs] using h1.symm
    .rw[show off+j=off+j/5*5+2 by omega,c2];rw[e] at h1;simpa[Mem.cs] using h1.symm
    .rw[show off+j=off+j/5*5+3 by omega,c3];rw[e] at h1;simpa[Mem.cs] using h1.symm
    .rw[show off+j=off+j/5*5+4 by omega,c4];rw[e] at h1;simpa[Mem.cs] using h1.symm
  have HO:Hid ((w.alloc (By #[] 50)).ownsRow w.heap.size 50 5 (J (AI ⟨w.heap.size,0,be⟩) 0 0) 0 []):=World.ownsRow_made w #[] 0 (Ic _) (by unfold Io;omega) rfl;clear h hs;go_enter Tryz.func57,Tryz.ntmps57;go_wp2_with (at_builtin;refine wpList_append_own _ rfl _ _ 34 rfl w.heap.size 50 i0 _ 5 48 JN fW dd gY gG rfl (by omega) _ 0 [] rfl HO.out a ms.length cap (fl ms) rfl (cM ms) hnews.out (gJ ms) (by unfold Io;omega) (by omega) (by simp) ?_);intro v' w' r1 r2 r3;go_wp2_with fail;go_ret;refine⟨v',rfl,?_,?_⟩
  .simpa using r1
  .exact((Ib _ _).alloc (Ic _) _).grown r2 (by simp) (λk hk=>by simp[Value.ownBlock] at hk;omega)
theorem jP(a b:List Mem)(va vb:Value)(pb cap:Nat)(w:World)(ha:Sl w va a)(hb:Sl w vb b)(hpb:pb<w.heap.size)(hc0:w.cell? ⟨pb,0,be⟩=AI va)(hc1:w.cell? ⟨pb,1,be⟩=AI vb) :
 Calls AS 165 #[J (AI ⟨pb,0,be⟩) 2 cap] w λe w'=>∃v',e=AT (Im #[v',U O (aE a b)])/\Below w.heap.size w w' /\
  (aE a b≠0->v'=J be 0 0)/\(aE a b=0->Own w.heap.size w' v' (av a b)):=by
 by_cases h0:aO a b=0
 .refine(kN a b va vb pb cap w ha hb hpb hc0 hc1 h0).mono ?_
  rintro e w' ⟨v',rfl,h1,h2,h3⟩;have hE:aE a b=if 20<(av a b).length then 2 else 0:=if_pos h0;refine⟨v',rfl,h1,λaT=>h2 ?_,λhz=>h3 ?_⟩
  .rw[hE] at aT;split at aT
   .assumption
   .exact absurd rfl aT
  .rw[hE] at hz;split at hz
   .cases hz
   .omega
 .refine(mI a b va vb pb cap w ha hb hpb hc0 hc1 h0).mono ?_
  rintro e w' ⟨rfl,h1⟩;have hE:aE a b=aO a b:=if_neg h0;exact⟨_,rfl,h1,λ_=>rfl,λhz=>absurd (hE▸hz) h0⟩
theorem Ki(ms:List Mem)(m:Mem)(v:Value)(w:World)(hv:Sl w v ms)(hm:m.name.size<=Io) :
 Calls AS 106 #[v,Ik #[Y m.name,U O m.state,U O m.aM,U O m.addr,Ia m.server]] w λe w'=>∃(v':Value) (r:Bool),e=AT (Im #[v',Ia r,U O (aE ms [m])])/\Below w.heap.size w w' /\
  (aE ms [m]≠0->v'=J be 0 0/\r=false)/\(aE ms [m]=0->Own w.heap.size w' v' (aQ ms m)/\(r=true↔aQ ms m≠ms)):=by
 have HV:=hv;obtain⟨pa,ca,rfl,ns,_⟩:=hv;obtain⟨W,hW⟩:∃W,W=(((w.alloc (By #[Y m.name,U O m.state,U O m.aM,U O m.addr,Ia m.server] 50)).alloc (By #[Y m.name,U O m.state,U O m.aM,U O m.addr,Ia m.server] 50)).alloc (By #[Y m.name,U O m.state,U O m.aM,U O m.addr,Ia m.server] 50)).alloc (By #[J pa ms.length ca,J (AI ⟨w.heap.size+1+1,0,be⟩) 1 1] 34):=⟨_,rfl⟩;go_enter Tryz.func106,Tryz.ntmps106;go_wp2_with (go_at_call 166;refine(nc _ _ _ _ _ _).mono ?_;rintro e w' ⟨rfl,rfl⟩);obtain⟨M,hM⟩:∃M:Obj,M=By #[Y m.name,U O m.state,U O m.aM,U O m.addr,Ia m.server] 50:=⟨_,rfl⟩;have bM:Below w.heap.size w W:=by rw[hW];exact((((Ib _ _).alloc (Ic _) _).alloc (by simp) _).alloc (by simp;omega) _).alloc (by simp;omega) _
 have MH:W.heap.size=w.heap.size+1+1+1+1:=by rw[hW];simp
 have lh:W.heap[w.heap.size+1+1+1]?=AI (By #[J pa ms.length ca,J (AI ⟨w.heap.size+1+1,0,be⟩) 1 1] 34 (0,0)):=by rw[hW];have:=Ii (((w.alloc M).alloc M).alloc M) (By #[J pa ms.length ca,J (AI ⟨w.heap.size+1+1,0,be⟩) 1 1] 34);rw[hM] at this;simpa using this
 have dS:W.heap[w.heap.size+1+1]?=AI (By #[Y m.name,U O m.state,U O m.aM,U O m.addr,Ia m.server] 50 (0,0)):=by
  rw[hW,Below.heap_alloc _ _ _ (by simp)];have:=Ii ((w.alloc M).alloc M) M;rw[hM] at this;simpa using this
 rw[<- hW];refine(jP ms [m] (J pa ms.length ca) (J (AI ⟨w.heap.size+1+1,0,be⟩) 1 1) (w.heap.size+1+1+1) 2 W (HV.below bM) (nT W _ 1 m hm dS) (by omega) (ae lh 0) (ae lh 1)).mono ?_;rintro e w2 ⟨v',rfl,h1,h2,h3⟩;have HB:Hid _:=bM.trans (h1.mono (by omega));have HV2:Hid (Sl _ _ _):=HV.below HB.out;have H2:Hid _:=h2;have H3:Hid (aE ms [m]=0->Own w.heap.size w2 v' (aQ ms m)):=λh=>(h3 h).mono (by omega);clear h2 h3 h1 dS lh MH bM hW hM HV;rcases he:decide (aE ms [m]=0) with _|_
 .have kG:(aE ms [m]!=0)=true:=by simpa using he
  have aT:Hid (aE ms [m]≠0):=(show aE ms [m]≠0 by simpa using he);clear he;go_wp2_with fail;go_ret3
  exact⟨_,false,rfl,HB.out,λ_=>⟨rfl,rfl⟩,λh=>absurd h aT.out⟩
 .have kG:(aE ms [m]!=0)=false:=by simpa using he
  have hz:Hid (aE ms [m]=0):=(show aE ms [m]=0 by simpa using he);clear he;have HO:Hid (Own _ _ _ _):=H3.out hz.out;have Hu:bj ms=0:=by
   have h:=hz.out;unfold Hid aE aO at h;by_cases h1:bj ms=0
   .exact h1
   .rw[if_neg h1,if_neg h1] at h;exact absurd h h1
  have HC:Hid _:=Hu;clear Hu;have NS:Hid _:=pt (dt ns) hm;have hlen:Hid ((aQ ms m).length<=1000):=by have h1:=kP ms m;have h2:=af HC.out;show(aQ ms m).length<=1000;omega
  go_wp2_with (go_at_call 167;refine(E5 (aQ ms m) ms _ _ _ (bF HO.out NS.out) HV2.out hlen.out).mono ?_;rintro e w3 ⟨r,rfl,h5,h6⟩);go_ret3
  refine⟨v',!r,by rw[show aE ms [m]=0 from hz.out];rfl,HB.out.trans (h6.mono HB.out.size),λh=>absurd hz.out h,λ_=>⟨HO.out.below h6,?_⟩⟩;cases r
  .simp at h5;simpa using h5
  .simp at h5;simpa using h5
theorem kD(nm:ByteArray)(st lf ad:Int)(sv:Bool)(w:World) :
 Calls AS 212 #[Ik #[Y nm,U O st,U O lf,U O ad,Ia sv]] w λe w'=>e=AT (Ia (decide (st=2)||decide (st=3)))/\w'=w.alloc (By #[Y nm,U O st,U O lf,U O ad,Ia sv] 50):=by
 by_cases h:st=2
 .subst h
  go_enter Tryz.func212,Tryz.ntmps212;go_wp2;go_ret;exact⟨aL (by simp),rfl⟩
 .have h':(st==2)=false:=by simpa using h
  go_enter Tryz.func212,Tryz.ntmps212;go_wp2;go_ret;exact⟨aL (by rw[Bool.eq_iff_iff];simp[h]),rfl⟩
def cL(m:Mem):Mem:=⟨m.name,1,m.aM+1,m.addr,m.server⟩
theorem Np(ms:List Mem)(p:Nat)(hp:p<ms.length):((fl ms).set (p*5+1) (U O 1)).set (p*5+2) (U O ((ms.getD p dm).aM+1))=fl (ms.set p (cL (ms.getD p dm))):=by
 induction ms generalizing p with
 |nil=>simp at hp
 |cons x r ih=>
  cases p with
  |zero=>simp[fl,Mem.cs,cL]
  |succ p=>
   have Mj:=ih p (by simpa using hp);rw[List.set_cons_succ,aZ,aZ,List.getD_cons_succ,<- Mj];simp only[Nat.add_mul,Nat.one_mul];have e:∀(l:List Value) (k:Nat) (v:Value),(x.cs++l).set (k+5) v=x.cs++l.set k v:=λl k v=>by
    rw[List.set_append,if_neg (by rw[bB];omega),bB,Nat.add_sub_cancel]
   rw[show p*5+5+1=(p*5+1)+5 by omega,show p*5+5+2=(p*5+2)+5 by omega];rw[e,e]
theorem KN{base g c p:Nat}{W:World}{ms:List Mem}(h:Own base W (J (AI ⟨g,0,be⟩) ms.length c) ms)(hp:p<ms.length) :
 Own base ((W.setCell ⟨g,p*5+1,be⟩ (U O 1)).setCell ⟨g,p*5+2,be⟩ (U O ((ms.getD p dm).aM+1))) (J (AI ⟨g,0,be⟩) ms.length c) (ms.set p (cL (ms.getD p dm))):=by
 have h1:=IK h (p*5+1) (U O 1);have h2:=IK h1.1 (p*5+2) (U O ((ms.getD p dm).aM+1));have e:=h2.1;rw[Np ms p hp] at e;show World.ownsRow _ _ _ _ _ (ms.set p (cL (ms.getD p dm))).length _;rw[List.length_set];exact e
theorem E7{nm:ByteArray}{st lf ad:Int}(h:uI nm st lf ad=0):ba nm=true/\(1<=st/\st<=4)/\(1<=lf/\lf<=1000000)/\(0<=ad/\ad<=4294967295):=by
 have hw:∀n a b:Int,within n a b=true->a<=n/\n<=b:=λn a b h=>by simpa[within] using h
 unfold uI at h;split at h
 .rename_i h1
  split at h
  .rename_i h2
   split at h
   .rename_i h3
    split at h
    .rename_i h4
     exact⟨h1,hw _ _ _ h2,hw _ _ _ h3,hw _ _ _ h4⟩
    .omega
   .omega
  .omega
 .omega
theorem bb:∀(ms:List Mem),aU ms=0->∀m∈ms,m.e=0
 |[],_,m,h=>by simp at h
 |x::r,h,m,hm=>by
  rw[aU] at h;split at h
  .rename_i h1
   rcases List.mem_cons.1 hm with rfl|hm
   .exact h1
   .exact bb r h m hm
  .rename_i h1;exact absurd h h1
theorem sY{ms:List Mem}(h:aU ms=0)(p:Nat)(hp:p<ms.length):(ms.getD p dm).e=0:=by
 have:=bb ms h ms[p] (List.getElem_mem hp);simpa[Iq,Ie hp] using this
def jb(ms:List Mem)(p:Nat)(f:Bool):Bool:=f&&(decide ((ms.getD p dm).state=2)||decide ((ms.getD p dm).state=3))&&!((ms.getD p dm).aM==1000000)
def jq(ms:List Mem)(p:Nat)(f:Bool):Int:=if f&&(decide ((ms.getD p dm).state=2)||decide ((ms.getD p dm).state=3))&&((ms.getD p dm).aM==1000000) then 3 else 0
def uS(ms:List Mem)(p:Nat)(f:Bool):List Mem:=if jb ms p f=true then ms.set p (cL (ms.getD p dm)) else ms
def Nq(ms:List Mem)(p:Nat)(f:Bool)(w:World)(e:Ending)(w':World):Prop:=
 ∃v':Value,e=AT (Im #[v',Ia (jb ms p f),U O (jq ms p f)])/\Below w.heap.size w w'/\(jq ms p f≠0->v'=J be 0 0)/\(jq ms p f=0->Own w.heap.size w' v' (uS ms p f))
theorem zi(ms:List Mem)(v:Value)(me:ByteArray)(w:World)(hv:Sl w v ms)(h0:bj ms=0)(hs:me.size<=Io)(hl:ba me=true)(p:Nat)(f:Bool)(cH:At ms me p f) :
 Calls AS 169 #[v,Y me] w λe w'=>Nq ms p f w e w':=by
 have he:(bj ms !=0)=false:=by simpa using h0
 have hz:=af h0;have HN:Hid (∀x∈ms,x.name.size<=Io):=by obtain⟨a,c,_,hn,_⟩:=hv;exact dt hn
 have HV:Hid (Sl w v ms):=hv;have HM:Hid (bl ms):=hz.2.1;have hlen:=hz.1;have Ar:Hid _:=hz.2.2;have fb:Hid _:=cH;clear hv h0 hz cH;go_enter Tryz.func169,Tryz.ntmps169;go_wp2_with (first|(go_at_call 70;refine(bo ms _ _ HV.out).mono ?_;rintro e w1 ⟨rfl,aB⟩)|(go_at_call 53;refine(bQ _ _ hs).mono ?_;rintro e w' ⟨rfl,rfl⟩;rw[hl]));refine(eV ms _ _ (HV.out.below aB) (by omega)).mono ?_;rintro e w2 ⟨kv,rfl,fB,aI⟩;have gZ:Hid (Own _ _ _ _):=fB.mono aB.size;have bp:Hid _:=aB.trans (aI.mono aB.size);clear fB aI aB;go_wp2_with fail;refine(fm ms _ ⟨me,0,0,0,false⟩ _ (bF gZ.out HN.out) (by omega) HM.out).mono ?_;rintro e w3 ⟨p',f',rfl,bU,qv⟩;obtain⟨rfl,rfl⟩:=ed fb.out qv;have dY:Hid (Own _ _ _ _):=gZ.out.below bU;have cF:Hid _:=bp.out.trans (bU.mono bp.out.size);clear qv bU gZ bp;cases f with
 |false=>
  go_wp2_with fail;go_ret3
  exact⟨kv,rfl,cF.out,λh=>absurd rfl h,λ_=>dY.out⟩
 |true=>
  have hp:=(fb.out.is.1 rfl).1;have Nr:=(E7 (sY Ar.out p hp)).2.2.1;obtain⟨g,c,hkv⟩:∃g c,kv=J (AI ⟨g,0,be⟩) ms.length c:=by
   rcases dY.out.2 with⟨_,h0⟩|⟨g,c,cur,h,_⟩
   .omega
   .exact⟨g,c,h⟩
  subst hkv;have di:=dY.out.lt g rfl;have qT:∀o,w3.frozen? ⟨g,o,be⟩=false:=λo=>I7 dY.out o;have MN:=di.2;obtain⟨b',alG,D0,nz,cO⟩:∃b off,(AI ⟨g,0,be⟩:Option Addr)=AI ⟨b,off,be⟩/\b<w3.heap.size/\Row w3 b off ms:=by
   obtain⟨a,cap,h1,_,h2⟩:=bF dY.out HN.out;simp only[Value.slice.injEq] at h1;obtain⟨rfl,_⟩:=h1;rcases h2 with h2|h2
   .rw[h2] at hp;simp at hp
   .exact h2
  simp only[Option.some.injEq,Addr.mk.injEq,and_true] at D0;obtain⟨rfl,rfl⟩:=D0;obtain⟨c0,c1,c2,c3,c4⟩:=cO p hp;clear cO nz;simp only[ID] at c0 c1 c2 c3 c4;generalize hm:ms.getD p dm=m2 at *;have Hm:Hid _:=hm;clear hm;obtain⟨n2,s2,l2,a2,v2⟩:=m2;simp only at c0 c1 c2 c3 c4 Nr;obtain⟨alH,alI⟩:=Nr;rcases hd:(decide (s2=2)||decide (s2=3)) with _|_
  .go_wp2_with (go_at_call 212;refine(kD _ _ _ _ _ _).mono ?_;rintro e w' ⟨rfl,rfl⟩;rw[hd])
   go_ret3
   have e1:jb ms p true=false:=by unfold jb;rw[Hm.out];simp only[hd];rfl
   have e2:jq ms p true=0:=by unfold jq;rw[Hm.out];simp only[hd];rfl
   refine⟨J (AI ⟨g,0,be⟩) ms.length c,by rw[e1,e2];rfl,cF.out.alloc cF.out.size _,λh=>absurd e2 h,λ_=>?_⟩;rw[uS,e1,if_neg (by simp)];exact dY.out.below ((Ib _ _).alloc (Ic _) _)
  .rcases mo:((l2:Int)==1000000) with _|_
   .have e1:jb ms p true=true:=by unfold jb;rw[Hm.out];simp only[hd,mo];rfl
    have e2:jq ms p true=0:=by unfold jq;rw[Hm.out];simp only[hd,mo];rfl
    have E1:Hid _:=e1;have E2:Hid _:=e2;clear e1 e2;have HS:=KN dY.out hp;rw[Hm.out] at HS;have T3:Hid (Own _ _ _ _):=HS;clear HS;go_wp2_with (go_at_call 212;refine(kD _ _ _ _ _ _).mono ?_;rintro e w' ⟨rfl,rfl⟩;rw[hd]);go_ret3
    refine⟨J (AI ⟨g,0,be⟩) ms.length c,by rw[E1.out,E2.out];rfl,?_,λh=>absurd E2.out h,λ_=>?_⟩
    .have hB2:=(cF.out.setCell (p:=⟨g,p*5+1,be⟩) di.1 (U O 1)).setCell (p:=⟨g,p*5+2,be⟩) di.1 (U O (l2+1))
     exact hB2.alloc (by have:=cF.out.size;simpa using this) _
    .rw[uS,if_pos E1.out,Hm.out]
     exact T3.out.below ((Ib _ _).alloc (Ic _) _)
   .have E1:Hid (jb ms p true=false):=(show jb ms p true=false by unfold jb;rw[Hm.out];simp only[hd,mo];rfl)
    have E2:Hid (jq ms p true=3):=(show jq ms p true=3 by unfold jq;rw[Hm.out];simp only[hd,mo];rfl);go_wp2_with (go_at_call 212;refine(kD _ _ _ _ _ _).mono ?_;rintro e w' ⟨rfl,rfl⟩;rw[hd]);go_ret3
    exact⟨J be 0 0,by rw[E1.out,E2.out];rfl,cF.out.alloc cF.out.size _,λ_=>rfl,λh=>by rw[E2.out] at h;cases h⟩
end Go.Proofs.YtfidhgjmifendaaGreatDoor
namespace Go.Proofs.YtfidhgjmifendaaGreatDoor
open Go.RowKit Go.WideMaps Go.Maps
structure bK where
 m:Mem
 told:Int
def dr:bK:=⟨dm,0⟩
def mH(w:World)(b off:Nat)(rs:List bK):Prop:=∀j,j<rs.length ->
 w.cell? ⟨b,off+j*6,be⟩=AI (Y (rs.getD j dr).m.name)/\w.cell? ⟨b,off+j*6+1,be⟩=AI (U O (rs.getD j dr).m.state) /\
 w.cell? ⟨b,off+j*6+2,be⟩=AI (U O (rs.getD j dr).m.aM)/\w.cell? ⟨b,off+j*6+3,be⟩=AI (U O (rs.getD j dr).m.addr) /\
 w.cell? ⟨b,off+j*6+4,be⟩=AI (Ia (rs.getD j dr).m.server)/\w.cell? ⟨b,off+j*6+5,be⟩=AI (U O (rs.getD j dr).told)
theorem mH.below{w w':World}{b off B:Nat}{rs:List bK}(h:mH w b off rs)(hb:Below B w w')(hB:b<B):mH w' b off rs:=λk hk=>by
 obtain⟨h0,h1,h2,h3,h4,h5⟩:=h k hk;exact⟨by rw[hb.cell hB];exact h0,by rw[hb.cell hB];exact h1,by rw[hb.cell hB];exact h2,by rw[hb.cell hB];exact h3,by rw[hb.cell hB];exact h4,by rw[hb.cell hB];exact h5⟩
def mG(w:World)(v:Value)(rs:List bK):Prop:=
 ∃(a:Option Addr) (cap:Nat),v=J a rs.length cap/\(∀j,(rs.getD j dr).m.name.size<=Io) /\
  (rs=[]\/∃b off,a=AI ⟨b,off,be⟩/\b<w.heap.size/\mH w b off rs)
theorem mG.below{w w':World}{v:Value}{rs:List bK}(h:mG w v rs)(hb:Below w.heap.size w w'):mG w' v rs:=by
 obtain⟨a,c,hv,hn,h⟩:=h;refine⟨a,c,hv,hn,?_⟩;rcases h with h|⟨b,off,ha,aR,hr⟩
 .exact .inl h
 .exact .inr ⟨b,off,ha,IJ aR hb.size,hr.below hb aR⟩
def eX(rs:List bK):List ByteArray:=rs.map (·.m.name)
theorem dC(rs:List bK)(k:Nat):(eX rs).getD k Iw=(rs.getD k dr).m.name:=by
 by_cases h:k<rs.length
 .simp[eX,Iq,Ie h]
 .simp[eX,Iq,List.getElem?_eq_none (by omega:rs.length<=k),dr,dm]
theorem DM:Keyed AS 9:=string_keyed Jb
theorem AK(w:World):(zeroValue 3).run AS w=.ok (U O 0) w:=by kernel_rfl
theorem iW(n:Int)(w:World):(Instr.makeMap 125 (AI (U O n))).run AS w=.ok (.map (AI w.heap.size)) (w.alloc (.map #[] 0)):=by
 have h:=run_underlying Jy;simp[Instr.makeMap,h,asInt,newObj];rfl
theorem o7(rs:List bK)(v:Value)(w:World)(hv:mG w v rs)(hn:rs.length<=1000) :
 Calls AS 126 #[v] w λe w'=>e=AT (.map (AI w.heap.size))/\w'.ownsMap AS 9 (O3 (H:=Unit) AS 3) w.heap.size rs.length (Dm (eX rs) rs.length)/\Below w.heap.size w w':=by
 obtain⟨pa,ca,rfl,cC,ha⟩:=hv;have HA:Hid _:=ha;have HS:Hid _:=cC;clear ha cC;generalize hN:rs.length=n at *;have HN:Hid _:=hN;clear hN;have Ml:=iW;go_enter Tryz.func126,Tryz.ntmps126;go_wp2;go_loopw [11] (λi wr=>∃k:Nat,k<=n/\i=U O k/\Hid (wr.ownsMap AS 9 (O3 (H:=Unit) AS 3) w.heap.size k (Dm (eX rs) k))/\Hid (Below w.heap.size w wr))
  (λi _=>n-(intOf i).toNat)
 case atStart=>exact⟨0,IH _,rfl,World.ownsMap_made _ _ _ _,(Ib _ _).alloc (Ic _) _⟩
 case round=>
  obtain⟨k,hk,rfl,HO,HB⟩:=hrel;by_cases aR:k<n
  .obtain⟨b,off,hp,hl,hr⟩:∃b off,pa=AI ⟨b,off,be⟩/\b<w.heap.size/\mH w b off rs:=by
    rcases HA.out with h|h
    .have:=HN.out;rw[h] at this;simp at this;omega
    .exact h
   subst hp;obtain⟨c0,c1,c2,c3,c4,c5⟩:=hr.below HB.out hl k (by rw[HN.out];exact aR);have yz:=keyOf_string_mk Jb (HS.out k);have sH:Hid (∀w1:World,w1.ownsMap AS 9 (O3 (H:=Unit) AS 3) w.heap.size (k+1) ((Dm (eX rs) k).put (kS (rs.getD k dr).m.name) (.lit (.int O k)))->w1.ownsMap AS 9 (O3 (H:=Unit) AS 3) w.heap.size (k+1) (Dm (eX rs) (k+1))):=λw1 h=>by
    rw[Dm,dC];exact h
   generalize(rs.getD k dr)=rk at *;obtain⟨⟨nm,st,lf,ad,sv⟩,td⟩:=rk;simp only at c0 c1 c2 c3 c4 c5 yz sH;clear hr;go_wp2_with (first
    |(at_mapUpdate;refine wpList_mapUpdate_own _ rfl _ _ _ 125 rfl 9 3 DM Jy _ w.heap.size k _ rfl (HO.out.alloc _) (by unfold Io;omega) _ _ _ rfl rfl yz _ [] (plainElem_int IF (WalkArith.wf_i64 (by omega))) ?_)
    |fail)
   intro w1 yL KO;have R1:Hid (w1.ownsMap _ _ _ _ _ _):=sH.out w1 yL;have R2:Hid _:=(HB.out.alloc HB.out.size _).grown KO (by have:=HB.out.size;simp;omega) (λj hj=>by cases hj;exact Ic _);clear yL KO HO HB c0 c1 c2 c3 c4 c5 sH;go_wp2_with fail;go_roundw
   case rel=>exact⟨k+1,by omega,by go_num,R1,R2⟩
   case measure=>simp[intOf];omega
  .have gK:k=n:=by omega
   subst gK;go_wp2_with fail;go_ret;exact⟨rfl,HO.out,HB.out⟩
end Go.Proofs.YtfidhgjmifendaaGreatDoor
