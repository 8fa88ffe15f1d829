import Derived.Test.YtbfghimjdlpicaaGreatDoorna3
set_option maxHeartbeats 4000000
set_option maxRecDepth 100000
open Go.Value renaming slice→J,func→IQ,bool→Ia,int→U,agg→Ik,string→Y,tuple→Ip
open Go.Ending renaming returned→AT
open Option renaming some→AI,none→be
open Go.Proofs.Tryz renaming prog→AS,underlying45→JW
open Go.IntKind renaming i64→O
open Go.RowKit.Below renaming refl→Ib
open Nat renaming not_lt_zero→Jj,lt_succ_iff_lt_or_eq→I6,zero_le→IF,le_refl→Ie,zero_add→ID,lt_of_lt_of_le→IJ
open Go.Sort renaming grow→Ig
open Go renaming redrawn→Im,Regrown→JP,wp_region_quiet_below→IA,maxLen→Io,heap_alloc_new→Ij
open Go.Calls renaming regrown_of→IV
open Go.Obj renaming cells→By
open Go.World.ownsRow renaming frozenAt→Jc,stored→IM
open List renaming getD→Ir,getElem?_eq_getElem→Ic
namespace Go.Proofs.YtbfghimjdlpicaaGreatDoor
open Go.RowKit
theorem kG(ms:List Mem)(b off cap:Nat)(w:World)(hr:Row w b off ms)(hb:b<w.heap.size)(hn:ms.length<=20) :
 Calls AS 137 #[J (AI ⟨b,off,be⟩) ms.length cap,IQ (.func 138) #[] #[]] w λe w'=>e=AT (Ia (aR ms))/\Below w.heap.size w w':=by
 have HR:Hid (Row w b off ms):=hr;clear hr;have H4:Hid (∀k,k+1<ms.length->0<=bW (ms.getD k dm).name (ms.getD (k+1) dm).name->aR ms=false):=λk hk hl=>by
  rcases h:aR ms with _|_
  .rfl
  .have:=fV ms h k hk;omega
 have H0:Hid ((∀j,j+1<ms.length->bW (ms.getD j dm).name (ms.getD (j+1) dm).name<0)->aR ms=true):=fW ms;generalize hN:ms.length=n at *;have HN:Hid (ms.length=n):=hN;clear hN;generalize hC:aR ms=res at *;have HC:Hid (aR ms=res):=hC;clear hC;go_enter Tryz.func137,Tryz.ntmps137;go_wp2_with fail;go_loopw [5] (λi w'=>∃k:Nat,(k+1<=n\/k=0)/\i=U O (k+1)/\Below w.heap.size w w'/\Hid (∀j,j<k->bW (ms.getD j dm).name (ms.getD (j+1) dm).name<0)) (λi _=>n-(intOf i).toNat)
 case atStart=>exact⟨0,.inr rfl,rfl,Ib _ _,λj h=>absurd h (Jj _)⟩
 case round=>
  obtain⟨q,hq,rfl,aO,hz⟩:=hrel;obtain⟨cK,kj⟩:=cd aO;have cB:=aO.size;by_cases aX:q+1<n
  .have F:=((HR.out q (by rw[HN.out];omega)).eq (λo=>cK b o hb)).re
   have G:=((HR.out (q+1) (by rw[HN.out];exact aX)).eq (λo=>cK b o hb)).re;have HK:Hid (0<=bW (ms.getD q dm).name (ms.getD (q+1) dm).name->res=false):=λh=>H4.out q aX h;have HZ:Hid (bW (ms.getD q dm).name (ms.getD (q+1) dm).name<0->∀j,j<q+1->bW (ms.getD j dm).name (ms.getD (j+1) dm).name<0):=λh j hj=>by
    rcases I6.1 hj with h2|rfl
    .exact hz.out j h2
    .exact h
   generalize ms.getD q dm=m1 at *;generalize ms.getD (q+1) dm=m2 at *;have hN:∀d os,Calls AS 138 #[Ik #[Y m1.name,U O m1.state,U O m1.aI,U O m1.addr,Ia m1.server],Ik #[Y m2.name,U O m2.state,U O m2.aI,U O m2.addr,Ia m2.server]] (Ig (Im wr d) os) λe fR=>e=AT (U O (bW m1.name m2.name))/\∃p:JP,fR=Ig (Im wr p.d) p.os:=λd os=>IV (dK m1 m2 _);simp only[As] at F G;clear cK kj;generalize bW m1.name m2.name=r at *;have Lr:IntKind.i64.wrap (q:Int)=(q:Int):=by rw[IntKind.wrap_i64];omega
   have Gn:q<n:=by omega
   have hq1:(q:Int)+1<(n:Int):=by omega
   have hq0:(0:Int)<=(q:Int)+1:=by omega
   have Gp:((q:Int)+1).toNat=q+1:=by omega
   go_wp2_with fail;refine IA (by kernel_rfl) (by kernel_rfl) ?_;repeat(quiet_step (exact hN _ _))
   refine bu λdq gW dF=>?_;clear hN F G;by_cases hl:r<0
   .have jE:¬ (0<=r):=by omega
    go_wp2_with fail;go_roundw
    case rel=>exact⟨q+1,.inl (by omega),by go_num,aO.trans (dF.out.mono cB),HZ.out hl⟩
    case measure=>simp[intOf];omega
   .have jE:0<=r:=by omega
    have h4:Hid (res=false):=HK.out jE;go_wp2_with fail;go_ret;exact⟨aW h4.out.symm,aO.trans (dF.out.mono cB)⟩
  .have h0:Hid (res=true):=H0.out λj hj=>hz.out j (by omega)
   go_wp2_with fail;go_ret;exact⟨aW h0.out.symm,aO⟩
theorem gZ(a:Option Addr)(cap:Nat)(fv:Value)(w:World) :
 Calls AS 137 #[J a 0 cap,fv] w λe w'=>e=AT (Ia true)/\w'=w:=by
 go_enter Tryz.func137,Tryz.ntmps137;go_wp2_with fail;go_loop [5] (λi=>i=U O 1) (λ_=>0)
 case atStart=>rfl
 case round=>
  subst hrel;go_wp2_with fail;go_ret;exact⟨rfl,rfl⟩
theorem il(ms:List Mem)(b off cap:Nat)(lk:Mem)(w:World)(hr:Row w b off ms)(hb:b<w.heap.size)(hn:ms.length<=40)(iY:∀i j,i<=j->j<ms.length->bW (ms.getD j dm).name lk.name<0->bW (ms.getD i dm).name lk.name<0) :
 Calls AS 235 #[J (AI ⟨b,off,be⟩) ms.length cap,Ik #[Y lk.name,U O lk.state,U O lk.aI,U O lk.addr,Ia lk.server],IQ (.func 138) #[] #[]] w λe w'=>∃(p:Nat) (f:Bool),e=AT (Ip #[U O p,Ia f])/\Below w.heap.size w w' /\
  p<=ms.length/\(∀j,j<p->bW (ms.getD j dm).name lk.name<0)/\(∀j,p<=j->j<ms.length->0<=bW (ms.getD j dm).name lk.name)/\(f=true↔p<ms.length/\bW (ms.getD p dm).name lk.name=0):=by
 have HR:Hid (Row w b off ms):=hr;clear hr;have HM:Hid _:=iY;clear iY;generalize hN:ms.length=n at *;have HN:Hid (ms.length=n):=hN;clear hN;go_enter Tryz.func235,Tryz.ntmps235;go_wp2_with fail;obtain⟨W0,bP,bK,fj,dX⟩:=bV w #[Y lk.name,U O lk.state,U O lk.aI,U O lk.addr,Ia lk.server] 52;have Hd:Hid (Row W0 b off ms):=HR.out.later bK hb;have HT:Hid (As W0 w.heap.size 0 lk):=⟨ae dX 0,ae dX 1,ae dX 2,ae dX 3,ae dX 4⟩;have df:Hid (Below w.heap.size w W0):=bK;have vp:Hid (W0=w.alloc (By #[Y lk.name,U O lk.state,U O lk.aI,U O lk.addr,Ia lk.server] 52)):=bP;clear dX bK HR bP;have yN:b<w.heap.size+1:=by omega
 go_loopw [9,10] (λi j w'=>∃k l:Nat,k<=l/\l<=n/\i=U O k/\j=U O l/\Below (w.heap.size+1) W0 w'/\Hid (∀j,j<k->bW (ms.getD j dm).name lk.name<0)/\Hid (∀j,l<=j->j<n->0<=bW (ms.getD j dm).name lk.name)) (λi j _=>(intOf j).toNat-(intOf i).toNat)
 case atStart=>exact⟨0,n,IF _,Ie _,rfl,rfl,by rw[vp.out];exact Ib _ _,λj h=>absurd h (Jj _),λj h1 h2=>by omega⟩
 case round=>
  obtain⟨k,l,ie,Nz,rfl,rfl,aO,Au,Av⟩:=hrel;have cB:=aO.size;have cK:∀b o,b<w.heap.size+1->wr.cell? ⟨b,o,be⟩=W0.cell? ⟨b,o,be⟩:=λb o h=>aO.cell (p:=⟨b,o,be⟩) h;have G:=(HT.out.eq (λo=>cK w.heap.size o (by omega))).re;simp only[As,ID] at G;by_cases aX:k<l
  .obtain⟨h,hh,h1,h2⟩:∃h:Nat,((k:Int)+(l:Int))/2=(h:Int)/\k<=h/\h<l:=⟨(k+l)/2,by omega,by omega,by omega⟩
   have F:=((Hd.out h (by rw[HN.out];omega)).eq (λo=>cK b o yN)).re;have rC:=HM.out;have HK:Hid (bW (ms.getD h dm).name lk.name<0->∀j,j<h+1->bW (ms.getD j dm).name lk.name<0):=λhx j hj=>rC j h (by omega) (by omega) hx;have HL:Hid (0<=bW (ms.getD h dm).name lk.name->∀j,h<=j->j<n->0<=bW (ms.getD j dm).name lk.name):=λhx j hj yP=>by
    apply Int.not_lt.1;intro hq;have:=rC h j hj yP hq;omega
   clear rC;have hhn:h<n:=by omega
   generalize ms.getD h dm=m at *;have hO:∀d os,Calls AS 138 #[Ik #[Y m.name,U O m.state,U O m.aI,U O m.addr,Ia m.server],Ik #[Y lk.name,U O lk.state,U O lk.aI,U O lk.addr,Ia lk.server]] (Ig (Im wr d) os) λe fR=>e=AT (U O (bW m.name lk.name))/\∃p:JP,fR=Ig (Im wr p.d) p.os:=λd os=>IV (dK m lk _);simp only[As] at F;clear cK;generalize bW m.name lk.name=r at *;go_wp2_with fail;refine IA (by kernel_rfl) (by kernel_rfl) ?_;repeat(quiet_step (exact hO _ _))
   refine bu λdq gW dF=>?_;clear hO F G;by_cases xx:r<0
   .go_wp2_with fail
    exact⟨⟨h+1,l,by omega,by omega,by go_num,rfl,aO.trans (dF.out.mono (by omega)),HK.out xx,Av⟩,by simp[intOf];omega⟩
   .have BD:0<=r:=by omega
    go_wp2_with fail;exact⟨⟨k,h,by omega,by omega,rfl,rfl,aO.trans (dF.out.mono (by omega)),Au,HL.out BD⟩,by simp[intOf];omega⟩
  .have Ef:l=k:=by omega
   subst Ef;by_cases eJ:l<n
   .have F:=((Hd.out l (by rw[HN.out];omega)).eq (λo=>cK b o yN)).re
    generalize hm:ms.getD l dm=m at *;have Hm:Hid (ms.getD l dm=m):=hm;clear hm;have hO:∀d os,Calls AS 138 #[Ik #[Y m.name,U O m.state,U O m.aI,U O m.addr,Ia m.server],Ik #[Y lk.name,U O lk.state,U O lk.aI,U O lk.addr,Ia lk.server]] (Ig (Im wr d) os) λe fR=>e=AT (U O (bW m.name lk.name))/\∃p:JP,fR=Ig (Im wr p.d) p.os:=λd os=>IV (dK m lk _);simp only[As] at F;clear cK;generalize DY:bW m.name lk.name=r at *;have Hr:Hid (bW m.name lk.name=r):=DY;clear DY;go_wp2_with fail;refine IA (by kernel_rfl) (by kernel_rfl) ?_;repeat(quiet_step (exact hO _ _))
    refine bu λdq gW dF=>?_;clear hO F G;go_wp2_with fail;go_ret2;refine⟨l,_,rfl,df.out.trans ((aO.trans (dF.out.mono (by omega))).mono (by omega)),by omega,Au.out,Av.out,?_⟩;rw[Hm.out,Hr.out];simp[eJ]
   .clear G
    have hkd:decide ((l:Int)<(n:Int))=false:=by simp;omega
    go_wp2_with fail;go_quiet (fail)
    go_wp2_with fail;go_ret2;refine⟨l,_,rfl,df.out.trans ((below_drewN aO _).mono (by omega)),by omega,Au.out,Av.out,?_⟩;simp[eJ]
theorem gu(a:Option Addr)(cap:Nat)(lk:Mem)(fv:Value)(w:World) :
 Calls AS 235 #[J a 0 cap,Ik #[Y lk.name,U O lk.state,U O lk.aI,U O lk.addr,Ia lk.server],fv] w λe w'=>e=AT (Ip #[U O 0,Ia false])/\Below w.heap.size w w':=by
 go_enter Tryz.func235,Tryz.ntmps235;go_wp2_with fail;go_loop [9,10] (λi j=>i=U O 0/\j=U O 0) (λ_ _=>0)
 case atStart=>exact⟨rfl,rfl⟩
 case round=>
  obtain⟨rfl,rfl⟩:=hrel;go_wp2_with fail;go_quiet (fail)
  go_wp2_with fail;go_ret2;exact⟨rfl,below_drewN ((Ib _ _).alloc (Ie _) _) _⟩
theorem gv(ms:List Mem)(v:Value)(lk:Mem)(w:World)(h:Sl w v ms)(hn:ms.length<=40)(iY:∀i j,i<=j->j<ms.length->bW (ms.getD j dm).name lk.name<0->bW (ms.getD i dm).name lk.name<0) :
 Calls AS 235 #[v,Ik #[Y lk.name,U O lk.state,U O lk.aI,U O lk.addr,Ia lk.server],IQ (.func 138) #[] #[]] w λe w'=>∃(p:Nat) (f:Bool),e=AT (Ip #[U O p,Ia f])/\Below w.heap.size w w'/\At ms lk.name p f:=by
 obtain⟨a,cap,rfl,hs,h⟩:=h;rcases h with rfl|⟨b,off,rfl,hb,hr⟩
 .refine(gu a cap lk _ w).mono ?_
  rintro e w' ⟨rfl,hb⟩;exact⟨0,false,rfl,hb,⟨by simp,λj h=>by omega,λj h h2=>by simp at h2,by simp⟩⟩
 .refine(il ms b off cap lk w hr hb hn iY).mono ?_
  rintro e w' ⟨p,f,rfl,aO,g1,g2,g3,g4⟩;exact⟨p,f,rfl,aO,⟨g1,g2,g3,g4⟩⟩
theorem gf(ms:List Mem)(v:Value)(lk:Mem)(w:World)(h:Sl w v ms)(hn:ms.length<=40)(hr:aT ms) :
 Calls AS 196 #[v,Ik #[Y lk.name,U O lk.state,U O lk.aI,U O lk.addr,Ia lk.server],IQ (.func 138) #[] #[]] w λe w'=>∃(p:Nat) (f:Bool),e=AT (Ip #[U O p,Ia f])/\Below w.heap.size w w'/\At ms lk.name p f:=by
 have HC:Hid (∀w',Below w.heap.size w w'->Calls AS 235 #[v,Ik #[Y lk.name,U O lk.state,U O lk.aI,U O lk.addr,Ia lk.server],IQ (.func 138) #[] #[]] w' λe fR=>∃(p:Nat) (f:Bool),e=AT (Ip #[U O p,Ia f])/\Below w'.heap.size w' fR/\At ms lk.name p f):=
  λw' hb=>gv ms v lk w' (h.below hb) hn (eu hr lk.name)
 clear h hn hr;go_enter Tryz.func196,Tryz.ntmps196;go_wp2_with (go_at_call 235;refine(HC.out _ ?hb).mono ?_)
 case hb=>exact(Ib _ _).alloc (Ie _) _
 rintro e w' ⟨p,f,rfl,aO,cA⟩;have fm:Hid (At ms lk.name p f):=cA;clear cA;go_wp2_with fail;go_ret2;exact⟨p,f,rfl,((Ib _ _).alloc (Ie _) _).trans (aO.mono (by simp)),fm.out⟩
theorem mZ{a b:List Mem}(nc:a.length<=20)(lH:b.length<=20)(k:Nat):(dV a b k).length<=40:=by
 unfold dV;split
 .simp
 .split
  .omega
  .have:=dj b a;omega
structure Da(w:World)(pb:Nat)(a b:List Mem)(k:Nat)(l:List Mem)(pk:Option Addr)(ck:Nat):Prop where
 cell:w.cell? ⟨pb,k,be⟩=AI (J pk l.length ck)
 row:l=[]\/∃b off,pk=AI ⟨b,off,be⟩/\b<w.heap.size/\Row w b off l
 MM:∀m∈l,(m).name.size<=Io
 len:l.length<=20
 Db:(dV a b k).length<=20
 vi:aT (dV a b k)
 Dc:∀m∈dV a b k,(m).name.size<=Io
 step:dV a b (k+1)=aB (dV a b k) l
theorem qt{a b:List Mem}{va vb:Value}{pb:Nat}{w:World}(ha:Sl w va a)(hb:Sl w vb b)(hc0:w.cell? ⟨pb,0,be⟩=AI va)(hc1:w.cell? ⟨pb,1,be⟩=AI vb)(nc:a.length<=20)(lH:b.length<=20)(ra:aT a)(k:Nat)(hk:k<2) :
 ∃l pk ck,Da w pb a b k l pk ck:=by
 obtain⟨pa,ca,rfl,MN,ha⟩:=ha;obtain⟨pv,cb,rfl,Rc,hb⟩:=hb;have ib:k=0\/k=1:=by omega
 rcases ib with rfl|rfl
 .exact⟨a,pa,ca,hc0,ha,dI MN,nc,by simp[dV],by simp[dV],by simp[dV],(ju a ra).symm⟩
 .exact⟨b,pv,cb,hc1,hb,dI Rc,lH,nc,ra,dI MN,rfl⟩
theorem jv(a b:List Mem)(va vb:Value)(pb cap:Nat)(w:World)(ha:Sl w va a)(hb:Sl w vb b)(hpb:pb<w.heap.size)(hc0:w.cell? ⟨pb,0,be⟩=AI va)(hc1:w.cell? ⟨pb,1,be⟩=AI vb)(nc:a.length<=20)(lH:b.length<=20)(ra:aT a) :
 Calls AS 194 #[IQ (.func 138) #[] #[],IQ (.func 193) #[] #[],J (AI ⟨pb,0,be⟩) 2 cap] w λe w'=>∃v',e=AT v'/\Own w.heap.size w' v' (aB a b)/\Below w.heap.size w w':=by
 have HK:Hid (∀k,k<2->∃l pk ck,Da w pb a b k l pk ck):=λk hk=>qt ha hb hc0 hc1 nc lH ra k hk;have xh:Hid (∀k,(dV a b k).length<=40):=mZ nc lH;clear ha hb hc0 hc1 nc lH ra;go_enter Tryz.func194,Tryz.ntmps194;go_wp2_with fail;go_loopw [7,16] (λkn i w'=>∃k:Nat,k<=2/\i=U O k/\Below w.heap.size w w'/\Hid (Own w.heap.size w' kn (dV a b k))) (λ_ i _=>2-(intOf i).toNat)
 case atStart=>exact⟨0,by omega,rfl,Ib _ _,cv _ _⟩
 case round=>
  obtain⟨k,hk,rfl,aO,HO⟩:=hrel;obtain⟨cK,kj⟩:=cd aO;have cB:=aO.size;by_cases ji:k<2
  .obtain⟨l,pk,ck,qu⟩:=HK.out k ji
   have qv:Hid (Da w pb a b k l pk ck):=qu;have gO:=qu.cell;clear qu;generalize tt:l.length=nl at *;have lB:Hid (l.length=nl):=tt;clear tt;have MO:nl<=20:=by have:=qv.out.len;have:=lB.out;omega
   have Wv:(k:Int)<2:=by omega
   go_wp2_with fail;go_loopw [7,22] (λkn j w'=>∃q:Nat,q<=nl/\j=U O q/\Below w.heap.size w w'/\Hid (Own w.heap.size w' kn (aB (dV a b k) (l.take q)))) (λ_ j _=>nl-(intOf j).toNat)
   case atStart=>exact⟨0,IF _,rfl,aO,HO⟩
   case round=>
    clear cK kj cB aO HO gO;obtain⟨q,hq,rfl,aO,HO⟩:=hrel;obtain⟨cK,kj⟩:=cd aO;have cB:=aO.size;by_cases aX:q<nl
    .obtain⟨b2,off,Dd,Re,cL⟩:∃nf off,pk=AI ⟨nf,off,be⟩/\nf<w.heap.size/\Row w nf off l:=by
      rcases qv.out.row with h|h
      .have:=lB.out;rw[h] at this;simp at this;omega
      .exact h
     subst Dd;obtain⟨c0,c1,c2,c3,c4⟩:=cL q (by rw[lB.out];exact aX);clear cL;have HJ:Hid (aB (dV a b k) (l.take (q+1))=aN (aB (dV a b k) (l.take q)) (l.getD q dm)):=gd (dV a b k) l q (by rw[lB.out];exact aX);have HR:Hid (aT (aB (dV a b k) (l.take q))):=dz _ _ qv.out.vi;have RW:Hid (∀j,((aB (dV a b k) (l.take q)).getD j dm).name.size<=Io):=cD (iP _ _ qv.out.Dc (λx hx=>qv.out.MM x (List.mem_of_mem_take hx)));have HL:Hid ((aB (dV a b k) (l.take q)).length<=40):=by
      have h1:=dj (l.take q) (dV a b k);have h2:(l.take q).length<=q:=List.length_take_le _ _;have h3:=qv.out.Db;show(aB (dV a b k) (l.take q)).length<=40;omega
     generalize l.getD q dm=m at *;generalize aB (dV a b k) (l.take q)=known at *;have GX:known.length<=40:=HL.out;obtain⟨W1,db,aC,fO,cI⟩:=bV wr #[Y m.name,U O m.state,U O m.aI,U O m.addr,Ia m.server] 52;have mT:Hid (Own w.heap.size W1 u7 known):=HO.out.below aC;have HF:Hid (Calls AS 196 #[u7,Ik #[Y m.name,U O m.state,U O m.aI,U O m.addr,Ia m.server],IQ (.func 138) #[] #[]] W1 λe w'=>∃(p:Nat) (f:Bool),e=AT (Ip #[U O p,Ia f])/\Below W1.heap.size W1 w'/\At known m.name p f):=
      gf known u7 m W1 (mT.out.sl RW.out) HL.out HR.out
     have aZ:Hid (Below w.heap.size w W1):=aO.trans (aC.mono cB);have HT:Hid (As W1 wr.heap.size 0 m):=⟨ae cI 0,ae cI 1,ae cI 2,ae cI 3,ae cI 4⟩;have pD:Hid _:=db;have xe:w.heap.size<=W1.heap.size:=by omega
     clear cI aC HO HL HR db;go_wp2_with fail;rw[<- pD.out];refine HF.out.mono ?_;rintro e w2 ⟨p,f,rfl,aL,cA⟩;have fm:Hid _:=cA;have Ww:=cA.le;have MP:=aL.size;have ja:Hid (Own _ _ _ _):=mT.out.below aL;have bA:Hid _:=aZ.out.trans (aL.mono xe);have zn:Hid (As w2 wr.heap.size 0 m):=HT.out.eq (λo=>aL.cell (p:=⟨wr.heap.size,o,be⟩) (by show wr.heap.size<W1.heap.size;omega));obtain⟨t0,t1,t2,t3,t4⟩:w2.cell? ⟨wr.heap.size,0,be⟩=AI (Y m.name)/\w2.cell? ⟨wr.heap.size,1,be⟩=AI (U O m.state)/\w2.cell? ⟨wr.heap.size,2,be⟩=AI (U O m.aI)/\w2.cell? ⟨wr.heap.size,3,be⟩=AI (U O m.addr)/\w2.cell? ⟨wr.heap.size,4,be⟩=AI (Ia m.server):=zn.out;have jb:w.heap.size<=w2.heap.size:=by omega
     have De:wr.heap.size<w2.heap.size:=by omega
     clear cA HF cK kj c0 c1 c2 c3 c4 aL mT aZ HT;cases f
     .have aP:Hid (u7.ownBlock≠AI w2.heap.size):=λe=>by have:=ja.out.lt _ e;omega
      have eG:Hid (Own w.heap.size (w2.alloc (By #[Y m.name,U O m.state,U O m.aI,U O m.addr,Ia m.server] 52)) u7 known):=ja.out.below ((Ib _ _).alloc (Ie _) _);have rK:Hid ((w2.alloc (By #[Y m.name,U O m.state,U O m.aI,U O m.addr,Ia m.server] 52)).heap[w2.heap.size]?=AI (By m.cs.toArray 52 (0,0))):=Ij w2 _;go_wp2_with (go_at_call 234;refine(gh w.heap.size p w2.heap.size u7 known m _ eG.out fm.out.le (by omega) (by simp;omega) rK.out aP.out).mono ?_;rintro e w4 ⟨v',rfl,g1,g2⟩);go_roundw
      case rel=>
       have gF:∃qw:Nat,qw<=nl/\U O ((q:Int)+1)=U O qw/\Below w.heap.size w w4/\Hid (Own w.heap.size w4 v' (aB (dV a b k) (l.take qw))):=⟨q+1,by omega,by go_num,fU (bA.out.alloc jb _) eG.out g2 (by simp;omega),by rw[HJ.out,dy known m p false fm.out];exact g1⟩;first|exact gF|((repeat apply Exists.intro);exact⟨gF,rfl⟩)
      case measure=>simp[intOf];omega
     .have hp:p<known.length:=(fm.out.is.1 rfl).1
      obtain⟨g,c,hu⟩:=kM ja.out p hp;subst hu;have F:=(fc ja.out p hp).re;have dv:=ja.out.lt g rfl;have Sb:g<w2.heap.size:=dv.2;generalize hm:known.getD p dm=m2 at *;have Hm:Hid _:=hm;clear hm;have hN:∀d os,Calls AS 193 #[Ik #[Y m.name,U O m.state,U O m.aI,U O m.addr,Ia m.server],Ik #[Y m2.name,U O m2.state,U O m2.aI,U O m2.addr,Ia m2.server]] (Ig (Im w2 d) os) λe fR=>e=AT (Ia (dn m m2))/\∃p:JP,fR=Ig (Im w2 p.d) p.os:=λd os=>IV (ic m m2 _);have G:=zn.out.re;simp only[As,ID] at F G;have tm:∀o,w2.frozen? ⟨g,o,be⟩=false:=λo=>Jc ja.out o;have HFZ:Hid _:=tm;clear tm t0 t1 t2 t3 t4;generalize Az:dn m m2=nw at *;have MQ:Hid _:=Az;clear Az;go_wp2_with fail;refine IA (by kernel_rfl) (by kernel_rfl) ?_;repeat(quiet_step (exact hN _ _))
      refine bu λdq gW dF=>?_;clear hN F G;cases nw
      .go_wp2_with fail
       go_roundw
       case rel=>
        have gF:∃qw:Nat,qw<=nl/\U O ((q:Int)+1)=U O qw/\Below w.heap.size w (Ig (Im w2 dq) gW)/\Hid (Own w.heap.size (Ig (Im w2 dq) gW) (J (AI ⟨g,0,be⟩) known.length c) (aB (dV a b k) (l.take qw))):=⟨q+1,by omega,by go_num,bA.out.trans (dF.out.mono jb),by rw[HJ.out,dy known m p true fm.out,if_pos rfl,Hm.out,if_neg (λh=>Bool.false_ne_true (MQ.out.symm.trans h))];exact ja.out.below dF.out⟩;first|exact gF|((repeat apply Exists.intro);exact⟨gF,rfl⟩)
       case measure=>simp[intOf];omega
      .generalize Ig (Im w2 dq) gW=w3 at *
       have eG:Hid (Own _ _ _ _):=ja.out.below dF.out;obtain⟨c0,c1,c2,c3,c4⟩:=fc eG.out p hp;rw[Hm.out] at c0 c1 c2 c3 c4;have mJ:=(eG.out.lt g rfl).2;have tm:∀o,w3.frozen? ⟨g,o,be⟩=false:=λo=>Jc eG.out o;obtain⟨s0,s1,s2,s3,s4⟩:w3.cell? ⟨wr.heap.size,0,be⟩=AI (Y m.name)/\w3.cell? ⟨wr.heap.size,1,be⟩=AI (U O m.state)/\w3.cell? ⟨wr.heap.size,2,be⟩=AI (U O m.aI)/\w3.cell? ⟨wr.heap.size,3,be⟩=AI (U O m.addr)/\w3.cell? ⟨wr.heap.size,4,be⟩=AI (Ia m.server):=zn.out.eq (λo=>dF.out.cell (p:=⟨wr.heap.size,o,be⟩) De);go_wp2_with fail;refine⟨⟨q+1,by omega,by go_num,?_,?_⟩,by simp[intOf];omega⟩
       .exact((((((bA.out.trans (dF.out.mono jb)).setCell (p:=⟨g,p*5,be⟩) dv.1 (Y m.name)).setCell (p:=⟨g,p*5+1,be⟩) dv.1 (U O m.state)).setCell (p:=⟨g,p*5+2,be⟩) dv.1 (U O m.aI)).setCell (p:=⟨g,p*5+3,be⟩) dv.1 (U O m.addr)).setCell (p:=⟨g,p*5+4,be⟩) dv.1 (Ia m.server))
       .rw[HJ.out,dy known m p true fm.out,if_pos rfl,Hm.out,if_pos MQ.out]
        exact mN eG.out hp m
    .have Gn:q=nl:=by omega
     subst Gn;have eG:Hid (Own w.heap.size wr u7 (dV a b (k+1))):=by
      have h:=HO.out;rw[List.take_of_length_le (by rw[lB.out];exact Ie _)] at h;rw[qv.out.step];exact h
     go_wp2_with fail;go_roundw
     case rel=>exact⟨k+1,by omega,by go_num,aO,eG⟩
     case measure=>simp[intOf];omega
  .have kV:k=2:=by omega
   subst kV;go_wp2_with fail;go_ret;exact⟨_,rfl,HO.out,aO⟩
theorem gS(m:Mem)(w:World)(hm:m.name.size<=Io) :
 Calls AS 136 #[Ik #[Y m.name,U O m.state,U O m.aI,U O m.addr,Ia m.server]] w λe w'=>e=AT (U O m.e)/\Below w.heap.size w w':=by
 refine(zK m.name m.state m.aI m.addr m.server w hm).mono ?_;rintro e w' ⟨rfl,rfl⟩;exact⟨rfl,(Ib _ _).alloc (Ie _) _⟩
theorem jq(ms:List Mem)(b off cap:Nat)(w:World)(hr:Row w b off ms)(hb:b<w.heap.size)(hn:ms.length<=20)(hs:∀j,(ms.getD j dm).name.size<=Io) :
 Calls AS 96 #[J (AI ⟨b,off,be⟩) ms.length cap] w λe w'=>e=AT (U O (bp ms))/\Below w.heap.size w w':=by
 have HR:Hid (Row w b off ms):=hr;have HE:Hid (∀k,k<ms.length->(∀j,j<k->(ms.getD j dm).e=0)->(ms.getD k dm).e≠0->bp ms=(ms.getD k dm).e):=λk h1 h2 h3=>uH ms k hn h1 h2 h3;have H4:Hid ((∀j,j<ms.length->(ms.getD j dm).e=0)->bp ms=if aR ms=true then 0 else 4):=λh1=>tn ms hn h1;have Mi:Hid (∀w',Below w.heap.size w w'->Calls _ _ _ _ _):=λw' xK=>kG ms b off cap w' (hr.later xK hb) (IJ hb xK.size) hn;clear hr;generalize hN:ms.length=n at *;have HN:Hid _:=hN;clear hN;have HS:Hid _:=hs;clear hs;generalize hC:bp ms=res at *;have HC:Hid _:=hC;clear hC;generalize Mj:aR ms=rb at *;have P6:Hid _:=Mj;clear Mj;go_enter Tryz.func96,Tryz.ntmps96;go_wp2_with fail;go_loopw [11] (λi w'=>∃k:Nat,k<=n/\i=U O k/\Below w.heap.size w w'/\Hid (∀j,j<k->(ms.getD j dm).e=0)) (λi _=>n-(intOf i).toNat)
 case atStart=>exact⟨0,IF _,rfl,Ib _ _,λj h=>absurd h (Jj _)⟩
 case round=>
  obtain⟨k,hk,rfl,aO,hz⟩:=hrel;obtain⟨cK,kj⟩:=cd aO;have cB:=aO.size;by_cases aX:k<n
  .obtain⟨c0,c1,c2,c3,c4⟩:=HR.out k (by rw[HN.out];exact aX)
   have EJ:Hid _:=HS.out k;have HK:Hid ((ms.getD k dm).e≠0->res=(ms.getD k dm).e):=λh=>HE.out k aX hz.out h;have HZ:Hid ((ms.getD k dm).e=0->∀j,j<k+1->(ms.getD j dm).e=0):=λh j hj=>by
    rcases I6.1 hj with h2|rfl
    .exact hz.out j h2
    .exact h
   generalize ms.getD k dm=m at *;have HO:Hid (∀w,Calls _ _ _ _ _):=λw=>gS m w EJ.out;generalize m.e=me at *;rcases he:decide (me=0) with _|_
   .have lE:(me !=0)=true:=by simpa using he
    clear he;go_wp2_with (go_at_call 136;refine(HO.out _).mono ?_;rintro e w' ⟨rfl,aL⟩);go_ret;have aP:me≠0:=by simpa using lE
    have vd:=HK.out aP;exact⟨an vd.symm,(aO.alloc cB _).trans (aL.mono (by simp;omega))⟩
   .have lE:(me !=0)=false:=by simpa using he
    clear he;go_wp2_with (go_at_call 136;refine(HO.out _).mono ?_;rintro e w' ⟨rfl,aL⟩);go_roundw
    case rel=>
     have N8:me=0:=by simpa using lE
     exact⟨k+1,by omega,by go_num,(aO.alloc cB _).trans (aL.mono (by simp;omega)),HZ.out N8⟩
    case measure=>simp[intOf];omega
  .have ki:Hid (∀j,j<n->(ms.getD j dm).e=0):=λj hj=>hz.out j (by omega)
   have qe:Hid _:=H4.out ki.out;clear hz ki H4 HE HC P6;cases rb
   .go_wp2_with (go_at_call 137;refine(Mi.out _ aO).mono ?_;rintro e w' ⟨rfl,aL⟩)
    go_ret;exact⟨an (by rw[qe.out];rfl),aO.trans (aL.mono cB)⟩
   .go_wp2_with (go_at_call 137;refine(Mi.out _ aO).mono ?_;rintro e w' ⟨rfl,aL⟩)
    go_ret;exact⟨an (by rw[qe.out];rfl),aO.trans (aL.mono cB)⟩
theorem gX(a:Option Addr)(n cap:Nat)(w:World)(hn:20<n) :
 Calls AS 96 #[J a n cap] w λe w'=>e=AT (U O 2)/\w'=w:=by
 go_enter Tryz.func96,Tryz.ntmps96;go_wp2_with fail;go_ret;exact⟨rfl,rfl⟩
theorem gY(a:Option Addr)(cap:Nat)(w:World) :
 Calls AS 96 #[J a 0 cap] w λe w'=>e=AT (U O 0)/\w'=w:=by
 go_enter Tryz.func96,Tryz.ntmps96;go_wp2_with fail;go_loop [11] (λi=>i=U O 0) (λ_=>0)
 case atStart=>rfl
 case round=>
  subst hrel;go_wp2_with (go_at_call 137;refine(gZ _ _ _ _).mono ?_;rintro e w' ⟨rfl,rfl⟩);go_ret;exact⟨rfl,rfl⟩
theorem bD(ms:List Mem)(v:Value)(w:World)(h:Sl w v ms) :
 Calls AS 96 #[v] w λe w'=>e=AT (U O (bp ms))/\Below w.heap.size w w':=by
 obtain⟨a,cap,rfl,hs,h⟩:=h;by_cases hn:20<ms.length
 .refine(gX a ms.length cap w hn).mono ?_
  rintro e w' ⟨rfl,rfl⟩;exact⟨an (by rw[bp,if_pos hn]),Ib _ _⟩
 .rcases h with rfl|⟨b,off,rfl,hb,hr⟩
  .refine(gY a cap w).mono ?_
   rintro e w' ⟨rfl,rfl⟩;exact⟨rfl,Ib _ _⟩
  .exact jq ms b off cap w hr hb (by omega) hs
theorem ec(a b:List Mem)(va vb:Value)(pb cap:Nat)(w:World)(ha:Sl w va a)(hb:Sl w vb b)(hpb:pb<w.heap.size)(hc0:w.cell? ⟨pb,0,be⟩=AI va)(hc1:w.cell? ⟨pb,1,be⟩=AI vb) :
 Calls AS 192 #[J (AI ⟨pb,0,be⟩) 2 cap] w λe w'=>e=AT (U O (aY a b))/\Below w.heap.size w w':=by
 have HA:Hid (Sl w va a):=ha;have HB:Hid (Sl w vb b):=hb;clear ha hb;go_enter Tryz.func192,Tryz.ntmps192;go_wp2_with fail;go_loopw [8] (λi w'=>∃k:Nat,k<=2/\i=U O k/\Below w.heap.size w w'/\Hid (0<k->bp a=0)/\Hid (1<k->bp b=0)) (λi _=>2-(intOf i).toNat)
 case atStart=>exact⟨0,by omega,rfl,Ib _ _,λh=>by omega,λh=>by omega⟩
 case round=>
  obtain⟨k,hk,rfl,aO,dt,dD⟩:=hrel;obtain⟨cK,kj⟩:=cd aO;have cB:=aO.size;have LH:Hid (Sl wr va a):=HA.out.below aO;have LI:Hid (Sl wr vb b):=HB.out.below aO;have ib:k=0\/k=1\/k=2:=by omega
  rcases ib with rfl|rfl|rfl
  .rcases he:decide (bp a=0) with _|_
   .have lE:(bp a !=0)=true:=by simpa using he
    clear he;go_wp2_with (go_at_call 96;refine(bD a _ _ LH.out).mono ?_;rintro e w' ⟨rfl,aL⟩);go_ret;exact⟨an (by have h0:bp a≠0:=(by simpa using lE);rw[aY,if_neg h0]),aO.trans (aL.mono cB)⟩
   .have lE:(bp a !=0)=false:=by simpa using he
    clear he;go_wp2_with (go_at_call 96;refine(bD a _ _ LH.out).mono ?_;rintro e w' ⟨rfl,aL⟩);go_roundw
    case rel=>exact⟨1,by omega,by go_num,aO.trans (aL.mono cB),λ_=>(by simpa using lE),λh=>by omega⟩
    case measure=>simp[intOf]
  .have h0:Hid _:=dt.out (by omega)
   rcases he:decide (bp b=0) with _|_
   .have lE:(bp b !=0)=true:=by simpa using he
    clear he;go_wp2_with (go_at_call 96;refine(bD b _ _ LI.out).mono ?_;rintro e w' ⟨rfl,aL⟩);go_ret;exact⟨an (by rw[aY,if_pos h0.out]),aO.trans (aL.mono cB)⟩
   .have lE:(bp b !=0)=false:=by simpa using he
    clear he;go_wp2_with (go_at_call 96;refine(bD b _ _ LI.out).mono ?_;rintro e w' ⟨rfl,aL⟩);go_roundw
    case rel=>exact⟨2,by omega,by go_num,aO.trans (aL.mono cB),λ_=>h0.out,λ_=>(by simpa using lE)⟩
    case measure=>simp[intOf]
  .go_wp2_with fail
   go_ret;exact⟨an (by rw[aY,if_pos (dt.out (by omega)),dD.out (by omega)]),aO⟩
theorem ow(a b:List Mem)(va vb:Value)(pb cap:Nat)(w:World)(ha:Sl w va a)(hb:Sl w vb b)(hpb:pb<w.heap.size)(hc0:w.cell? ⟨pb,0,be⟩=AI va)(hc1:w.cell? ⟨pb,1,be⟩=AI vb)(aP:aY a b≠0) :
 Calls AS 152 #[J (AI ⟨pb,0,be⟩) 2 cap] w λe w'=>e=AT (Ip #[J be 0 0,U O (aJ a b)])/\Below w.heap.size w w':=by
 have he:(aY a b !=0)=true:=by simpa using aP
 have HE:Hid (aJ a b=aY a b):=if_neg aP;have rD:=ec a b va vb pb cap w ha hb hpb hc0 hc1;have HC:Hid (Calls _ _ _ _ _):=rD;clear rD ha hb aP;go_enter Tryz.func152,Tryz.ntmps152;go_wp2_with (go_at_call 192;refine HC.out.mono ?_;rintro e w' ⟨rfl,aL⟩);go_ret2;exact⟨by rw[HE.out];rfl,aL⟩
theorem mq(a b:List Mem)(va vb:Value)(pb cap:Nat)(w:World)(ha:Sl w va a)(hb:Sl w vb b)(hpb:pb<w.heap.size)(hc0:w.cell? ⟨pb,0,be⟩=AI va)(hc1:w.cell? ⟨pb,1,be⟩=AI vb)(h0:aY a b=0) :
 Calls AS 152 #[J (AI ⟨pb,0,be⟩) 2 cap] w λe w'=>∃v',e=AT (Ip #[v',U O (aJ a b)])/\Below w.heap.size w w' /\
  (20<(aB a b).length->v'=J be 0 0)/\((aB a b).length<=20->Own w.heap.size w' v' (aB a b)):=by
 have he:(aY a b !=0)=false:=by simpa using h0
 have FJ:bp a=0:=by unfold aY at h0;split at h0<;>assumption
 have VI:bp b=0:=by unfold aY at h0;rw[if_pos FJ] at h0;exact h0
 have za:=aj FJ;have zb:=aj VI;have HE:Hid (aJ a b=if 20<(aB a b).length then 2 else 0):=if_pos h0;have HC:Hid (Calls _ _ _ _ _):=ec a b va vb pb cap w ha hb hpb hc0 hc1;have HJ:Hid (∀w1,Below w.heap.size w w1->Calls AS 194 #[IQ (.func 138) #[] #[],IQ (.func 193) #[] #[],J (AI ⟨pb,0,be⟩) 2 cap] w1 λe w'=>∃v',e=AT v'/\Own w1.heap.size w' v' (aB a b)/\Below w1.heap.size w1 w'):=λw1 aC=>
  jv a b va vb pb cap w1 (ha.below aC) (hb.below aC) (IJ hpb aC.size) ((cd aC).1 pb 0 hpb |>.trans hc0) ((cd aC).1 pb 1 hpb |>.trans hc1) za.1 zb.1 za.2.1
 have GX:(aB a b).length<=40:=by have h1:=dj b a;have h2:=za.1;have h3:=zb.1;omega
 clear h0 FJ VI za zb ha hb hc0 hc1;generalize aB a b=jl at *;generalize Fw:jl.length=n at *;have N9:Hid _:=Fw;clear Fw;go_enter Tryz.func152,Tryz.ntmps152;go_wp2_with (go_at_call 192;refine HC.out.mono ?_;rintro e w1 ⟨rfl,aC⟩);refine(HJ.out w1 aC).mono ?_;rintro e w2 ⟨v',rfl,ho,aL⟩;have BU:∃p c,v'=J p n c:=by
  have hn:=N9.out;rcases ho.2 with⟨h,h0⟩|⟨g,c,cur,h,_⟩
  .exact⟨be,0,by rw[h];congr 1;omega⟩
  .exact⟨_,c,by rw[h,hn]⟩
 obtain⟨p,c,rfl⟩:=BU;have VJ:Hid _:=aC.trans (aL.mono aC.size);have eG:Hid (Own _ _ _ _):=ho.mono aC.size;clear ho aC aL HC HJ;by_cases aX:20<n
 .go_wp2_with fail
  go_ret2;refine⟨_,by rw[HE.out,if_pos aX];rfl,VJ.out,λ_=>rfl,λh=>by omega⟩
 .go_wp2_with fail
  go_ret2;refine⟨J p n c,by rw[HE.out,if_neg aX];rfl,VJ.out,λh=>by omega,λ_=>eG.out⟩
theorem oW(nm:ByteArray)(st lf ad:Int)(sv:Bool)(w:World) :
 aK 153 #[Ik #[Y nm,U O st,U O lf,U O ad,Ia sv]] w λe w'=>e=AT (J (AI ⟨w.heap.size+1,0,be⟩) 1 1)/\w'=(w.alloc (By #[Y nm,U O st,U O lf,U O ad,Ia sv] 52)).alloc (By #[Y nm,U O st,U O lf,U O ad,Ia sv] 52):=by
 go_enter Tryz.func153,Tryz.ntmps153;go_wp2;go_ret;exact⟨rfl,rfl⟩
def gQ(x y:Mem):Bool:=x.name.toList==y.name.toList&&(x.state==y.state&&(x.aI==y.aI&&(x.addr==y.addr&&x.server==y.server)))
theorem fK(x y:Mem):gQ x y=true↔x=y:=by
 obtain⟨n1,s1,l1,a1,v1⟩:=x;obtain⟨n2,s2,l2,a2,v2⟩:=y;simp only[gQ,Bool.and_eq_true,beq_iff_eq,Mem.mk.injEq,Lib.toList_data];constructor
 .rintro⟨h1,h2,h3,h4,h5⟩;exact⟨kK h1,h2,h3,h4,h5⟩
 .rintro⟨rfl,h2,h3,h4,h5⟩;exact⟨rfl,h2,h3,h4,h5⟩
theorem XP(m1 m2:Mem)(w:World):(Op.equalIn 10000 52 (Ik #[Y m1.name,U O m1.state,U O m1.aI,U O m1.addr,Ia m1.server]) (Ik #[Y m2.name,U O m2.state,U O m2.aI,U O m2.addr,Ia m2.server])).run AS w=.ok (gQ m1 m2) w:=by
 have u3:=Tryz.underlying3;have u4:=Tryz.underlying4;have u9:=Tryz.underlying9;have a3:=Tryz.isAgg3;have z3:=Tryz.sizeOf3;have a4:=Tryz.isAgg4;have z4:=Tryz.sizeOf4;have a9:=Tryz.isAgg9;have z9:=Tryz.sizeOf9;have hS:Tryz.prog.underlying 52=AI (.struct (Tryz.prog.fieldsOf 52)):=by kernel_rfl
 have hp:Tryz.prog.stoodInHeld 52=false:=by kernel_rfl
 rw[show(10000:Nat)=9999+1 from rfl,run_equalIn_agg w 9999 52 _ _ hS hp];simp only[Program.fieldsOf,Tryz.underlying52];go_simp;unfold gQ;by_cases h1:m1.name.toList=m2.name.toList<;>by_cases h2:m1.state=m2.state<;>by_cases h3:m1.aI=m2.aI<;>by_cases h4:m1.addr=m2.addr<;>by_cases h5:m1.server=m2.server<;>simp[h1,h2,h3,h4,h5]
theorem adO(m1 m2:Mem)(w:World):Sem.run AS (binOp .neq 52 (Ik #[Y m1.name,U O m1.state,U O m1.aI,U O m1.addr,Ia m1.server]) (Ik #[Y m2.name,U O m2.state,U O m2.aI,U O m2.addr,Ia m2.server])) w=.ok (Ia (!gQ m1 m2)) w:=by
 rw[run_neq_struct,XP];rfl
theorem kH(a b:List Mem)(va vb:Value)(w:World)(ha:Sl w va a)(hb:Sl w vb b)(xM:a.length<=1000) :
 aK 46 #[va,vb] w λe w'=>∃r:Bool,e=AT (Ia r)/\(r=true↔a=b)/\Below w.heap.size w w':=by
 obtain⟨pa,ca,rfl,_,ha⟩:=ha;obtain⟨pv,cb,rfl,_,hb⟩:=hb;by_cases hl:a.length=b.length
 .have HA:Hid _:=ha
  have HB:Hid _:=hb;have HL:Hid _:=hl;clear ha hb;rw[<- hl];clear hl;generalize tu:a.length=n at *;have HN:Hid _:=tu;clear tu;have aqz:Tryz.prog.eqGuardType Tryz.prog.depth 52=false:=by kernel_rfl
  go_enter Tryz.func46,Tryz.ntmps46;go_wp2_with fail;go_loopw [13] (λi w'=>∃k:Nat,k<=n/\i=U O k/\Below w.heap.size w w'/\Hid (∀j,j<k->a.getD j dm=b.getD j dm)) (λi _=>n-(intOf i).toNat)
  case atStart=>exact⟨0,IF _,rfl,Ib _ _,λj h=>absurd h (Jj _)⟩
  case round=>
   obtain⟨k,hk,rfl,aO,hz⟩:=hrel;obtain⟨cK,kj⟩:=cd aO;have cB:=aO.size;by_cases aX:k<n
   .obtain⟨b1,o1,ru,kb,ku⟩:∃b off,pa=AI ⟨b,off,be⟩/\b<w.heap.size/\Row w b off a:=by
     rcases HA.out with h|h
     .have:=HN.out;rw[h] at this;simp at this;omega
     .exact h
    obtain⟨b2,o2,qW,jE,mI⟩:∃nf off,pv=AI ⟨nf,off,be⟩/\nf<w.heap.size/\Row w nf off b:=by
     rcases HB.out with h|h
     .have h2:=HN.out;have h3:=HL.out;rw[h] at h3;simp at h3;omega
     .exact h
    subst ru;subst qW;obtain⟨c0,c1,c2,c3,c4⟩:=ku k (by rw[HN.out];exact aX);obtain⟨d0,d1,d2,d3,d4⟩:=mI k (by have h2:=HN.out;have h3:=HL.out;omega);clear ku mI;have HF:Hid (a.getD k dm≠b.getD k dm->a≠b):=λh e=>h (by rw[e]);have HZ:Hid (a.getD k dm=b.getD k dm->∀j,j<k+1->a.getD j dm=b.getD j dm):=λh j hj=>by
     rcases I6.1 hj with h2|rfl
     .exact hz.out j h2
     .exact h
    have qF:=adO (a.getD k dm) (b.getD k dm);generalize a.getD k dm=m1 at *;generalize b.getD k dm=m2 at *;rcases hs:gQ m1 m2 with _|_
    .rw[hs] at qF
     have aP:Hid _:=HF.out (λe=>by rw[<- fK,hs] at e;cases e);go_wp2_with fail;go_quiet (fail)
     go_wp2_with fail;go_ret;exact⟨false,rfl,⟨λh=>(by cases h),λh=>absurd h aP.out⟩,below_drewN aO _⟩
    .rw[hs] at qF
     have heq:Hid _:=(fK m1 m2).1 hs;go_wp2_with fail;go_quiet (fail)
     go_wp2_with fail;go_roundw
     case rel=>exact⟨k+1,by omega,by go_num,below_drewN aO _,HZ.out heq.out⟩
     case measure=>simp[intOf];omega
   .have gF:Hid (a=b):=by
     apply List.ext_getElem (HN.out.trans HL.out);intro j h1 h2;have:=hz.out j (by have:=HN.out;omega);simpa[Ir,Ic h1,Ic h2] using this
    go_wp2_with fail;go_ret;exact⟨true,rfl,⟨λ_=>gF.out,λ_=>rfl⟩,aO⟩
 .have aP:((a.length:Int)!=(b.length:Int))=true:=by rw[bne_iff_ne];omega
  have HF:Hid (a≠b):=λe=>hl (by rw[e]);clear ha hb;go_enter Tryz.func46,Tryz.ntmps46;go_wp2_with fail;go_ret;exact⟨false,rfl,⟨λh=>(by cases h),λh=>absurd h HF.out⟩,Ib _ _⟩
theorem fJ(ms:List Mem)(v:Value)(w:World)(h:Sl w v ms)(hn:ms.length<=1000) :
 aK 54 #[v] w λe w'=>∃v',e=AT v'/\Own w.heap.size w' v' ms/\Below w.heap.size w w':=by
 obtain⟨a,cap,rfl,hs,h⟩:=h;obtain⟨i0,fH,dt,gJ,gB⟩:=info_parts Tryz.qm;cases a with
 |none=>
  have he:ms=[]:=by
   rcases h with h|⟨b,off,h,_⟩
   .exact h
   .cases h
  subst he;clear h hs;have gV:=λ(w:World)=>Lib.run_eql_slice_nil (P:=AS) w 45 52 be 0 cap 0 0 JW;simp only[List.length_nil,Option.isNone_none] at gV ⊢;go_enter Tryz.func54,Tryz.ntmps54;go_wp2_with fail;go_ret;exact⟨_,rfl,cv _ _,Ib _ _⟩
 |some a=>
  have gV:=λ(w:World)=>Lib.run_eql_slice_nil (P:=AS) w 45 52 (AI a) ms.length cap 0 0 JW;simp only[Option.isNone_some] at gV;have hnews:Hid (∀j u,(fl ms)[j]?=AI u->(w.alloc (By #[] 52)).cell? (a.add j)=AI u):=by
   intro j u hj;rcases h with h|⟨b,off,h,hb,hr⟩
   .subst h;simp[fl] at hj
   .cases h
    have VX:j<ms.length*5:=by rw[<- da];exact(List.getElem?_eq_some_iff.1 hj).1
    have h1:=eK ms (j/5) (by omega) (j%5) (by omega);rw[show j/5*5+j%5=j by omega,hj] at h1;rw[Addr.add_lit,World.cell?_alloc_past (w:=w) _ b _ hb];obtain⟨c0,c1,c2,c3,c4⟩:=hr (j/5) (by omega);have cE:j%5=0\/j%5=1\/j%5=2\/j%5=3\/j%5=4:=by omega
    rcases cE with e|e|e|e|e
    .rw[show off+j=off+j/5*5 by omega,c0];rw[e] at h1;simpa[Mem.cs] using h1.symm
    .rw[show off+j=off+j/5*5+1 by omega,c1];rw[e] at h1;simpa[Mem.cs] using h1.symm
    .rw[show off+j=off+j/5*5+2 by omega,c2];rw[e] at h1;simpa[Mem.cs] using h1.symm
    .rw[show off+j=off+j/5*5+3 by omega,c3];rw[e] at h1;simpa[Mem.cs] using h1.symm
    .rw[show off+j=off+j/5*5+4 by omega,c4];rw[e] at h1;simpa[Mem.cs] using h1.symm
  have HO:Hid ((w.alloc (By #[] 52)).ownsRow w.heap.size 52 5 (J (AI ⟨w.heap.size,0,be⟩) 0 0) 0 []):=World.ownsRow_made w #[] 0 (Ie _) (by unfold Io;omega) rfl;clear h hs;go_enter Tryz.func54,Tryz.ntmps54;go_wp2_with (at_builtin;refine wpList_append_own _ rfl _ _ 45 rfl w.heap.size 52 i0 _ 5 48 JW fH dt gJ gB rfl (by omega) _ 0 [] rfl HO.out a ms.length cap (fl ms) rfl (da ms) hnews.out (iK ms) (by unfold Io;omega) (by omega) (by simp) ?_);intro v' w' r1 r2 r3;go_wp2_with fail;go_ret;refine⟨v',rfl,?_,?_⟩
  .simpa using r1
  .exact((Ib _ _).alloc (Ie _) _).grown r2 (by simp) (λk hk=>by simp[Value.ownBlock] at hk;omega)
theorem kW(a b:List Mem)(va vb:Value)(pb cap:Nat)(w:World)(ha:Sl w va a)(hb:Sl w vb b)(hpb:pb<w.heap.size)(hc0:w.cell? ⟨pb,0,be⟩=AI va)(hc1:w.cell? ⟨pb,1,be⟩=AI vb) :
 Calls AS 152 #[J (AI ⟨pb,0,be⟩) 2 cap] w λe w'=>∃v',e=AT (Ip #[v',U O (aJ a b)])/\Below w.heap.size w w' /\
  (aJ a b≠0->v'=J be 0 0)/\(aJ a b=0->Own w.heap.size w' v' (aB a b)):=by
 by_cases h0:aY a b=0
 .refine(mq a b va vb pb cap w ha hb hpb hc0 hc1 h0).mono ?_
  rintro e w' ⟨v',rfl,h1,h2,h3⟩;have hE:aJ a b=if 20<(aB a b).length then 2 else 0:=if_pos h0;refine⟨v',rfl,h1,λaP=>h2 ?_,λhz=>h3 ?_⟩
  .rw[hE] at aP;split at aP
   .assumption
   .exact absurd rfl aP
  .rw[hE] at hz;split at hz
   .cases hz
   .omega
 .refine(ow a b va vb pb cap w ha hb hpb hc0 hc1 h0).mono ?_
  rintro e w' ⟨rfl,h1⟩;have hE:aJ a b=aY a b:=if_neg h0;exact⟨_,rfl,h1,λ_=>rfl,λhz=>absurd (hE▸hz) h0⟩
theorem MU(ms:List Mem)(m:Mem)(v:Value)(w:World)(hv:Sl w v ms)(hm:m.name.size<=Io) :
 Calls AS 105 #[v,Ik #[Y m.name,U O m.state,U O m.aI,U O m.addr,Ia m.server]] w λe w'=>∃(v':Value) (r:Bool),e=AT (Ip #[v',Ia r,U O (aJ ms [m])])/\Below w.heap.size w w' /\
  (aJ ms [m]≠0->v'=J be 0 0/\r=false)/\(aJ ms [m]=0->Own w.heap.size w' v' (aN ms m)/\(r=true↔aN ms m≠ms)):=by
 have HV:=hv;obtain⟨pa,ca,rfl,ns,_⟩:=hv;obtain⟨W,hW⟩:∃W,W=(((w.alloc (By #[Y m.name,U O m.state,U O m.aI,U O m.addr,Ia m.server] 52)).alloc (By #[Y m.name,U O m.state,U O m.aI,U O m.addr,Ia m.server] 52)).alloc (By #[Y m.name,U O m.state,U O m.aI,U O m.addr,Ia m.server] 52)).alloc (By #[J pa ms.length ca,J (AI ⟨w.heap.size+1+1,0,be⟩) 1 1] 45):=⟨_,rfl⟩;go_enter Tryz.func105,Tryz.ntmps105;go_wp2_with (go_at_call 153;refine(oW _ _ _ _ _ _).mono ?_;rintro e w' ⟨rfl,rfl⟩);obtain⟨M,hM⟩:∃M:Obj,M=By #[Y m.name,U O m.state,U O m.aI,U O m.addr,Ia m.server] 52:=⟨_,rfl⟩;have bK:Below w.heap.size w W:=by rw[hW];exact((((Ib _ _).alloc (Ie _) _).alloc (by simp) _).alloc (by simp;omega) _).alloc (by simp;omega) _
 have RT:W.heap.size=w.heap.size+1+1+1+1:=by rw[hW];simp
 have mJ:W.heap[w.heap.size+1+1+1]?=AI (By #[J pa ms.length ca,J (AI ⟨w.heap.size+1+1,0,be⟩) 1 1] 45 (0,0)):=by rw[hW];have:=Ij (((w.alloc M).alloc M).alloc M) (By #[J pa ms.length ca,J (AI ⟨w.heap.size+1+1,0,be⟩) 1 1] 45);rw[hM] at this;simpa using this
 have dO:W.heap[w.heap.size+1+1]?=AI (By #[Y m.name,U O m.state,U O m.aI,U O m.addr,Ia m.server] 52 (0,0)):=by
  rw[hW,Below.heap_alloc _ _ _ (by simp)];have:=Ij ((w.alloc M).alloc M) M;rw[hM] at this;simpa using this
 rw[<- hW];refine(kW ms [m] (J pa ms.length ca) (J (AI ⟨w.heap.size+1+1,0,be⟩) 1 1) (w.heap.size+1+1+1) 2 W (HV.below bK) (pY W _ 1 m hm dO) (by omega) (ae mJ 0) (ae mJ 1)).mono ?_;rintro e w2 ⟨v',rfl,h1,h2,h3⟩;have HB:Hid _:=bK.trans (h1.mono (by omega));have HV2:Hid (Sl _ _ _):=HV.below HB.out;have H2:Hid _:=h2;have H3:Hid (aJ ms [m]=0->Own w.heap.size w2 v' (aN ms m)):=λh=>(h3 h).mono (by omega);clear h2 h3 h1 dO mJ RT bK hW hM HV;rcases he:decide (aJ ms [m]=0) with _|_
 .have lE:(aJ ms [m]!=0)=true:=by simpa using he
  have aP:Hid (aJ ms [m]≠0):=(show aJ ms [m]≠0 by simpa using he);clear he;go_wp2_with fail;go_ret3
  exact⟨_,false,rfl,HB.out,λ_=>⟨rfl,rfl⟩,λh=>absurd h aP.out⟩
 .have lE:(aJ ms [m]!=0)=false:=by simpa using he
  have hz:Hid (aJ ms [m]=0):=(show aJ ms [m]=0 by simpa using he);clear he;have HO:Hid (Own _ _ _ _):=H3.out hz.out;have Ms:bp ms=0:=by
   have h:=hz.out;unfold Hid aJ aY at h;by_cases h1:bp ms=0
   .exact h1
   .rw[if_neg h1,if_neg h1] at h;exact absurd h h1
  have HC:Hid _:=Ms;clear Ms;have NS:Hid _:=lJ (dI ns) hm;have hlen:Hid ((aN ms m).length<=1000):=by have h1:=mo ms m;have h2:=aj HC.out;show(aN ms m).length<=1000;omega
  go_wp2_with (go_at_call 46;refine(kH (aN ms m) ms _ _ _ (bM HO.out NS.out) HV2.out hlen.out).mono ?_;rintro e w3 ⟨r,rfl,h5,h6⟩);go_ret3
  refine⟨v',!r,by rw[show aJ ms [m]=0 from hz.out];rfl,HB.out.trans (h6.mono HB.out.size),λh=>absurd hz.out h,λ_=>⟨HO.out.below h6,?_⟩⟩;cases r
  .simp at h5;simpa using h5
  .simp at h5;simpa using h5
theorem lZ(nm:ByteArray)(st lf ad:Int)(sv:Bool)(w:World) :
 Calls AS 197 #[Ik #[Y nm,U O st,U O lf,U O ad,Ia sv]] w λe w'=>e=AT (Ia (decide (st=2)||decide (st=3)))/\w'=w.alloc (By #[Y nm,U O st,U O lf,U O ad,Ia sv] 52):=by
 by_cases h:st=2
 .subst h
  go_enter Tryz.func197,Tryz.ntmps197;go_wp2;go_ret;exact⟨aW (by simp),rfl⟩
 .have h':(st==2)=false:=by simpa using h
  go_enter Tryz.func197,Tryz.ntmps197;go_wp2;go_ret;exact⟨aW (by rw[Bool.eq_iff_iff];simp[h]),rfl⟩
def cJ(m:Mem):Mem:=⟨m.name,1,m.aI+1,m.addr,m.server⟩
theorem Ti(ms:List Mem)(p:Nat)(hp:p<ms.length):((fl ms).set (p*5+1) (U O 1)).set (p*5+2) (U O ((ms.getD p dm).aI+1))=fl (ms.set p (cJ (ms.getD p dm))):=by
 induction ms generalizing p with
 |nil=>simp at hp
 |cons x r ih=>
  cases p with
  |zero=>simp[fl,Mem.cs,cJ]
  |succ p=>
   have RE:=ih p (by simpa using hp);rw[List.set_cons_succ,bk,bk,List.getD_cons_succ,<- RE];simp only[Nat.add_mul,Nat.one_mul];have e:∀(l:List Value) (k:Nat) (v:Value),(x.cs++l).set (k+5) v=x.cs++l.set k v:=λl k v=>by
    rw[List.set_append,if_neg (by rw[bR];omega),bR,Nat.add_sub_cancel]
   rw[show p*5+5+1=(p*5+1)+5 by omega,show p*5+5+2=(p*5+2)+5 by omega];rw[e,e]
theorem Pa{base g c p:Nat}{W:World}{ms:List Mem}(h:Own base W (J (AI ⟨g,0,be⟩) ms.length c) ms)(hp:p<ms.length) :
 Own base ((W.setCell ⟨g,p*5+1,be⟩ (U O 1)).setCell ⟨g,p*5+2,be⟩ (U O ((ms.getD p dm).aI+1))) (J (AI ⟨g,0,be⟩) ms.length c) (ms.set p (cJ (ms.getD p dm))):=by
 have h1:=IM h (p*5+1) (U O 1);have h2:=IM h1.1 (p*5+2) (U O ((ms.getD p dm).aI+1));have e:=h2.1;rw[Ti ms p hp] at e;show World.ownsRow _ _ _ _ _ (ms.set p (cJ (ms.getD p dm))).length _;rw[List.length_set];exact e
theorem KG{nm:ByteArray}{st lf ad:Int}(h:uY nm st lf ad=0):bl nm=true/\(1<=st/\st<=4)/\(1<=lf/\lf<=1000000)/\(0<=ad/\ad<=4294967295):=by
 have hw:∀n a b:Int,within n a b=true->a<=n/\n<=b:=λn a b h=>by simpa[within] using h
 unfold uY at h;split at h
 .rename_i h1
  split at h
  .rename_i h2
   split at h
   .rename_i h3
    split at h
    .rename_i h4
     exact⟨h1,hw _ _ _ h2,hw _ _ _ h3,hw _ _ _ h4⟩
    .omega
   .omega
  .omega
 .omega
theorem bn:∀(ms:List Mem),ba ms=0->∀m∈ms,m.e=0
 |[],_,m,h=>by simp at h
 |x::r,h,m,hm=>by
  rw[ba] at h;split at h
  .rename_i h1
   rcases List.mem_cons.1 hm with rfl|hm
   .exact h1
   .exact bn r h m hm
  .rename_i h1;exact absurd h h1
theorem uN{ms:List Mem}(h:ba ms=0)(p:Nat)(hp:p<ms.length):(ms.getD p dm).e=0:=by
 have:=bn ms h ms[p] (List.getElem_mem hp);simpa[Ir,Ic hp] using this
def ia(ms:List Mem)(p:Nat)(f:Bool):Bool:=f&&(decide ((ms.getD p dm).state=2)||decide ((ms.getD p dm).state=3))&&!((ms.getD p dm).aI==1000000)
def jL(ms:List Mem)(p:Nat)(f:Bool):Int:=if f&&(decide ((ms.getD p dm).state=2)||decide ((ms.getD p dm).state=3))&&((ms.getD p dm).aI==1000000) then 3 else 0
def rF(ms:List Mem)(p:Nat)(f:Bool):List Mem:=if ia ms p f=true then ms.set p (cJ (ms.getD p dm)) else ms
def Tj(ms:List Mem)(p:Nat)(f:Bool)(w:World)(e:Ending)(w':World):Prop:=
 ∃v':Value,e=AT (Ip #[v',Ia (ia ms p f),U O (jL ms p f)])/\Below w.heap.size w w'/\(jL ms p f≠0->v'=J be 0 0)/\(jL ms p f=0->Own w.heap.size w' v' (rF ms p f))
theorem Bi(ms:List Mem)(v:Value)(me:ByteArray)(w:World)(hv:Sl w v ms)(h0:bp ms=0)(hs:me.size<=Io)(hl:bl me=true)(p:Nat)(f:Bool)(cA:At ms me p f) :
 Calls AS 155 #[v,Y me] w λe w'=>Tj ms p f w e w':=by
 have he:(bp ms !=0)=false:=by simpa using h0
 have hz:=aj h0;have HN:Hid (∀x∈ms,x.name.size<=Io):=by obtain⟨a,c,_,hn,_⟩:=hv;exact dI hn
 have HV:Hid (Sl w v ms):=hv;have HM:Hid (aT ms):=hz.2.1;have hlen:=hz.1;have Cu:Hid _:=hz.2.2;have fm:Hid _:=cA;clear hv h0 hz cA;go_enter Tryz.func155,Tryz.ntmps155;go_wp2_with (first|(go_at_call 96;refine(bD ms _ _ HV.out).mono ?_;rintro e w1 ⟨rfl,aC⟩)|(go_at_call 50;refine(cj _ _ hs).mono ?_;rintro e w' ⟨rfl,rfl⟩;rw[hl]));refine(fJ ms _ _ (HV.out.below aC) (by omega)).mono ?_;rintro e w2 ⟨kv,rfl,fS,aL⟩;have ja:Hid (Own _ _ _ _):=fS.mono aC.size;have bA:Hid _:=aC.trans (aL.mono aC.size);clear fS aL aC;go_wp2_with fail;refine(gf ms _ ⟨me,0,0,0,false⟩ _ (bM ja.out HN.out) (by omega) HM.out).mono ?_;rintro e w3 ⟨p',f',rfl,bY,sN⟩;obtain⟨rfl,rfl⟩:=eZ fm.out sN;have eG:Hid (Own _ _ _ _):=ja.out.below bY;have cF:Hid _:=bA.out.trans (bY.mono bA.out.size);clear sN bY ja bA;cases f with
 |false=>
  go_wp2_with fail;go_ret3
  exact⟨kv,rfl,cF.out,λh=>absurd rfl h,λ_=>eG.out⟩
 |true=>
  have hp:=(fm.out.is.1 rfl).1;have Tc:=(KG (uN Cu.out p hp)).2.2.1;obtain⟨g,c,hkv⟩:∃g c,kv=J (AI ⟨g,0,be⟩) ms.length c:=by
   rcases eG.out.2 with⟨_,h0⟩|⟨g,c,cur,h,_⟩
   .omega
   .exact⟨g,c,h⟩
  subst hkv;have dv:=eG.out.lt g rfl;have tm:∀o,w3.frozen? ⟨g,o,be⟩=false:=λo=>Jc eG.out o;have Sb:=dv.2;obtain⟨b',aqB,xl,CF,cL⟩:∃b off,(AI ⟨g,0,be⟩:Option Addr)=AI ⟨b,off,be⟩/\b<w3.heap.size/\Row w3 b off ms:=by
   obtain⟨a,cap,h1,_,h2⟩:=bM eG.out HN.out;simp only[Value.slice.injEq] at h1;obtain⟨rfl,_⟩:=h1;rcases h2 with h2|h2
   .rw[h2] at hp;simp at hp
   .exact h2
  simp only[Option.some.injEq,Addr.mk.injEq,and_true] at xl;obtain⟨rfl,rfl⟩:=xl;obtain⟨c0,c1,c2,c3,c4⟩:=cL p hp;clear cL CF;simp only[ID] at c0 c1 c2 c3 c4;generalize hm:ms.getD p dm=m2 at *;have Hm:Hid _:=hm;clear hm;obtain⟨n2,s2,l2,a2,v2⟩:=m2;simp only at c0 c1 c2 c3 c4 Tc;obtain⟨aqC,aqD⟩:=Tc;rcases hd:(decide (s2=2)||decide (s2=3)) with _|_
  .go_wp2_with (go_at_call 197;refine(lZ _ _ _ _ _ _).mono ?_;rintro e w' ⟨rfl,rfl⟩;rw[hd])
   go_ret3
   have e1:ia ms p true=false:=by unfold ia;rw[Hm.out];simp only[hd];rfl
   have e2:jL ms p true=0:=by unfold jL;rw[Hm.out];simp only[hd];rfl
   refine⟨J (AI ⟨g,0,be⟩) ms.length c,by rw[e1,e2];rfl,cF.out.alloc cF.out.size _,λh=>absurd e2 h,λ_=>?_⟩;rw[rF,e1,if_neg (by simp)];exact eG.out.below ((Ib _ _).alloc (Ie _) _)
  .rcases jE:((l2:Int)==1000000) with _|_
   .have e1:ia ms p true=true:=by unfold ia;rw[Hm.out];simp only[hd,jE];rfl
    have e2:jL ms p true=0:=by unfold jL;rw[Hm.out];simp only[hd,jE];rfl
    have E1:Hid _:=e1;have E2:Hid _:=e2;clear e1 e2;have HS:=Pa eG.out hp;rw[Hm.out] at HS;have HS2:Hid (Own _ _ _ _):=HS;clear HS;go_wp2_with (go_at_call 197;refine(lZ _ _ _ _ _ _).mono ?_;rintro e w' ⟨rfl,rfl⟩;rw[hd]);go_ret3
    refine⟨J (AI ⟨g,0,be⟩) ms.length c,by rw[E1.out,E2.out];rfl,?_,λh=>absurd E2.out h,λ_=>?_⟩
    .have hB2:=(cF.out.setCell (p:=⟨g,p*5+1,be⟩) dv.1 (U O 1)).setCell (p:=⟨g,p*5+2,be⟩) dv.1 (U O (l2+1))
     exact hB2.alloc (by have:=cF.out.size;simpa using this) _
    .rw[rF,if_pos E1.out,Hm.out]
     exact HS2.out.below ((Ib _ _).alloc (Ie _) _)
   .have E1:Hid (ia ms p true=false):=(show ia ms p true=false by unfold ia;rw[Hm.out];simp only[hd,jE];rfl)
    have E2:Hid (jL ms p true=3):=(show jL ms p true=3 by unfold jL;rw[Hm.out];simp only[hd,jE];rfl);go_wp2_with (go_at_call 197;refine(lZ _ _ _ _ _ _).mono ?_;rintro e w' ⟨rfl,rfl⟩;rw[hd]);go_ret3
    exact⟨J be 0 0,by rw[E1.out,E2.out];rfl,cF.out.alloc cF.out.size _,λ_=>rfl,λh=>by rw[E2.out] at h;cases h⟩
end Go.Proofs.YtbfghimjdlpicaaGreatDoor
