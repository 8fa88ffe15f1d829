import Derived.Test.YtbfghimjdlpicaaGreatDoorna3
import Derived.Lib.SmallJoins
set_option maxHeartbeats 4000000
set_option maxRecDepth 100000
open Go.Value renaming slice→J,func→IQ,bool→Ia,int→U,agg→Ik,string→Y,tuple→Ip
open Go.Ending renaming returned→AT
open Option renaming some→AI,none→be
open Go.Proofs.Tryz renaming prog→AS
open Go.IntKind renaming i64→O
open Go.RowKit.Below renaming refl→Ib
open Nat renaming not_lt_zero→Jj,lt_succ_iff_lt_or_eq→I6,zero_le→IF,le_refl→Ie,zero_add→ID,lt_of_lt_of_le→IJ
open Go.Sort renaming grow→Ig
open Go renaming redrawn→Im,Regrown→JP,wp_region_quiet_below→IA,heap_alloc_new→Ij,bodyPost_ret→IL
open Go.Calls renaming regrown_of→IV
open Go.Obj renaming cells→By
open List renaming getD→Ir,getElem?_eq_getElem→Ic
namespace Go.Proofs.YtbfghimjdlpicaaGreatDoor
namespace Gw
open Go.RowKit
theorem kG(ms:List bN)(b off cap:Nat)(w:World)(hr:Row w b off ms)(hb:b<w.heap.size)(hn:ms.length<=6) :
 Calls AS 145 #[J (AI ⟨b,off,be⟩) ms.length cap,IQ (.func 146) #[] #[]] w λe w'=>e=AT (Ia (aR ms))/\Below w.heap.size w w':=by
 have HR:Hid (Row w b off ms):=hr;clear hr;have H4:Hid (∀k,k+1<ms.length->0<=ord (ms.getD k dm) (ms.getD (k+1) dm)->aR ms=false):=λk hk hl=>by
  rcases h:aR ms with _|_
  .rfl
  .have:=fV ms h k hk;omega
 have H0:Hid ((∀j,j+1<ms.length->ord (ms.getD j dm) (ms.getD (j+1) dm)<0)->aR ms=true):=fW ms;generalize hN:ms.length=n at *;have HN:Hid (ms.length=n):=hN;clear hN;generalize hC:aR ms=res at *;have HC:Hid (aR ms=res):=hC;clear hC;go_enter Tryz.func145,Tryz.ntmps145;go_wp2_with fail;go_loopw [5] (λi w'=>∃k:Nat,(k+1<=n\/k=0)/\i=U O (k+1)/\Below w.heap.size w w'/\Hid (∀j,j<k->ord (ms.getD j dm) (ms.getD (j+1) dm)<0)) (λi _=>n-(intOf i).toNat)
 case atStart=>exact⟨0,.inr rfl,rfl,Ib _ _,λj h=>absurd h (Jj _)⟩
 case round=>
  obtain⟨q,hq,rfl,aO,hz⟩:=hrel;obtain⟨cK,kj⟩:=cd aO;have cB:=aO.size;by_cases aX:q+1<n
  .have F:=((HR.out q (by rw[HN.out];omega)).eq (λo=>cK b o hb)).re
   have G:=((HR.out (q+1) (by rw[HN.out];exact aX)).eq (λo=>cK b o hb)).re;have HK:Hid (0<=ord (ms.getD q dm) (ms.getD (q+1) dm)->res=false):=λh=>H4.out q aX h;have HZ:Hid (ord (ms.getD q dm) (ms.getD (q+1) dm)<0->∀j,j<q+1->ord (ms.getD j dm) (ms.getD (j+1) dm)<0):=λh j hj=>by
    rcases I6.1 hj with h2|rfl
    .exact hz.out j h2
    .exact h
   generalize ms.getD q dm=m1 at *;generalize ms.getD (q+1) dm=m2 at *;have hN:∀d os,Calls AS 146 #[Ik #[Y m1.av,U O m1.addr,U O m1.version],Ik #[Y m2.av,U O m2.addr,U O m2.version]] (Ig (Im wr d) os) λe fR=>e=AT (U O (ord m1 m2))/\∃p:JP,fR=Ig (Im wr p.d) p.os:=λd os=>IV (dK m1 m2 _);simp only[As] at F G;clear cK kj;generalize ord m1 m2=r at *;have Lr:IntKind.i64.wrap (q:Int)=(q:Int):=by rw[IntKind.wrap_i64];omega
   have Gn:q<n:=by omega
   have hq1:(q:Int)+1<(n:Int):=by omega
   have hq0:(0:Int)<=(q:Int)+1:=by omega
   have Gp:((q:Int)+1).toNat=q+1:=by omega
   go_wp2_with fail;refine IA (by kernel_rfl) (by kernel_rfl) ?_;repeat(quiet_step (exact hN _ _))
   refine bu λdq gW dF=>?_;clear hN F G;by_cases hl:r<0
   .have jE:¬ (0<=r):=by omega
    go_wp2_with fail;go_roundw
    case rel=>exact⟨q+1,.inl (by omega),by go_num,aO.trans (dF.out.mono cB),HZ.out hl⟩
    case measure=>simp[intOf];omega
   .have jE:0<=r:=by omega
    have h4:Hid (res=false):=HK.out jE;go_wp2_with fail;go_ret;exact⟨aW h4.out.symm,aO.trans (dF.out.mono cB)⟩
  .have h0:Hid (res=true):=H0.out λj hj=>hz.out j (by omega)
   go_wp2_with fail;go_ret;exact⟨aW h0.out.symm,aO⟩
theorem gZ(a:Option Addr)(cap:Nat)(fv:Value)(w:World) :
 Calls AS 145 #[J a 0 cap,fv] w λe w'=>e=AT (Ia true)/\w'=w:=by
 go_enter Tryz.func145,Tryz.ntmps145;go_wp2_with fail;go_loop [5] (λi=>i=U O 1) (λ_=>0)
 case atStart=>rfl
 case round=>
  subst hrel;go_wp2_with fail;go_ret;exact⟨rfl,rfl⟩
theorem il(ms:List bN)(b off cap:Nat)(lk:bN)(w:World)(hr:Row w b off ms)(hb:b<w.heap.size)(hn:ms.length<=12)(iY:∀i j,i<=j->j<ms.length->ord (ms.getD j dm) lk<0->ord (ms.getD i dm) lk<0) :
 Calls AS 239 #[J (AI ⟨b,off,be⟩) ms.length cap,Ik #[Y lk.av,U O lk.addr,U O lk.version],IQ (.func 146) #[] #[]] w λe w'=>∃(p:Nat) (f:Bool),e=AT (Ip #[U O p,Ia f])/\Below w.heap.size w w' /\
  p<=ms.length/\(∀j,j<p->ord (ms.getD j dm) lk<0)/\(∀j,p<=j->j<ms.length->0<=ord (ms.getD j dm) lk)/\(f=true↔p<ms.length/\ord (ms.getD p dm) lk=0):=by
 have HR:Hid (Row w b off ms):=hr;clear hr;have HM:Hid _:=iY;clear iY;generalize hN:ms.length=n at *;have HN:Hid (ms.length=n):=hN;clear hN;go_enter Tryz.func239,Tryz.ntmps239;go_wp2_with fail;obtain⟨W0,bP,bK,fj,dX⟩:=bV w #[Y lk.av,U O lk.addr,U O lk.version] 102;have Hd:Hid (Row W0 b off ms):=HR.out.later bK hb;have HT:Hid (As W0 w.heap.size 0 lk):=⟨ae dX 0,ae dX 1,ae dX 2⟩;have df:Hid (Below w.heap.size w W0):=bK;have vp:Hid (W0=w.alloc (By #[Y lk.av,U O lk.addr,U O lk.version] 102)):=bP;clear dX bK HR bP;have yN:b<w.heap.size+1:=by omega
 go_loopw [9,10] (λi j w'=>∃k l:Nat,k<=l/\l<=n/\i=U O k/\j=U O l/\Below (w.heap.size+1) W0 w'/\Hid (∀j,j<k->ord (ms.getD j dm) lk<0)/\Hid (∀j,l<=j->j<n->0<=ord (ms.getD j dm) lk)) (λi j _=>(intOf j).toNat-(intOf i).toNat)
 case atStart=>exact⟨0,n,IF _,Ie _,rfl,rfl,by rw[vp.out];exact Ib _ _,λj h=>absurd h (Jj _),λj h1 h2=>by omega⟩
 case round=>
  obtain⟨k,l,ie,Nz,rfl,rfl,aO,Au,Av⟩:=hrel;have cB:=aO.size;have cK:∀b o,b<w.heap.size+1->wr.cell? ⟨b,o,be⟩=W0.cell? ⟨b,o,be⟩:=λb o h=>aO.cell (p:=⟨b,o,be⟩) h;have G:=(HT.out.eq (λo=>cK w.heap.size o (by omega))).re;simp only[As,ID] at G;by_cases aX:k<l
  .obtain⟨h,hh,h1,h2⟩:∃h:Nat,((k:Int)+(l:Int))/2=(h:Int)/\k<=h/\h<l:=⟨(k+l)/2,by omega,by omega,by omega⟩
   have F:=((Hd.out h (by rw[HN.out];omega)).eq (λo=>cK b o yN)).re;have rC:=HM.out;have HK:Hid (ord (ms.getD h dm) lk<0->∀j,j<h+1->ord (ms.getD j dm) lk<0):=λhx j hj=>rC j h (by omega) (by omega) hx;have HL:Hid (0<=ord (ms.getD h dm) lk->∀j,h<=j->j<n->0<=ord (ms.getD j dm) lk):=λhx j hj yP=>by
    apply Int.not_lt.1;intro hq;have:=rC h j hj yP hq;omega
   clear rC;have hhn:h<n:=by omega
   generalize ms.getD h dm=m at *;have hO:∀d os,Calls AS 146 #[Ik #[Y m.av,U O m.addr,U O m.version],Ik #[Y lk.av,U O lk.addr,U O lk.version]] (Ig (Im wr d) os) λe fR=>e=AT (U O (ord m lk))/\∃p:JP,fR=Ig (Im wr p.d) p.os:=λd os=>IV (dK m lk _);simp only[As] at F;clear cK;generalize ord m lk=r at *;go_wp2_with fail;refine IA (by kernel_rfl) (by kernel_rfl) ?_;repeat(quiet_step (exact hO _ _))
   refine bu λdq gW dF=>?_;clear hO F G;by_cases xx:r<0
   .go_wp2_with fail
    exact⟨⟨h+1,l,by omega,by omega,by go_num,rfl,aO.trans (dF.out.mono (by omega)),HK.out xx,Av⟩,by simp[intOf];omega⟩
   .have BD:0<=r:=by omega
    go_wp2_with fail;exact⟨⟨k,h,by omega,by omega,rfl,rfl,aO.trans (dF.out.mono (by omega)),Au,HL.out BD⟩,by simp[intOf];omega⟩
  .have Ef:l=k:=by omega
   subst Ef;by_cases eJ:l<n
   .have F:=((Hd.out l (by rw[HN.out];omega)).eq (λo=>cK b o yN)).re
    generalize hm:ms.getD l dm=m at *;have Hm:Hid (ms.getD l dm=m):=hm;clear hm;have hO:∀d os,Calls AS 146 #[Ik #[Y m.av,U O m.addr,U O m.version],Ik #[Y lk.av,U O lk.addr,U O lk.version]] (Ig (Im wr d) os) λe fR=>e=AT (U O (ord m lk))/\∃p:JP,fR=Ig (Im wr p.d) p.os:=λd os=>IV (dK m lk _);simp only[As] at F;clear cK;generalize DY:ord m lk=r at *;have Hr:Hid (ord m lk=r):=DY;clear DY;go_wp2_with fail;refine IA (by kernel_rfl) (by kernel_rfl) ?_;repeat(quiet_step (exact hO _ _))
    refine bu λdq gW dF=>?_;clear hO F G;go_wp2_with fail;go_ret2;refine⟨l,_,rfl,df.out.trans ((aO.trans (dF.out.mono (by omega))).mono (by omega)),by omega,Au.out,Av.out,?_⟩;rw[Hm.out,Hr.out];simp[eJ]
   .clear G
    have hkd:decide ((l:Int)<(n:Int))=false:=by simp;omega
    go_wp2_with fail;go_quiet (fail)
    go_wp2_with fail;go_ret2;refine⟨l,_,rfl,df.out.trans ((below_drewN aO _).mono (by omega)),by omega,Au.out,Av.out,?_⟩;simp[eJ]
theorem gu(a:Option Addr)(cap:Nat)(lk:bN)(fv:Value)(w:World) :
 Calls AS 239 #[J a 0 cap,Ik #[Y lk.av,U O lk.addr,U O lk.version],fv] w λe w'=>e=AT (Ip #[U O 0,Ia false])/\Below w.heap.size w w':=by
 go_enter Tryz.func239,Tryz.ntmps239;go_wp2_with fail;go_loop [9,10] (λi j=>i=U O 0/\j=U O 0) (λ_ _=>0)
 case atStart=>exact⟨rfl,rfl⟩
 case round=>
  obtain⟨rfl,rfl⟩:=hrel;go_wp2_with fail;go_quiet (fail)
  go_wp2_with fail;go_ret2;exact⟨rfl,below_drewN ((Ib _ _).alloc (Ie _) _) _⟩
theorem gv(ms:List bN)(v:Value)(lk:bN)(w:World)(h:Sl w v ms)(hn:ms.length<=12)(iY:∀i j,i<=j->j<ms.length->ord (ms.getD j dm) lk<0->ord (ms.getD i dm) lk<0) :
 Calls AS 239 #[v,Ik #[Y lk.av,U O lk.addr,U O lk.version],IQ (.func 146) #[] #[]] w λe w'=>∃(p:Nat) (f:Bool),e=AT (Ip #[U O p,Ia f])/\Below w.heap.size w w'/\At ms lk p f:=by
 obtain⟨a,cap,rfl,hs,h⟩:=h;rcases h with rfl|⟨b,off,rfl,hb,hr⟩
 .refine(gu a cap lk _ w).mono ?_
  rintro e w' ⟨rfl,hb⟩;exact⟨0,false,rfl,hb,⟨by simp,λj h=>by omega,λj h h2=>by simp at h2,by simp⟩⟩
 .refine(il ms b off cap lk w hr hb hn iY).mono ?_
  rintro e w' ⟨p,f,rfl,aO,g1,g2,g3,g4⟩;exact⟨p,f,rfl,aO,⟨g1,g2,g3,g4⟩⟩
theorem gf(ms:List bN)(v:Value)(lk:bN)(w:World)(h:Sl w v ms)(hn:ms.length<=12)(hr:aT ms) :
 Calls AS 200 #[v,Ik #[Y lk.av,U O lk.addr,U O lk.version],IQ (.func 146) #[] #[]] w λe w'=>∃(p:Nat) (f:Bool),e=AT (Ip #[U O p,Ia f])/\Below w.heap.size w w'/\At ms lk p f:=by
 have HC:Hid (∀w',Below w.heap.size w w'->Calls AS 239 #[v,Ik #[Y lk.av,U O lk.addr,U O lk.version],IQ (.func 146) #[] #[]] w' λe fR=>∃(p:Nat) (f:Bool),e=AT (Ip #[U O p,Ia f])/\Below w'.heap.size w' fR/\At ms lk p f):=
  λw' hb=>gv ms v lk w' (h.below hb) hn (eu hr lk)
 clear h hn hr;go_enter Tryz.func200,Tryz.ntmps200;go_wp2_with (go_at_call 239;refine(HC.out _ ?hb).mono ?_)
 case hb=>exact(Ib _ _).alloc (Ie _) _
 rintro e w' ⟨p,f,rfl,aO,cA⟩;have fm:Hid (At ms lk p f):=cA;clear cA;go_wp2_with fail;go_ret2;exact⟨p,f,rfl,((Ib _ _).alloc (Ie _) _).trans (aO.mono (by simp)),fm.out⟩
end Gw
namespace Gw
open Go.RowKit
theorem mZ{a b:List bN}(nc:a.length<=6)(lH:b.length<=6)(k:Nat):(dV a b k).length<=12:=by
 unfold dV;split
 .simp
 .split
  .omega
  .have:=dj b a;omega
structure Da(w:World)(pb:Nat)(a b:List bN)(k:Nat)(l:List bN)(pk:Option Addr)(ck:Nat):Prop where
 cell:w.cell? ⟨pb,k,be⟩=AI (J pk l.length ck)
 row:l=[]\/∃b off,pk=AI ⟨b,off,be⟩/\b<w.heap.size/\Row w b off l
 MM:∀m∈l,(m).ok
 len:l.length<=6
 Db:(dV a b k).length<=6
 vi:aT (dV a b k)
 Dc:∀m∈dV a b k,(m).ok
 step:dV a b (k+1)=aB (dV a b k) l
theorem qt{a b:List bN}{va vb:Value}{pb:Nat}{w:World}(ha:Sl w va a)(hb:Sl w vb b)(hc0:w.cell? ⟨pb,0,be⟩=AI va)(hc1:w.cell? ⟨pb,1,be⟩=AI vb)(nc:a.length<=6)(lH:b.length<=6)(ra:aT a)(k:Nat)(hk:k<2) :
 ∃l pk ck,Da w pb a b k l pk ck:=by
 obtain⟨pa,ca,rfl,MN,ha⟩:=ha;obtain⟨pv,cb,rfl,Rc,hb⟩:=hb;have ib:k=0\/k=1:=by omega
 rcases ib with rfl|rfl
 .exact⟨a,pa,ca,hc0,ha,dI MN,nc,by simp[dV],by simp[dV],by simp[dV],(ju a ra).symm⟩
 .exact⟨b,pv,cb,hc1,hb,dI Rc,lH,nc,ra,dI MN,rfl⟩
theorem jv(a b:List bN)(va vb:Value)(pb cap:Nat)(w:World)(ha:Sl w va a)(hb:Sl w vb b)(hpb:pb<w.heap.size)(hc0:w.cell? ⟨pb,0,be⟩=AI va)(hc1:w.cell? ⟨pb,1,be⟩=AI vb)(nc:a.length<=6)(lH:b.length<=6)(ra:aT a) :
 Calls AS 160 #[IQ (.func 146) #[] #[],IQ (.func 161) #[] #[],J (AI ⟨pb,0,be⟩) 2 cap] w λe w'=>∃v',e=AT v'/\Own w.heap.size w' v' (aB a b)/\Below w.heap.size w w':=by
 have HK:Hid (∀k,k<2->∃l pk ck,Da w pb a b k l pk ck):=λk hk=>qt ha hb hc0 hc1 nc lH ra k hk;have xh:Hid (∀k,(dV a b k).length<=12):=mZ nc lH;clear ha hb hc0 hc1 nc lH ra;go_enter Tryz.func160,Tryz.ntmps160;go_wp2_with fail;go_loopw [7,16] (λkn i w'=>∃k:Nat,k<=2/\i=U O k/\Below w.heap.size w w'/\Hid (Own w.heap.size w' kn (dV a b k))) (λ_ i _=>2-(intOf i).toNat)
 case atStart=>exact⟨0,by omega,rfl,Ib _ _,cv _ _⟩
 case round=>
  obtain⟨k,hk,rfl,aO,HO⟩:=hrel;obtain⟨cK,kj⟩:=cd aO;have cB:=aO.size;by_cases ji:k<2
  .obtain⟨l,pk,ck,qu⟩:=HK.out k ji
   have qv:Hid (Da w pb a b k l pk ck):=qu;have gO:=qu.cell;clear qu;generalize tt:l.length=nl at *;have lB:Hid (l.length=nl):=tt;clear tt;have MO:nl<=6:=by have:=qv.out.len;have:=lB.out;omega
   have Wv:(k:Int)<2:=by omega
   go_wp2_with fail;go_loopw [7,22] (λkn j w'=>∃q:Nat,q<=nl/\j=U O q/\Below w.heap.size w w'/\Hid (Own w.heap.size w' kn (aB (dV a b k) (l.take q)))) (λ_ j _=>nl-(intOf j).toNat)
   case atStart=>exact⟨0,IF _,rfl,aO,HO⟩
   case round=>
    clear cK kj cB aO HO gO;obtain⟨q,hq,rfl,aO,HO⟩:=hrel;obtain⟨cK,kj⟩:=cd aO;have cB:=aO.size;by_cases aX:q<nl
    .obtain⟨b2,off,Dd,Re,cL⟩:∃nf off,pk=AI ⟨nf,off,be⟩/\nf<w.heap.size/\Row w nf off l:=by
      rcases qv.out.row with h|h
      .have:=lB.out;rw[h] at this;simp at this;omega
      .exact h
     subst Dd;obtain⟨c0,c1,c2⟩:=cL q (by rw[lB.out];exact aX);clear cL;have HJ:Hid (aB (dV a b k) (l.take (q+1))=aN (aB (dV a b k) (l.take q)) (l.getD q dm)):=gd (dV a b k) l q (by rw[lB.out];exact aX);have HR:Hid (aT (aB (dV a b k) (l.take q))):=dz _ _ qv.out.vi;have RW:Hid (∀j,((aB (dV a b k) (l.take q)).getD j dm).ok):=cD (iP _ _ qv.out.Dc (λx hx=>qv.out.MM x (List.mem_of_mem_take hx)));have HL:Hid ((aB (dV a b k) (l.take q)).length<=12):=by
      have h1:=dj (l.take q) (dV a b k);have h2:(l.take q).length<=q:=List.length_take_le _ _;have h3:=qv.out.Db;show(aB (dV a b k) (l.take q)).length<=12;omega
     generalize l.getD q dm=m at *;generalize aB (dV a b k) (l.take q)=known at *;have GX:known.length<=12:=HL.out;obtain⟨W1,db,aC,fO,cI⟩:=bV wr #[Y m.av,U O m.addr,U O m.version] 102;have mT:Hid (Own w.heap.size W1 u7 known):=HO.out.below aC;have HF:Hid (Calls AS 200 #[u7,Ik #[Y m.av,U O m.addr,U O m.version],IQ (.func 146) #[] #[]] W1 λe w'=>∃(p:Nat) (f:Bool),e=AT (Ip #[U O p,Ia f])/\Below W1.heap.size W1 w'/\At known m p f):=
      gf known u7 m W1 (mT.out.sl RW.out) HL.out HR.out
     have aZ:Hid (Below w.heap.size w W1):=aO.trans (aC.mono cB);have HT:Hid (As W1 wr.heap.size 0 m):=⟨ae cI 0,ae cI 1,ae cI 2⟩;have pD:Hid _:=db;have xe:w.heap.size<=W1.heap.size:=by omega
     clear cI aC HO HL HR db;go_wp2_with fail;rw[<- pD.out];refine HF.out.mono ?_;rintro e w2 ⟨p,f,rfl,aL,cA⟩;have fm:Hid _:=cA;have Ww:=cA.le;have MP:=aL.size;have ja:Hid (Own _ _ _ _):=mT.out.below aL;have bA:Hid _:=aZ.out.trans (aL.mono xe);have zn:Hid (As w2 wr.heap.size 0 m):=HT.out.eq (λo=>aL.cell (p:=⟨wr.heap.size,o,be⟩) (by show wr.heap.size<W1.heap.size;omega));obtain⟨t0,t1,t2⟩:w2.cell? ⟨wr.heap.size,0,be⟩=AI (Y m.av)/\w2.cell? ⟨wr.heap.size,1,be⟩=AI (U O m.addr)/\w2.cell? ⟨wr.heap.size,2,be⟩=AI (U O m.version):=zn.out;have jb:w.heap.size<=w2.heap.size:=by omega
     have De:wr.heap.size<w2.heap.size:=by omega
     clear cA HF cK kj c0 c1 c2 aL mT aZ HT;cases f
     .have aP:Hid (u7.ownBlock≠AI w2.heap.size):=λe=>by have:=ja.out.lt _ e;omega
      have eG:Hid (Own w.heap.size (w2.alloc (By #[Y m.av,U O m.addr,U O m.version] 102)) u7 known):=ja.out.below ((Ib _ _).alloc (Ie _) _);have rK:Hid ((w2.alloc (By #[Y m.av,U O m.addr,U O m.version] 102)).heap[w2.heap.size]?=AI (By m.cs.toArray 102 (0,0))):=Ij w2 _;go_wp2_with (go_at_call 201;refine(gh w.heap.size p w2.heap.size u7 known m _ eG.out fm.out.le (by omega) (by simp;omega) rK.out aP.out).mono ?_;rintro e w4 ⟨v',rfl,g1,g2⟩);go_roundw
      case rel=>
       have gF:∃qw:Nat,qw<=nl/\U O ((q:Int)+1)=U O qw/\Below w.heap.size w w4/\Hid (Own w.heap.size w4 v' (aB (dV a b k) (l.take qw))):=⟨q+1,by omega,by go_num,fU (bA.out.alloc jb _) eG.out g2 (by simp;omega),by rw[HJ.out,dy known m p false fm.out];exact g1⟩;first|exact gF|((repeat apply Exists.intro);exact⟨gF,rfl⟩)
      case measure=>simp[intOf];omega
     .have hp:p<known.length:=(fm.out.is.1 rfl).1
      obtain⟨g,c,hu⟩:=kM ja.out p hp;subst hu;have F:=(fc ja.out p hp).re;have dv:=ja.out.lt g rfl;have Sb:g<w2.heap.size:=dv.2;generalize hm:known.getD p dm=m2 at *;have Hm:Hid _:=hm;clear hm;have hN:∀d os,Calls AS 161 #[Ik #[Y m.av,U O m.addr,U O m.version],Ik #[Y m2.av,U O m2.addr,U O m2.version]] (Ig (Im w2 d) os) λe fR=>e=AT (Ia (bF m m2))/\∃p:JP,fR=Ig (Im w2 p.d) p.os:=λd os=>IV (ic m m2 _);have G:=zn.out.re;simp only[As,ID] at F G;have tm:∀o,w2.frozen? ⟨g,o,be⟩=false:=λo=>World.ownsRow.frozenAt ja.out o;have HFZ:Hid _:=tm;clear tm t0 t1 t2;generalize Az:bF m m2=nw at *;have MQ:Hid _:=Az;clear Az;go_wp2_with fail;refine IA (by kernel_rfl) (by kernel_rfl) ?_;repeat(quiet_step (exact hN _ _))
      refine bu λdq gW dF=>?_;clear hN F G;cases nw
      .go_wp2_with fail
       go_roundw
       case rel=>
        have gF:∃qw:Nat,qw<=nl/\U O ((q:Int)+1)=U O qw/\Below w.heap.size w (Ig (Im w2 dq) gW)/\Hid (Own w.heap.size (Ig (Im w2 dq) gW) (J (AI ⟨g,0,be⟩) known.length c) (aB (dV a b k) (l.take qw))):=⟨q+1,by omega,by go_num,bA.out.trans (dF.out.mono jb),by rw[HJ.out,dy known m p true fm.out,if_pos rfl,Hm.out,if_neg (λh=>Bool.false_ne_true (MQ.out.symm.trans h))];exact ja.out.below dF.out⟩;first|exact gF|((repeat apply Exists.intro);exact⟨gF,rfl⟩)
       case measure=>simp[intOf];omega
      .generalize Ig (Im w2 dq) gW=w3 at *
       have eG:Hid (Own _ _ _ _):=ja.out.below dF.out;obtain⟨c0,c1,c2⟩:=fc eG.out p hp;rw[Hm.out] at c0 c1 c2;have mJ:=(eG.out.lt g rfl).2;have tm:∀o,w3.frozen? ⟨g,o,be⟩=false:=λo=>World.ownsRow.frozenAt eG.out o;obtain⟨s0,s1,s2⟩:w3.cell? ⟨wr.heap.size,0,be⟩=AI (Y m.av)/\w3.cell? ⟨wr.heap.size,1,be⟩=AI (U O m.addr)/\w3.cell? ⟨wr.heap.size,2,be⟩=AI (U O m.version):=zn.out.eq (λo=>dF.out.cell (p:=⟨wr.heap.size,o,be⟩) De);go_wp2_with fail;refine⟨⟨q+1,by omega,by go_num,?_,?_⟩,by simp[intOf];omega⟩
       .exact((((bA.out.trans (dF.out.mono jb)).setCell (p:=⟨g,p*3,be⟩) dv.1 (Y m.av)).setCell (p:=⟨g,p*3+1,be⟩) dv.1 (U O m.addr)).setCell (p:=⟨g,p*3+2,be⟩) dv.1 (U O m.version))
       .rw[HJ.out,dy known m p true fm.out,if_pos rfl,Hm.out,if_pos MQ.out]
        exact mN eG.out hp m
    .have Gn:q=nl:=by omega
     subst Gn;have eG:Hid (Own w.heap.size wr u7 (dV a b (k+1))):=by
      have h:=HO.out;rw[List.take_of_length_le (by rw[lB.out];exact Ie _)] at h;rw[qv.out.step];exact h
     go_wp2_with fail;go_roundw
     case rel=>exact⟨k+1,by omega,by go_num,aO,eG⟩
     case measure=>simp[intOf];omega
  .have kV:k=2:=by omega
   subst kV;go_wp2_with fail;go_ret;exact⟨_,rfl,HO.out,aO⟩
end Gw
namespace Gw
open Go.RowKit
theorem gS(m:bN)(w:World)(hm:m.ok) :
 Calls AS 144 #[Ik #[Y m.av,U O m.addr,U O m.version]] w λe w'=>e=AT (U O m.e)/\Below w.heap.size w w':=by
 have hs:m.av.size<=maxLen:=hm;have hB:Hid (Below w.heap.size w (w.alloc (By #[Y m.av,U O m.addr,U O m.version] 102))):=(Ib _ _).alloc (Ie _) _;clear hm;rcases h1:bl m.av with _|_
 .go_enter Tryz.func144,Tryz.ntmps144
  go_wp2_with (go_at_call 50;refine(cj _ _ hs).mono ?_;rintro e w' ⟨rfl,rfl⟩;rw[h1]);go_ret;exact⟨an (by simp[bN.e,h1]),hB.out⟩
 .rcases h2:within m.addr 0 4294967295 with _|_
  .go_enter Tryz.func144,Tryz.ntmps144
   go_wp2_with (first|(go_at_call 50;refine(cj _ _ hs).mono ?_;rintro e w' ⟨rfl,rfl⟩;rw[h1])|(go_at_call 29;refine(fp _ _).mono ?_;rintro e w' ⟨rfl,rfl⟩;rw[h2]));go_ret;exact⟨an (by simp[bN.e,h1,h2]),hB.out⟩
  .rcases h3:within m.version 1 1000000 with _|_
   all_goals
    go_enter Tryz.func144,Tryz.ntmps144;go_wp2_with (first|(go_at_call 50;refine(cj _ _ hs).mono ?_;rintro e w' ⟨rfl,rfl⟩;rw[h1])|(go_at_call 29;refine(fp _ _).mono ?_;rintro e w' ⟨rfl,rfl⟩;rw[h2])|(go_at_call 51;refine(cM _ _ _ _).mono ?_;rintro e w' ⟨rfl,rfl⟩;rw[h3]));go_ret;exact⟨an (by simp[bN.e,h1,h2,h3]),hB.out⟩
theorem jq(ms:List bN)(b off cap:Nat)(w:World)(hr:Row w b off ms)(hb:b<w.heap.size)(hn:ms.length<=6)(hs:∀j,(ms.getD j dm).ok) :
 Calls AS 99 #[J (AI ⟨b,off,be⟩) ms.length cap] w λe w'=>e=AT (U O (bp ms))/\Below w.heap.size w w':=by
 have HR:Hid (Row w b off ms):=hr;have HE:Hid (∀k,k<ms.length->(∀j,j<k->(ms.getD j dm).e=0)->(ms.getD k dm).e≠0->bp ms=(ms.getD k dm).e):=λk h1 h2 h3=>uH ms k hn h1 h2 h3;have H4:Hid ((∀j,j<ms.length->(ms.getD j dm).e=0)->bp ms=if aR ms=true then 0 else 4):=λh1=>tn ms hn h1;have Mi:Hid (∀w',Below w.heap.size w w'->Calls _ _ _ _ _):=λw' xK=>kG ms b off cap w' (hr.later xK hb) (IJ hb xK.size) hn;clear hr;generalize hN:ms.length=n at *;have HN:Hid _:=hN;clear hN;have HS:Hid _:=hs;clear hs;generalize hC:bp ms=res at *;have HC:Hid _:=hC;clear hC;generalize Mj:aR ms=rb at *;have P6:Hid _:=Mj;clear Mj;go_enter Tryz.func99,Tryz.ntmps99;go_wp2_with fail;go_loopw [11] (λi w'=>∃k:Nat,k<=n/\i=U O k/\Below w.heap.size w w'/\Hid (∀j,j<k->(ms.getD j dm).e=0)) (λi _=>n-(intOf i).toNat)
 case atStart=>exact⟨0,IF _,rfl,Ib _ _,λj h=>absurd h (Jj _)⟩
 case round=>
  obtain⟨k,hk,rfl,aO,hz⟩:=hrel;obtain⟨cK,kj⟩:=cd aO;have cB:=aO.size;by_cases aX:k<n
  .obtain⟨c0,c1,c2⟩:=HR.out k (by rw[HN.out];exact aX)
   have EJ:Hid _:=HS.out k;have HK:Hid ((ms.getD k dm).e≠0->res=(ms.getD k dm).e):=λh=>HE.out k aX hz.out h;have HZ:Hid ((ms.getD k dm).e=0->∀j,j<k+1->(ms.getD j dm).e=0):=λh j hj=>by
    rcases I6.1 hj with h2|rfl
    .exact hz.out j h2
    .exact h
   generalize ms.getD k dm=m at *;have HO:Hid (∀w,Calls _ _ _ _ _):=λw=>gS m w EJ.out;generalize m.e=me at *;rcases he:decide (me=0) with _|_
   .have lE:(me !=0)=true:=by simpa using he
    clear he;go_wp2_with (go_at_call 144;refine(HO.out _).mono ?_;rintro e w' ⟨rfl,aL⟩);go_ret;have aP:me≠0:=by simpa using lE
    have vd:=HK.out aP;exact⟨an vd.symm,(aO.alloc cB _).trans (aL.mono (by simp;omega))⟩
   .have lE:(me !=0)=false:=by simpa using he
    clear he;go_wp2_with (go_at_call 144;refine(HO.out _).mono ?_;rintro e w' ⟨rfl,aL⟩);go_roundw
    case rel=>
     have N8:me=0:=by simpa using lE
     exact⟨k+1,by omega,by go_num,(aO.alloc cB _).trans (aL.mono (by simp;omega)),HZ.out N8⟩
    case measure=>simp[intOf];omega
  .have ki:Hid (∀j,j<n->(ms.getD j dm).e=0):=λj hj=>hz.out j (by omega)
   have qe:Hid _:=H4.out ki.out;clear hz ki H4 HE HC P6;cases rb
   .go_wp2_with (go_at_call 145;refine(Mi.out _ aO).mono ?_;rintro e w' ⟨rfl,aL⟩)
    go_ret;exact⟨an (by rw[qe.out];rfl),aO.trans (aL.mono cB)⟩
   .go_wp2_with (go_at_call 145;refine(Mi.out _ aO).mono ?_;rintro e w' ⟨rfl,aL⟩)
    go_ret;exact⟨an (by rw[qe.out];rfl),aO.trans (aL.mono cB)⟩
theorem gX(a:Option Addr)(n cap:Nat)(w:World)(hn:6<n) :
 Calls AS 99 #[J a n cap] w λe w'=>e=AT (U O 2)/\w'=w:=by
 go_enter Tryz.func99,Tryz.ntmps99;go_wp2_with fail;go_ret;exact⟨rfl,rfl⟩
theorem gY(a:Option Addr)(cap:Nat)(w:World) :
 Calls AS 99 #[J a 0 cap] w λe w'=>e=AT (U O 0)/\w'=w:=by
 go_enter Tryz.func99,Tryz.ntmps99;go_wp2_with fail;go_loop [11] (λi=>i=U O 0) (λ_=>0)
 case atStart=>rfl
 case round=>
  subst hrel;go_wp2_with (go_at_call 145;refine(gZ _ _ _ _).mono ?_;rintro e w' ⟨rfl,rfl⟩);go_ret;exact⟨rfl,rfl⟩
theorem bD(ms:List bN)(v:Value)(w:World)(h:Sl w v ms) :
 Calls AS 99 #[v] w λe w'=>e=AT (U O (bp ms))/\Below w.heap.size w w':=by
 obtain⟨a,cap,rfl,hs,h⟩:=h;by_cases hn:6<ms.length
 .refine(gX a ms.length cap w hn).mono ?_
  rintro e w' ⟨rfl,rfl⟩;exact⟨an (by rw[bp,if_pos hn]),Ib _ _⟩
 .rcases h with rfl|⟨b,off,rfl,hb,hr⟩
  .refine(gY a cap w).mono ?_
   rintro e w' ⟨rfl,rfl⟩;exact⟨rfl,Ib _ _⟩
  .exact jq ms b off cap w hr hb (by omega) hs
theorem ec(a b:List bN)(va vb:Value)(pb cap:Nat)(w:World)(ha:Sl w va a)(hb:Sl w vb b)(hpb:pb<w.heap.size)(hc0:w.cell? ⟨pb,0,be⟩=AI va)(hc1:w.cell? ⟨pb,1,be⟩=AI vb) :
 Calls AS 159 #[J (AI ⟨pb,0,be⟩) 2 cap] w λe w'=>e=AT (U O (aY a b))/\Below w.heap.size w w':=by
 have HA:Hid (Sl w va a):=ha;have HB:Hid (Sl w vb b):=hb;clear ha hb;go_enter Tryz.func159,Tryz.ntmps159;go_wp2_with fail;go_loopw [8] (λi w'=>∃k:Nat,k<=2/\i=U O k/\Below w.heap.size w w'/\Hid (0<k->bp a=0)/\Hid (1<k->bp b=0)) (λi _=>2-(intOf i).toNat)
 case atStart=>exact⟨0,by omega,rfl,Ib _ _,λh=>by omega,λh=>by omega⟩
 case round=>
  obtain⟨k,hk,rfl,aO,dt,dD⟩:=hrel;obtain⟨cK,kj⟩:=cd aO;have cB:=aO.size;have LH:Hid (Sl wr va a):=HA.out.below aO;have LI:Hid (Sl wr vb b):=HB.out.below aO;have ib:k=0\/k=1\/k=2:=by omega
  rcases ib with rfl|rfl|rfl
  .rcases he:decide (bp a=0) with _|_
   .have lE:(bp a !=0)=true:=by simpa using he
    clear he;go_wp2_with (go_at_call 99;refine(bD a _ _ LH.out).mono ?_;rintro e w' ⟨rfl,aL⟩);go_ret;exact⟨an (by have h0:bp a≠0:=(by simpa using lE);rw[aY,if_neg h0]),aO.trans (aL.mono cB)⟩
   .have lE:(bp a !=0)=false:=by simpa using he
    clear he;go_wp2_with (go_at_call 99;refine(bD a _ _ LH.out).mono ?_;rintro e w' ⟨rfl,aL⟩);go_roundw
    case rel=>exact⟨1,by omega,by go_num,aO.trans (aL.mono cB),λ_=>(by simpa using lE),λh=>by omega⟩
    case measure=>simp[intOf]
  .have h0:Hid _:=dt.out (by omega)
   rcases he:decide (bp b=0) with _|_
   .have lE:(bp b !=0)=true:=by simpa using he
    clear he;go_wp2_with (go_at_call 99;refine(bD b _ _ LI.out).mono ?_;rintro e w' ⟨rfl,aL⟩);go_ret;exact⟨an (by rw[aY,if_pos h0.out]),aO.trans (aL.mono cB)⟩
   .have lE:(bp b !=0)=false:=by simpa using he
    clear he;go_wp2_with (go_at_call 99;refine(bD b _ _ LI.out).mono ?_;rintro e w' ⟨rfl,aL⟩);go_roundw
    case rel=>exact⟨2,by omega,by go_num,aO.trans (aL.mono cB),λ_=>h0.out,λ_=>(by simpa using lE)⟩
    case measure=>simp[intOf]
  .go_wp2_with fail
   go_ret;exact⟨an (by rw[aY,if_pos (dt.out (by omega)),dD.out (by omega)]),aO⟩
theorem ow(a b:List bN)(va vb:Value)(pb cap:Nat)(w:World)(ha:Sl w va a)(hb:Sl w vb b)(hpb:pb<w.heap.size)(hc0:w.cell? ⟨pb,0,be⟩=AI va)(hc1:w.cell? ⟨pb,1,be⟩=AI vb)(aP:aY a b≠0) :
 Calls AS 109 #[J (AI ⟨pb,0,be⟩) 2 cap] w λe w'=>e=AT (Ip #[J be 0 0,U O (aJ a b)])/\Below w.heap.size w w':=by
 have he:(aY a b !=0)=true:=by simpa using aP
 have HE:Hid (aJ a b=aY a b):=if_neg aP;have rD:=ec a b va vb pb cap w ha hb hpb hc0 hc1;have HC:Hid (Calls _ _ _ _ _):=rD;clear rD ha hb aP;go_enter Tryz.func109,Tryz.ntmps109;go_wp2_with (go_at_call 159;refine HC.out.mono ?_;rintro e w' ⟨rfl,aL⟩);go_ret2;exact⟨by rw[HE.out];rfl,aL⟩
theorem mq(a b:List bN)(va vb:Value)(pb cap:Nat)(w:World)(ha:Sl w va a)(hb:Sl w vb b)(hpb:pb<w.heap.size)(hc0:w.cell? ⟨pb,0,be⟩=AI va)(hc1:w.cell? ⟨pb,1,be⟩=AI vb)(h0:aY a b=0) :
 Calls AS 109 #[J (AI ⟨pb,0,be⟩) 2 cap] w λe w'=>∃v',e=AT (Ip #[v',U O (aJ a b)])/\Below w.heap.size w w' /\
  (6<(aB a b).length->v'=J be 0 0)/\((aB a b).length<=6->Own w.heap.size w' v' (aB a b)):=by
 have he:(aY a b !=0)=false:=by simpa using h0
 have FJ:bp a=0:=by unfold aY at h0;split at h0<;>assumption
 have VI:bp b=0:=by unfold aY at h0;rw[if_pos FJ] at h0;exact h0
 have za:=aj FJ;have zb:=aj VI;have HE:Hid (aJ a b=if 6<(aB a b).length then 2 else 0):=if_pos h0;have HC:Hid (Calls _ _ _ _ _):=ec a b va vb pb cap w ha hb hpb hc0 hc1;have HJ:Hid (∀w1,Below w.heap.size w w1->Calls AS 160 #[IQ (.func 146) #[] #[],IQ (.func 161) #[] #[],J (AI ⟨pb,0,be⟩) 2 cap] w1 λe w'=>∃v',e=AT v'/\Own w1.heap.size w' v' (aB a b)/\Below w1.heap.size w1 w'):=λw1 aC=>
  jv a b va vb pb cap w1 (ha.below aC) (hb.below aC) (IJ hpb aC.size) ((cd aC).1 pb 0 hpb |>.trans hc0) ((cd aC).1 pb 1 hpb |>.trans hc1) za.1 zb.1 za.2.1
 have GX:(aB a b).length<=12:=by have h1:=dj b a;have h2:=za.1;have h3:=zb.1;omega
 clear h0 FJ VI za zb ha hb hc0 hc1;generalize aB a b=jl at *;generalize Fw:jl.length=n at *;have N9:Hid _:=Fw;clear Fw;go_enter Tryz.func109,Tryz.ntmps109;go_wp2_with (go_at_call 159;refine HC.out.mono ?_;rintro e w1 ⟨rfl,aC⟩);refine(HJ.out w1 aC).mono ?_;rintro e w2 ⟨v',rfl,ho,aL⟩;have BU:∃p c,v'=J p n c:=by
  have hn:=N9.out;rcases ho.2 with⟨h,h0⟩|⟨g,c,cur,h,_⟩
  .exact⟨be,0,by rw[h];congr 1;omega⟩
  .exact⟨_,c,by rw[h,hn]⟩
 obtain⟨p,c,rfl⟩:=BU;have VJ:Hid _:=aC.trans (aL.mono aC.size);have eG:Hid (Own _ _ _ _):=ho.mono aC.size;clear ho aC aL HC HJ;by_cases aX:6<n
 .go_wp2_with fail
  go_ret2;refine⟨_,by rw[HE.out,if_pos aX];rfl,VJ.out,λ_=>rfl,λh=>by omega⟩
 .go_wp2_with fail
  go_ret2;refine⟨J p n c,by rw[HE.out,if_neg aX];rfl,VJ.out,λh=>by omega,λ_=>eG.out⟩
end Gw
namespace Gw
open Go.RowKit
theorem kW(a b:List bN)(va vb:Value)(pb cap:Nat)(w:World)(ha:Sl w va a)(hb:Sl w vb b)(hpb:pb<w.heap.size)(hc0:w.cell? ⟨pb,0,be⟩=AI va)(hc1:w.cell? ⟨pb,1,be⟩=AI vb) :
 Calls AS 109 #[J (AI ⟨pb,0,be⟩) 2 cap] w λe w'=>∃v',e=AT (Ip #[v',U O (aJ a b)])/\Below w.heap.size w w' /\
  (aJ a b≠0->v'=J be 0 0)/\(aJ a b=0->Own w.heap.size w' v' (aB a b)):=by
 by_cases h0:aY a b=0
 .refine(mq a b va vb pb cap w ha hb hpb hc0 hc1 h0).mono ?_
  rintro e w' ⟨v',rfl,h1,h2,h3⟩;have hE:aJ a b=if 6<(aB a b).length then 2 else 0:=if_pos h0;refine⟨v',rfl,h1,λaP=>h2 ?_,λhz=>h3 ?_⟩
  .rw[hE] at aP;split at aP
   .assumption
   .exact absurd rfl aP
  .rw[hE] at hz;split at hz
   .cases hz
   .omega
 .refine(ow a b va vb pb cap w ha hb hpb hc0 hc1 h0).mono ?_
  rintro e w' ⟨rfl,h1⟩;have hE:aJ a b=aY a b:=if_neg h0;exact⟨_,rfl,h1,λ_=>rfl,λhz=>absurd (hE▸hz) h0⟩
theorem sM(a b:List bN)(va vb:Value)(w:World)(ha:Sl w va a)(hb:Sl w vb b) :
 Calls AS 62 #[va,vb] w λe w'=>∃v',e=AT (Ip #[v',U O (aJ a b)])/\Below w.heap.size w w' /\
  (aJ a b≠0->v'=J be 0 0)/\(aJ a b=0->Own w.heap.size w' v' (aB a b)):=by
 have HA:=ha;have HB:=hb;obtain⟨pa,ca,rfl,_,_⟩:=ha;obtain⟨pv,cb,rfl,_,_⟩:=hb;have bK:Below w.heap.size w (w.alloc (By #[J pa a.length ca,J pv b.length cb] 47)):=(Ib _ _).alloc (Ie _) _;have LH:Hid (Sl _ _ _):=HA.below bK;have LI:Hid (Sl _ _ _):=HB.below bK;clear HA HB;generalize a.length=na at *;generalize b.length=nb at *;go_enter Tryz.func62,Tryz.ntmps62;go_wp2_with fail;refine(kW a b (J pa na ca) (J pv nb cb) w.heap.size 2 _ LH.out LI.out (by simp) (ae (Ij w _) 0) (ae (Ij w _) 1)).mono ?_;rintro e w2 ⟨v',rfl,h1,h2,h3⟩;have H2:Hid _:=h2;have H3:Hid _:=h3;clear h2 h3;go_wp2_with fail;go_ret2;exact⟨v',rfl,bK.trans (h1.mono (by simp)),H2.out,λh=>(H3.out h).mono (by simp)⟩
theorem qE{a b:List bN}(h:bp a≠0):aJ a b=bp a:=by
 have:aY a b=bp a:=if_neg h
 rw[aJ,this,if_neg h]
theorem ni{a b:List bN}(h:bp a=0)(h2:bp b≠0):aJ a b=bp b:=by
 have:aY a b=bp b:=if_pos h
 rw[aJ,this,if_neg h2]
theorem gj{a b:List bN}(h:bp a=0)(h2:bp b=0):aJ a b=if 6<(aB a b).length then 2 else 0:=by
 have:aY a b=0:=(if_pos h).trans h2
 rw[aJ,if_pos this]
def gQ(x y:bN):Bool:=x.av.toList==y.av.toList&&(x.addr==y.addr&&(x.version==y.version))
theorem fK(x y:bN):gQ x y=true↔x=y:=by
 obtain⟨x_centre,x_addr,x_version⟩:=x;obtain⟨y_centre,y_addr,y_version⟩:=y;simp only[gQ,Bool.and_eq_true,beq_iff_eq,bN.mk.injEq,Lib.toList_data];constructor
 .rintro⟨h0,h1,h2⟩;exact⟨kK h0,h1,h2⟩
 .rintro⟨h0,h1,h2⟩;exact⟨by rw[h0],h1,h2⟩
theorem MW(m1 m2:bN)(w:World):(Op.equalIn 10000 102 (Ik #[Y m1.av,U O m1.addr,U O m1.version]) (Ik #[Y m2.av,U O m2.addr,U O m2.version])).run AS w=.ok (gQ m1 m2) w:=by
 have u3:=Tryz.underlying3;have u9:=Tryz.underlying9;have a3:=Tryz.isAgg3;have z3:=Tryz.sizeOf3;have a9:=Tryz.isAgg9;have z9:=Tryz.sizeOf9;have hS:Tryz.prog.underlying 102=AI (.struct (Tryz.prog.fieldsOf 102)):=by kernel_rfl
 have hp:Tryz.prog.stoodInHeld 102=false:=by kernel_rfl
 rw[show(10000:Nat)=9999+1 from rfl,run_equalIn_agg w 9999 102 _ _ hS hp];simp only[Program.fieldsOf,Tryz.underlying102];go_simp;unfold gQ;by_cases h0:m1.av.toList=m2.av.toList
 case neg=>simp[h0]
 by_cases h1:m1.addr=m2.addr
 case neg=>simp[h0,h1]
 by_cases h2:m1.version=m2.version
 case neg=>simp[h0,h1,h2]
 simp[h0,h1,h2]
theorem Se(m1 m2:bN)(w:World):Sem.run AS (binOp .neq 102 (Ik #[Y m1.av,U O m1.addr,U O m1.version]) (Ik #[Y m2.av,U O m2.addr,U O m2.version])) w=.ok (Ia (!gQ m1 m2)) w:=by
 rw[run_neq_struct,MW];rfl
section
open Go.ChangeShapes Go.WideShapes Go.ChangeAt
variable {H:Type} {enc:TypeId × Value→H} {w:World} {base:Nat} {spare:Nat→Bool} {held:Bool}
end
end Gw
namespace Gw
open Go.RowKit
def eW(ms:List bN)(p:Nat)(f:Bool):bN:=if f=true then ms.getD p dm else dm
theorem o6(ms:List bN)(v:Value)(name:ByteArray)(w:World)(h:Sl w v ms)(hn:ms.length<=6)(hr:aT ms) :
 aK 233 #[v,Y name] w λe w'=>∃(p:Nat) (f:Bool),e=AT (Ip #[Ik #[Y (eW ms p f).av,U O (eW ms p f).addr,U O (eW ms p f).version],Ia f])/\Below w.heap.size w w'/\At ms ⟨name,0,0⟩ p f:=by
 obtain⟨W0,bP,bK,fj,dX⟩:=bV w #[Y ⟨#[]⟩,U O 0,U O 0] 102;have HV:Hid (Sl W0 v ms):=h.below bK;have HF:Hid (aK 200 #[v,Ik #[Y name,U O 0,U O 0],IQ (.func 146) #[] #[]] W0 λe w'=>∃(p:Nat) (f:Bool),e=AT (Ip #[U O p,Ia f])/\Below W0.heap.size W0 w'/\At ms ⟨name,0,0⟩ p f):=
  gf ms v ⟨name,0,0⟩ W0 HV.out (by omega) hr
 have vp:Hid _:=bP;clear bP h hr;go_enter Tryz.func233,Tryz.ntmps233;go_wp2_with fail;rw[<- vp.out];refine HF.out.mono ?_;rintro e w1 ⟨p,f,rfl,aC,cA⟩;have fm:Hid _:=cA;have HV1:Hid (Sl w1 v ms):=HV.out.below aC;have fO:=aC.size;have aZ:Hid _:=bK.trans (aC.mono (by omega));have cI:=(aC.block w.heap.size (by omega)).trans dX;have t0:w1.cell? ⟨w.heap.size,0,be⟩=AI (Y ⟨#[]⟩):=ae cI 0;have t1:w1.cell? ⟨w.heap.size,1,be⟩=AI (U O 0):=ae cI 1;have t2:w1.cell? ⟨w.heap.size,2,be⟩=AI (U O 0):=ae cI 2;have tm:∀o,w1.frozen? ⟨w.heap.size,o,be⟩=false:=λo=>by simp[World.frozen?,cI]
 have aX:w.heap.size<w1.heap.size:=by omega
 clear cA HF HV dX cI bK aC vp fj fO;cases f
 .go_wp2_with fail
  exact IL (v:=Ip #[Ik #[Y ⟨#[]⟩,U O 0,U O 0],Ia false]) (by simp[results,Tryz.results233,go_sem,t0,t1,t2]) rfl ⟨p,false,rfl,(((aZ.out.setCell (p:=⟨w.heap.size,0,be⟩) (Ie _) _).setCell (p:=⟨w.heap.size,1,be⟩) (Ie _) _).setCell (p:=⟨w.heap.size,2,be⟩) (Ie _) _),fm.out⟩
 .have hp:=(fm.out.is.1 rfl).1
  obtain⟨a,cap,rfl,_,hsl⟩:=HV1.out;obtain⟨b,off,xl,CF,cL⟩:∃b off,a=AI ⟨b,off,be⟩/\b<w1.heap.size/\Row w1 b off ms:=by
   rcases hsl with h|h
   .rw[h] at hp;simp at hp
   .exact h
  subst xl;obtain⟨c0,c1,c2⟩:=cL p hp;clear cL hsl HV1;generalize hm:ms.getD p dm=m at *;have HM:Hid (eW ms p true=m):=by show eW ms p true=m;rw[eW,if_pos rfl,hm]
  clear hm;go_wp2_with fail;exact IL (v:=Ip #[Ik #[Y m.av,U O m.addr,U O m.version],Ia true]) (by simp[results,Tryz.results233,go_sem,t0,t1,t2]) rfl ⟨p,true,by rw[HM.out],(((aZ.out.setCell (p:=⟨w.heap.size,0,be⟩) (Ie _) _).setCell (p:=⟨w.heap.size,1,be⟩) (Ie _) _).setCell (p:=⟨w.heap.size,2,be⟩) (Ie _) _),fm.out⟩
end Gw
namespace Gw
open Go.RowKit
theorem aD{m:bN}(h:m.e=0):bl m.av=true/\0<=m.addr/\m.addr<=4294967295/\1<=m.version/\m.version<=1000000:=by
 unfold bN.e at h;split at h
 .rename_i h1
  split at h
  .rename_i h2
   split at h
   .rename_i h3
    simp[within] at h2 h3;exact⟨h1,h2.1,h2.2,h3.1,h3.2⟩
   .omega
  .omega
 .omega
theorem Sk{ms:List bN}(h:ba ms=0)(p:Nat)(hp:p<ms.length):(ms.getD p dm).e=0:=by
 have:=bn ms h ms[p] (List.getElem_mem hp);simpa[Ir,Ic hp] using this
theorem rN{ms:List bN}{t:bN}(h:ba ms=0){p:Nat}{f:Bool}(cA:At ms t p f):0<=(eW ms p f).version/\(eW ms p f).version<=1000000:=by
 cases f
 .exact⟨by show(0:Int)<=0;omega,by show(0:Int)<=1000000;omega⟩
 .have:=(aD (Sk h p (cA.is.1 rfl).1)).2.2.2
  rw[eW,if_pos rfl];omega
def KT(ms:List bN)(p:Nat)(f:Bool)(name:ByteArray)(addr:Int):bN:=⟨name,addr,(eW ms p f).version+1⟩
theorem KU(ms:List bN)(v:Value)(name:ByteArray)(addr:Int)(w:World)(hv:Sl w v ms)(h0:bp ms=0)(hs:name.size<=maxLen)(p:Nat)(f:Bool)(cA:At ms ⟨name,0,0⟩ p f) :
 aK 189 #[v,Y name,U O addr] w λe w'=>∃v',e=AT (Ip #[v',U O (aJ ms [KT ms p f name addr])])/\Below w.heap.size w w' /\
  (aJ ms [KT ms p f name addr]≠0->v'=J be 0 0)/\(aJ ms [KT ms p f name addr]=0->Own w.heap.size w' v' (aB ms [KT ms p f name addr])):=by
 have he:(bp ms !=0)=false:=by simpa using h0
 have hz:=aj h0;have HV:Hid (Sl w v ms):=hv;have HR:Hid (aT ms):=hz.2.1;have hlen:=hz.1;have HF:Hid _:=hz.2.2;have fm:Hid _:=cA;obtain⟨pa,ca,rfl,_,_⟩:=hv;have HG:Hid (KT ms p f name addr=⟨name,addr,(eW ms p f).version+1⟩):=rfl;generalize KT ms p f name addr=g at *;clear h0 hz cA;go_enter Tryz.func189,Tryz.ntmps189;go_wp2_with (go_at_call 99;refine(bD ms _ _ HV.out).mono ?_;rintro e w1 ⟨rfl,aC⟩);refine(o6 ms _ name _ (HV.out.below aC) hlen HR.out).mono ?_;rintro e w2 ⟨p',f',rfl,aL,sN⟩;obtain⟨rfl,rfl⟩:=eZ fm.out sN;have Bq:=rN HF.out sN;have bA:Hid _:=aC.trans (aL.mono aC.size);have jb:=bA.out.size;have HV2:Hid (Sl _ _ _):=(HV.out.below aC).below aL;clear sN aC aL HV;generalize eW ms p f=kn at *;obtain⟨kc,ka,kv⟩:=kn;simp only at Bq;obtain⟨Cr,Co⟩:=Bq;go_wp2_with fail;refine(kW ms [g] (J pa ms.length ca) (J (AI ⟨w2.heap.size+1+1,0,be⟩) 1 1) _ _ _ ?ha ?hb ?hpb ?hc0 ?hc1).mono ?_
 case ha=>exact HV2.out.below ((((((Ib _ _).alloc (Ie _) _).alloc (by simp) _).alloc (by simp;omega) _).alloc (by simp;omega) _))
 case hb=>
  rw[HG.out];refine pY _ _ _ ⟨name,addr,kv+1⟩ hs ?_;refine(Below.heap_alloc _ _ _ (by simp)).trans ?_;have h:=Ij ((w2.alloc (By #[Y kc,U O ka,U O kv] 102)).alloc (By #[Y name,U O addr,U O (kv+1)] 102)) (By #[Y name,U O addr,U O (kv+1)] 102);simpa using h
 case hpb=>simp
 case hc0=>exact(dR (by simp)).trans rfl
 case hc1=>exact(dR (by simp)).trans rfl
 rintro e w3 ⟨v',rfl,bY,rO,oz⟩;have Dp:Hid _:=rO;have cF:Hid _:=((((bA.out.alloc jb _).alloc (by simp;omega) _).alloc (by simp;omega) _).alloc (by simp;omega) _).trans (bY.mono (by simp;omega));have vq:Hid (aJ ms [g]=0->Own w.heap.size w3 v' (aB ms [g])):=λh=>(oz h).mono (by simp;omega);clear rO oz bY;go_wp2_with fail;go_ret2;exact⟨v',rfl,cF.out,Dp.out,vq.out⟩
end Gw
namespace Gw
open Go.RowKit
theorem kY{a b:List bN}(h:aJ a b=0):bp a=0/\bp b=0/\(aB a b).length<=6:=by
 by_cases ha:bp a=0
 .by_cases hb:bp b=0
  .rw[gj ha hb] at h
   refine⟨ha,hb,?_⟩;split at h
   .cases h
   .omega
  .rw[ni ha hb] at h;exact absurd h hb
 .rw[qE ha] at h;exact absurd h ha
theorem oA{a b:List bN}(h:aJ a b=0):bp (aB a b)=0:=by
 obtain⟨ha,hb,hl⟩:=kY h;have za:=aj ha;have zb:=aj hb;exact kT hl (dz b a za.2.1) λm hm=>by
  rcases dJ b a m hm with h|h
  .exact bn a za.2.2 m h
  .exact bn b zb.2.2 m h
end Gw
namespace Gw
open Go.RowKit
end Gw
namespace Gw
open Go.RowKit
end Gw
namespace Gw
open Go.RowKit
end Gw
namespace Gw
open Go.RowKit
theorem kH(a b:List bN)(va vb:Value)(w:World)(ha:Sl w va a)(hb:Sl w vb b)(xM:a.length<=1000) :
 Calls AS 48 #[va,vb] w λe w'=>∃r:Bool,e=AT (Ia r)/\(r=true↔a=b)/\Below w.heap.size w w':=by
 obtain⟨pa,ca,rfl,_,ha⟩:=ha;obtain⟨pv,cb,rfl,_,hb⟩:=hb;by_cases hl:a.length=b.length
 .have HA:Hid (a=[]\/∃b off,pa=AI ⟨b,off,be⟩/\b<w.heap.size/\Row w b off a):=ha
  have HB:Hid _:=hb;have HL:Hid (a.length=b.length):=hl;clear ha hb;rw[<- hl];clear hl;generalize tu:a.length=n at *;have HN:Hid (a.length=n):=tu;clear tu;have abG:Tryz.prog.eqGuardType Tryz.prog.depth 102=false:=by kernel_rfl
  go_enter Tryz.func48,Tryz.ntmps48;go_wp2_with fail;go_loopw [13] (λi w'=>∃k:Nat,k<=n/\i=U O k/\Below w.heap.size w w'/\Hid (∀j,j<k->a.getD j dm=b.getD j dm)) (λi _=>n-(intOf i).toNat)
  case atStart=>exact⟨0,IF _,rfl,Ib _ _,λj h=>absurd h (Jj _)⟩
  case round=>
   obtain⟨k,hk,rfl,aO,hz⟩:=hrel;obtain⟨cK,kj⟩:=cd aO;have cB:=aO.size;by_cases aX:k<n
   .obtain⟨b1,o1,ru,kb,ku⟩:∃b off,pa=AI ⟨b,off,be⟩/\b<w.heap.size/\Row w b off a:=by
     rcases HA.out with h|h
     .have:=HN.out;rw[h] at this;simp at this;omega
     .exact h
    obtain⟨b2,o2,qW,jE,mI⟩:∃nf off,pv=AI ⟨nf,off,be⟩/\nf<w.heap.size/\Row w nf off b:=by
     rcases HB.out with h|h
     .have h2:=HN.out;have h3:=HL.out;rw[h] at h3;simp at h3;omega
     .exact h
    subst ru;subst qW;obtain⟨c0,c1,c2⟩:=ku k (by rw[HN.out];exact aX);obtain⟨d0,d1,d2⟩:=mI k (by have h2:=HN.out;have h3:=HL.out;omega);clear ku mI;have HF:Hid (a.getD k dm≠b.getD k dm->a≠b):=λh e=>h (by rw[e]);have HZ:Hid (a.getD k dm=b.getD k dm->∀j,j<k+1->a.getD j dm=b.getD j dm):=λh j hj=>by
     rcases I6.1 hj with h2|rfl
     .exact hz.out j h2
     .exact h
    have qF:=Se (a.getD k dm) (b.getD k dm);generalize a.getD k dm=m1 at *;generalize b.getD k dm=m2 at *;rcases hs:gQ m1 m2 with _|_
    .rw[hs] at qF
     have aP:Hid (a≠b):=HF.out (λe=>by rw[<- fK,hs] at e;cases e);go_wp2_with fail;go_quiet (fail)
     go_wp2_with fail;go_ret;exact⟨false,rfl,⟨λh=>(by cases h),λh=>absurd h aP.out⟩,below_drewN aO _⟩
    .rw[hs] at qF
     have heq:Hid (m1=m2):=(fK m1 m2).1 hs;go_wp2_with fail;go_quiet (fail)
     go_wp2_with fail;go_roundw
     case rel=>exact⟨k+1,by omega,by go_num,below_drewN aO _,HZ.out heq.out⟩
     case measure=>simp[intOf];omega
   .have gF:Hid (a=b):=by
     apply List.ext_getElem (HN.out.trans HL.out);intro j h1 h2;have:=hz.out j (by have:=HN.out;omega);simpa[Ir,Ic h1,Ic h2] using this
    go_wp2_with fail;go_ret;exact⟨true,rfl,⟨λ_=>gF.out,λ_=>rfl⟩,aO⟩
 .have aP:((a.length:Int)!=(b.length:Int))=true:=by rw[bne_iff_ne];omega
  have HF:Hid (a≠b):=λe=>hl (by rw[e]);clear ha hb;go_enter Tryz.func48,Tryz.ntmps48;go_wp2_with fail;go_ret;exact⟨false,rfl,⟨λh=>(by cases h),λh=>absurd h HF.out⟩,Ib _ _⟩
end Gw
end Go.Proofs.YtbfghimjdlpicaaGreatDoor
