import Derived.Test.YtbfghimjdlpicaaGreatDoorna5
set_option maxHeartbeats 800000
set_option maxRecDepth 100000
open Go.Value renaming slice→J,func→IQ,bool→Ia,int→U,agg→Ik,string→Y,tuple→Ip
open Go.Ending renaming returned→AT
open Go.Proofs.Tryz renaming prog→AS
open Go.IntKind renaming i64→O
open Nat renaming not_lt_zero→Jj,le_refl→Ie
open Go.Sort renaming grow→Ig
open Go renaming redrawn→Im,Regrown→JP,wp_region_quiet_below→IA
open Go.Calls renaming regrown_of→IV
namespace Go.Proofs.YtbfghimjdlpicaaGreatDoor
namespace Wh
open Go.RowKit
theorem kG(ms:List bT)(b off cap:Nat)(w:World)(hr:Row w b off ms)(hb:b<w.heap.size)(hn:ms.length<=20) :
 Calls AS 151 #[J (some ⟨b,off,none⟩) ms.length cap,IQ (.func 111) #[] #[]] w λe w'=>e=AT (Ia (aR ms))/\Below w.heap.size w w':=by
 have HR:Hid (Row w b off ms):=hr;clear hr;have H4:Hid (∀k,k+1<ms.length->0<=ord (ms.getD k dm) (ms.getD (k+1) dm)->aR ms=false):=λk hk hl=>by
  rcases h:aR ms with _|_
  .rfl
  .have:=fV ms h k hk;omega
 have H0:Hid ((∀j,j+1<ms.length->ord (ms.getD j dm) (ms.getD (j+1) dm)<0)->aR ms=true):=fW ms;generalize hN:ms.length=n at *;have HN:Hid (ms.length=n):=hN;clear hN;generalize hC:aR ms=res at *;have HC:Hid (aR ms=res):=hC;clear hC;go_enter Tryz.func151,Tryz.ntmps151;go_wp2_with fail;go_loopw [5] (λi w'=>∃k:Nat,(k+1<=n\/k=0)/\i=U O (k+1)/\Below w.heap.size w w'/\Hid (∀j,j<k->ord (ms.getD j dm) (ms.getD (j+1) dm)<0)) (λi _=>n-(intOf i).toNat)
 case atStart=>exact⟨0,.inr rfl,rfl,Below.refl _ _,λj h=>absurd h (Jj _)⟩
 case round=>
  obtain⟨q,hq,rfl,aO,hz⟩:=hrel;obtain⟨cK,kj⟩:=cd aO;have cB:=aO.size;by_cases aX:q+1<n
  .have F:=((HR.out q (by rw[HN.out];omega)).eq (λo=>cK b o hb)).re
   have G:=((HR.out (q+1) (by rw[HN.out];exact aX)).eq (λo=>cK b o hb)).re;have HK:Hid (0<=ord (ms.getD q dm) (ms.getD (q+1) dm)->res=false):=λh=>H4.out q aX h;have HZ:Hid (ord (ms.getD q dm) (ms.getD (q+1) dm)<0->∀j,j<q+1->ord (ms.getD j dm) (ms.getD (j+1) dm)<0):=λh j hj=>by
    rcases Nat.lt_succ_iff_lt_or_eq.1 hj with h2|rfl
    .exact hz.out j h2
    .exact h
   generalize ms.getD q dm=m1 at *;generalize ms.getD (q+1) dm=m2 at *;have hN:∀d os,Calls AS 111 #[Ik #[Y m1.node,U O m1.x,U O m1.y,U O m1.z,U O m1.h,U O m1.s],Ik #[Y m2.node,U O m2.x,U O m2.y,U O m2.z,U O m2.h,U O m2.s]] (Ig (Im wr d) os) λe fR=>e=AT (U O (ord m1 m2))/\∃p:JP,fR=Ig (Im wr p.d) p.os:=λd os=>IV (dK m1 m2 _);simp only[As] at F G;clear cK kj;generalize ord m1 m2=r at *;have Lr:IntKind.i64.wrap (q:Int)=(q:Int):=by rw[IntKind.wrap_i64];omega
   have Gn:q<n:=by omega
   have hq1:(q:Int)+1<(n:Int):=by omega
   have hq0:(0:Int)<=(q:Int)+1:=by omega
   have Gp:((q:Int)+1).toNat=q+1:=by omega
   go_wp2_with fail;refine IA (by kernel_rfl) (by kernel_rfl) ?_;repeat(quiet_step (exact hN _ _))
   refine bu λdq gW dF=>?_;clear hN F G;by_cases hl:r<0
   .have jE:¬ (0<=r):=by omega
    go_wp2_with fail;go_roundw
    case rel=>exact⟨q+1,.inl (by omega),by go_num,aO.trans (dF.out.mono cB),HZ.out hl⟩
    case measure=>simp[intOf];omega
   .have jE:0<=r:=by omega
    have h4:Hid (res=false):=HK.out jE;go_wp2_with fail;go_ret;exact⟨aW h4.out.symm,aO.trans (dF.out.mono cB)⟩
  .have h0:Hid (res=true):=H0.out λj hj=>hz.out j (by omega)
   go_wp2_with fail;go_ret;exact⟨aW h0.out.symm,aO⟩
theorem gZ(a:Option Addr)(cap:Nat)(fv:Value)(w:World) :
 Calls AS 151 #[J a 0 cap,fv] w λe w'=>e=AT (Ia true)/\w'=w:=by
 go_enter Tryz.func151,Tryz.ntmps151;go_wp2_with fail;go_loop [5] (λi=>i=U O 1) (λ_=>0)
 case atStart=>rfl
 case round=>
  subst hrel;go_wp2_with fail;go_ret;exact⟨rfl,rfl⟩
theorem il(ms:List bT)(b off cap:Nat)(lk:bT)(w:World)(hr:Row w b off ms)(hb:b<w.heap.size)(hn:ms.length<=40)(iY:∀i j,i<=j->j<ms.length->ord (ms.getD j dm) lk<0->ord (ms.getD i dm) lk<0) :
 Calls AS 162 #[J (some ⟨b,off,none⟩) ms.length cap,Ik #[Y lk.node,U O lk.x,U O lk.y,U O lk.z,U O lk.h,U O lk.s],IQ (.func 111) #[] #[]] w λe w'=>∃(p:Nat) (f:Bool),e=AT (Ip #[U O p,Ia f])/\Below w.heap.size w w' /\
  p<=ms.length/\(∀j,j<p->ord (ms.getD j dm) lk<0)/\(∀j,p<=j->j<ms.length->0<=ord (ms.getD j dm) lk)/\(f=true↔p<ms.length/\ord (ms.getD p dm) lk=0):=by
 have HR:Hid (Row w b off ms):=hr;clear hr;have HM:Hid _:=iY;clear iY;generalize hN:ms.length=n at *;have HN:Hid (ms.length=n):=hN;clear hN;go_enter Tryz.func162,Tryz.ntmps162;go_wp2_with fail;obtain⟨W0,bP,bK,fj,dX⟩:=bV w #[Y lk.node,U O lk.x,U O lk.y,U O lk.z,U O lk.h,U O lk.s] 116;have Hd:Hid (Row W0 b off ms):=HR.out.later bK hb;have HT:Hid (As W0 w.heap.size 0 lk):=⟨ae dX 0,ae dX 1,ae dX 2,ae dX 3,ae dX 4,ae dX 5⟩;have df:Hid (Below w.heap.size w W0):=bK;have vp:Hid (W0=w.alloc (.cells #[Y lk.node,U O lk.x,U O lk.y,U O lk.z,U O lk.h,U O lk.s] 116)):=bP;clear dX bK HR bP;have yN:b<w.heap.size+1:=by omega
 go_loopw [9,10] (λi j w'=>∃k l:Nat,k<=l/\l<=n/\i=U O k/\j=U O l/\Below (w.heap.size+1) W0 w'/\Hid (∀j,j<k->ord (ms.getD j dm) lk<0)/\Hid (∀j,l<=j->j<n->0<=ord (ms.getD j dm) lk)) (λi j _=>(intOf j).toNat-(intOf i).toNat)
 case atStart=>exact⟨0,n,Nat.zero_le _,Ie _,rfl,rfl,by rw[vp.out];exact Below.refl _ _,λj h=>absurd h (Jj _),λj h1 h2=>by omega⟩
 case round=>
  obtain⟨k,l,ie,Nz,rfl,rfl,aO,Au,Av⟩:=hrel;have cB:=aO.size;have cK:∀b o,b<w.heap.size+1->wr.cell? ⟨b,o,none⟩=W0.cell? ⟨b,o,none⟩:=λb o h=>aO.cell (p:=⟨b,o,none⟩) h;have G:=(HT.out.eq (λo=>cK w.heap.size o (by omega))).re;simp only[As,Nat.zero_add] at G;by_cases aX:k<l
  .obtain⟨h,hh,h1,h2⟩:∃h:Nat,((k:Int)+(l:Int))/2=(h:Int)/\k<=h/\h<l:=⟨(k+l)/2,by omega,by omega,by omega⟩
   have F:=((Hd.out h (by rw[HN.out];omega)).eq (λo=>cK b o yN)).re;have rC:=HM.out;have HK:Hid (ord (ms.getD h dm) lk<0->∀j,j<h+1->ord (ms.getD j dm) lk<0):=λhx j hj=>rC j h (by omega) (by omega) hx;have HL:Hid (0<=ord (ms.getD h dm) lk->∀j,h<=j->j<n->0<=ord (ms.getD j dm) lk):=λhx j hj yP=>by
    apply Int.not_lt.1;intro hq;have:=rC h j hj yP hq;omega
   clear rC;have hhn:h<n:=by omega
   generalize ms.getD h dm=m at *;have hO:∀d os,Calls AS 111 #[Ik #[Y m.node,U O m.x,U O m.y,U O m.z,U O m.h,U O m.s],Ik #[Y lk.node,U O lk.x,U O lk.y,U O lk.z,U O lk.h,U O lk.s]] (Ig (Im wr d) os) λe fR=>e=AT (U O (ord m lk))/\∃p:JP,fR=Ig (Im wr p.d) p.os:=λd os=>IV (dK m lk _);simp only[As] at F;clear cK;generalize ord m lk=r at *;go_wp2_with fail;refine IA (by kernel_rfl) (by kernel_rfl) ?_;repeat(quiet_step (exact hO _ _))
   refine bu λdq gW dF=>?_;clear hO F G;by_cases xx:r<0
   .go_wp2_with fail
    exact⟨⟨h+1,l,by omega,by omega,by go_num,rfl,aO.trans (dF.out.mono (by omega)),HK.out xx,Av⟩,by simp[intOf];omega⟩
   .have BD:0<=r:=by omega
    go_wp2_with fail;exact⟨⟨k,h,by omega,by omega,rfl,rfl,aO.trans (dF.out.mono (by omega)),Au,HL.out BD⟩,by simp[intOf];omega⟩
  .have Ef:l=k:=by omega
   subst Ef;by_cases eJ:l<n
   .have F:=((Hd.out l (by rw[HN.out];omega)).eq (λo=>cK b o yN)).re
    generalize hm:ms.getD l dm=m at *;have Hm:Hid (ms.getD l dm=m):=hm;clear hm;have hO:∀d os,Calls AS 111 #[Ik #[Y m.node,U O m.x,U O m.y,U O m.z,U O m.h,U O m.s],Ik #[Y lk.node,U O lk.x,U O lk.y,U O lk.z,U O lk.h,U O lk.s]] (Ig (Im wr d) os) λe fR=>e=AT (U O (ord m lk))/\∃p:JP,fR=Ig (Im wr p.d) p.os:=λd os=>IV (dK m lk _);simp only[As] at F;clear cK;generalize DY:ord m lk=r at *;have Hr:Hid (ord m lk=r):=DY;clear DY;go_wp2_with fail;refine IA (by kernel_rfl) (by kernel_rfl) ?_;repeat(quiet_step (exact hO _ _))
    refine bu λdq gW dF=>?_;clear hO F G;go_wp2_with fail;go_ret2;refine⟨l,_,rfl,df.out.trans ((aO.trans (dF.out.mono (by omega))).mono (by omega)),by omega,Au.out,Av.out,?_⟩;rw[Hm.out,Hr.out];simp[eJ]
   .clear G
    have hkd:decide ((l:Int)<(n:Int))=false:=by simp;omega
    go_wp2_with fail;go_quiet (fail)
    go_wp2_with fail;go_ret2;refine⟨l,_,rfl,df.out.trans ((below_drewN aO _).mono (by omega)),by omega,Au.out,Av.out,?_⟩;simp[eJ]
theorem gu(a:Option Addr)(cap:Nat)(lk:bT)(fv:Value)(w:World) :
 Calls AS 162 #[J a 0 cap,Ik #[Y lk.node,U O lk.x,U O lk.y,U O lk.z,U O lk.h,U O lk.s],fv] w λe w'=>e=AT (Ip #[U O 0,Ia false])/\Below w.heap.size w w':=by
 go_enter Tryz.func162,Tryz.ntmps162;go_wp2_with fail;go_loop [9,10] (λi j=>i=U O 0/\j=U O 0) (λ_ _=>0)
 case atStart=>exact⟨rfl,rfl⟩
 case round=>
  obtain⟨rfl,rfl⟩:=hrel;go_wp2_with fail;go_quiet (fail)
  go_wp2_with fail;go_ret2;exact⟨rfl,below_drewN ((Below.refl _ _).alloc (Ie _) _) _⟩
theorem gv(ms:List bT)(v:Value)(lk:bT)(w:World)(h:Sl w v ms)(hn:ms.length<=40)(iY:∀i j,i<=j->j<ms.length->ord (ms.getD j dm) lk<0->ord (ms.getD i dm) lk<0) :
 Calls AS 162 #[v,Ik #[Y lk.node,U O lk.x,U O lk.y,U O lk.z,U O lk.h,U O lk.s],IQ (.func 111) #[] #[]] w λe w'=>∃(p:Nat) (f:Bool),e=AT (Ip #[U O p,Ia f])/\Below w.heap.size w w'/\At ms lk p f:=by
 obtain⟨a,cap,rfl,hs,h⟩:=h;rcases h with rfl|⟨b,off,rfl,hb,hr⟩
 .refine(gu a cap lk _ w).mono ?_
  rintro e w' ⟨rfl,hb⟩;exact⟨0,false,rfl,hb,⟨by simp,λj h=>by omega,λj h h2=>by simp at h2,by simp⟩⟩
 .refine(il ms b off cap lk w hr hb hn iY).mono ?_
  rintro e w' ⟨p,f,rfl,aO,g1,g2,g3,g4⟩;exact⟨p,f,rfl,aO,⟨g1,g2,g3,g4⟩⟩
theorem gf(ms:List bT)(v:Value)(lk:bT)(w:World)(h:Sl w v ms)(hn:ms.length<=40)(hr:aT ms) :
 Calls AS 110 #[v,Ik #[Y lk.node,U O lk.x,U O lk.y,U O lk.z,U O lk.h,U O lk.s],IQ (.func 111) #[] #[]] w λe w'=>∃(p:Nat) (f:Bool),e=AT (Ip #[U O p,Ia f])/\Below w.heap.size w w'/\At ms lk p f:=by
 have HC:Hid (∀w',Below w.heap.size w w'->Calls AS 162 #[v,Ik #[Y lk.node,U O lk.x,U O lk.y,U O lk.z,U O lk.h,U O lk.s],IQ (.func 111) #[] #[]] w' λe fR=>∃(p:Nat) (f:Bool),e=AT (Ip #[U O p,Ia f])/\Below w'.heap.size w' fR/\At ms lk p f):=
  λw' hb=>gv ms v lk w' (h.below hb) hn (eu hr lk)
 clear h hn hr;go_enter Tryz.func110,Tryz.ntmps110;go_wp2_with (go_at_call 162;refine(HC.out _ ?hb).mono ?_)
 case hb=>exact(Below.refl _ _).alloc (Ie _) _
 rintro e w' ⟨p,f,rfl,aO,cA⟩;have fm:Hid (At ms lk p f):=cA;clear cA;go_wp2_with fail;go_ret2;exact⟨p,f,rfl,((Below.refl _ _).alloc (Ie _) _).trans (aO.mono (by simp)),fm.out⟩
end Wh
end Go.Proofs.YtbfghimjdlpicaaGreatDoor
